import PyProof.Rows.All
import Wide.All
import OpenK.AllK
import Wide.FinOn
import HandS.ForMost
import HandS.Exc
import HandS.ExcOwn
import HandS.CallSlots
import HandS.TupAny
import HandS.Conv
import HandS.WideBits
import HandS.Zip
import HandS.Wide
import HandS.SortInts
import HandS.Style
import HandS.NoneIn
import HandS.More
import HandS.WordsExc
import HandS.Gcd
import KE.KRevSl
import HandS.Iter
import KE.GoesMore
import HandS.Dict
import HandS.SortRule
import HandS.Deep
import HandS.TupMul
import PyProof.StrBlock2
import HandS.StrMore
import HandS.Strs
import KE.KSortTupG
import HandS.IsInst
import PyProof.PureStr
import PySem.Challenge.RW_foldworld_k14_whole_candidates_judged
set_option autoImplicit false
namespace Dw
/-- in how many ways a row ends that has so many feet left and stands so high -/
def W : Nat → Nat → Nat
  | 0, 0 => 1
  | 0, _ + 1 => 0
  | l + 1, 0 => W l 1
  | l + 1, h + 1 => W l (h + 2) + W l h
def D : Nat → List Nat → Prop
  | h, [] => h = 0
  | h, c :: s => (c = 40 ∧ D (h + 1) s) ∨ (c = 41 ∧ ∃ g, h = g + 1 ∧ D g s)
/-- all of them in their order -/
def all : Nat → Nat → List (List Nat)
  | 0, 0 => [[]]
  | 0, _ + 1 => []
  | l + 1, 0 => (all l 1).map (40 :: ·)
  | l + 1, h + 1 => (all l (h + 2)).map (40 :: ·) ++ (all l h).map (41 :: ·)
end Dw

set_option autoImplicit false
namespace Dw
/-- an arch row: the first foot's arch over a, b behind it -/
inductive Fo where
  | nil | node (a b : Fo)
def sz : Fo → Nat
  | .nil => 0
  | .node a b => sz a + sz b + 2
def word : Fo → List Nat
  | .nil => []
  | .node a b => 40 :: (word a ++ 41 :: word b)
theorem word_len : ∀ f, (word f).length = sz f
  | .nil => rfl
  | .node a b => by simp [word, sz, word_len a, word_len b]; omega
def app : Fo → Fo → Fo
  | .nil, g => g
  | .node a b, g => .node a (app b g)
theorem sz_app : ∀ f g, sz (app f g) = sz f + sz g
  | .nil, g => by simp [app, sz]
  | .node a b, g => by simp [app, sz, sz_app b g]; omega
/-- each word that comes down to 0 is a row -/
theorem of_D : ∀ n s h, s.length ≤ n → D h s → ∃ f r, s = word f ++ r ∧ ((h = 0 ∧ r = []) ∨ ∃ g t, h = g + 1 ∧ r = 41 :: t ∧ D g t)
  | 0, [], h, _, q => ⟨.nil, [], rfl, .inl ⟨q, rfl⟩⟩
  | 0, _ :: _, h, l, _ => by simp at l
  | n + 1, [], h, _, q => ⟨.nil, [], rfl, .inl ⟨q, rfl⟩⟩
  | n + 1, c :: s, h, l, q => by
    simp at l
    rcases q with ⟨rfl, q⟩ | ⟨rfl, g, rfl, q⟩
    · obtain ⟨a, r, e, w⟩ := of_D n s (h + 1) (by omega) q
      rcases w with ⟨w, _⟩ | ⟨g, t, w1, w2, w3⟩
      · omega
      · have : g = h := by omega
        subst this w2
        have lt : t.length ≤ n := by
          have := congrArg List.length e
          simp at this
          omega
        obtain ⟨b, r2, e2, w⟩ := of_D n t g lt w3
        exact ⟨.node a b, r2, by rw [e, e2]; simp [word], w⟩
    · exact ⟨.nil, 41 :: s, rfl, .inr ⟨g, s, rfl, rfl, q⟩⟩
theorem row_of_D {s : List Nat} (q : D 0 s) : ∃ f, s = word f := by
  obtain ⟨f, r, e, w⟩ := of_D s.length s 0 (Nat.le_refl _) q
  rcases w with ⟨_, rfl⟩ | ⟨g, t, w, _⟩
  · exact ⟨f, by simpa using e⟩
  · omega
theorem D_app : ∀ f h t, D h t → D h (word f ++ t)
  | .nil, h, t, q => q
  | .node a b, h, t, q => by
    refine .inl ⟨rfl, ?_⟩
    show D (h + 1) ((word a ++ 41 :: word b) ++ t)
    rw [List.append_assoc]
    exact D_app a (h + 1) _ (.inr ⟨rfl, h, rfl, D_app b h t q⟩)
theorem D_word (f : Fo) : D 0 (word f) := by simpa using D_app f 0 [] rfl
/-- the mates, from foot p on -/
def M : Nat → Fo → List Nat
  | _, .nil => []
  | p, .node a b => (p + sz a + 1) :: (M (p + 1) a ++ p :: M (p + sz a + 2) b)
theorem M_len : ∀ f p, (M p f).length = sz f
  | .nil, _ => rfl
  | .node a b, p => by simp [M, sz, M_len a, M_len b]; omega
/-- the arches as they close -/
def Cl : Nat → Fo → List (Nat × Nat)
  | _, .nil => []
  | p, .node a b => Cl (p + 1) a ++ (p, p + sz a + 1) :: Cl (p + sz a + 2) b
theorem M_app : ∀ f g p, M p (app f g) = M p f ++ M (p + sz f) g
  | .nil, g, p => by simp [app, M, sz]
  | .node a b, g, p => by
    simp only [app, M, sz, M_app b g]
    simp
    congr 1
    omega
/-- the first foot becomes the last one -/
def tu : Fo → Fo
  | .nil => .nil
  | .node a b => app a (.node b .nil)
def mir : Fo → Fo
  | .nil => .nil
  | .node a b => app (mir b) (.node (mir a) .nil)
def sh : Fo → Nat
  | .nil => 0
  | .node .nil b => sh b + 1
  | .node (.node a c) b => sh (.node a c) + sh b
theorem sz_tu : ∀ f, sz (tu f) = sz f
  | .nil => rfl
  | .node a b => by simp [tu, sz_app, sz, Nat.add_assoc]
theorem sz_mir : ∀ f, sz (mir f) = sz f
  | .nil => rfl
  | .node a b => by simp [mir, sz_app, sz, sz_mir a, sz_mir b]; omega
theorem M_up : ∀ f p d, M (p + d) f = (M p f).map (· + d)
  | .nil, p, d => rfl
  | .node a b, p, d => by
    have e1 : p + d + 1 = p + 1 + d := by omega
    have e2 : p + d + sz a + 2 = p + sz a + 2 + d := by omega
    simp only [M, List.map_cons, List.map_append]
    rw [e1, e2, M_up a, M_up b]
    congr 1
    omega
theorem M_in : ∀ f p m, m ∈ M p f → p ≤ m ∧ m < p + sz f
  | .nil, p, m, h => by simp [M] at h
  | .node a b, p, m, h => by
    unfold M at h
    rcases List.mem_cons.mp h with rfl | h
    · simp [sz]; omega
    · rcases List.mem_append.mp h with h | h
      · have := M_in a _ m h; simp [sz]; omega
      · rcases List.mem_cons.mp h with rfl | h
        · simp [sz]
        · have := M_in b _ m h; simp [sz]; omega
def sg : Nat → List Nat → List Nat
  | _, [] => []
  | p, m :: ms => (if p < m then 40 else 41) :: sg (p + 1) ms
theorem sg_app : ∀ xs ys p, sg p (xs ++ ys) = sg p xs ++ sg (p + xs.length) ys
  | [], ys, p => by simp [sg]
  | x :: xs, ys, p => by
    simp only [List.cons_append, sg, sg_app xs ys, List.length_cons]
    rw [show p + 1 + xs.length = p + (xs.length + 1) by omega]
theorem word_sg : ∀ f p, word f = sg p (M p f)
  | .nil, p => rfl
  | .node a b, p => by
    have e : p + 1 + sz a + 1 = p + sz a + 2 := by omega
    simp only [M, sg, sg_app, word, M_len]
    rw [if_pos (by omega), if_neg (by omega), e, ← word_sg a, ← word_sg b]
/-- one foot back round the circle of n -/
def bk (n x : Nat) : Nat := if x = 0 then n - 1 else x - 1
def rl : List Nat → List Nat
  | [] => []
  | x :: xs => xs ++ [x]
theorem M_tu (f : Fo) : M 0 (tu f) = (rl (M 0 f)).map (bk (sz f)) := by
  cases f with
  | nil => rfl
  | node a b =>
    have up : ∀ f p, (M (p + 1) f).map (bk (sz (.node a b))) = M p f := fun f p => by
      rw [M_up f p 1, List.map_map]
      conv => rhs; rw [← List.map_id (M p f)]
      refine List.map_congr_left fun x _ => ?_
      simp [bk]
    simp only [tu, M_app, M, rl, Nat.zero_add]
    rw [List.map_append, List.map_append, List.map_cons, up a 0, show sz a + 2 = sz a + 1 + 1 by omega, up b (sz a + 1)]
    simp [bk, sz]

theorem rl_map (g : Nat → Nat) : ∀ xs, rl (xs.map g) = (rl xs).map g
  | [] => rfl
  | x :: xs => by simp [rl]
def it {α : Type} (g : α → α) : Nat → α → α
  | 0, x => x
  | n + 1, x => it g n (g x)
theorem M_it : ∀ k f, M 0 (it tu k f) = (it rl k (M 0 f)).map (it (bk (sz f)) k)
  | 0, f => by simp [it]
  | k + 1, f => by
    have cm : ∀ k g xs, it rl k (xs.map g) = (it rl k xs).map g := by
      intro k
      induction k with
      | zero => intro g xs; rfl
      | succ k ih => intro g xs; rw [it, rl_map, ih]; rfl
    rw [it, M_it k, M_tu, sz_tu, cm, List.map_map]
    rfl
theorem rl_it : ∀ xs ys : List Nat, it rl xs.length (xs ++ ys) = ys ++ xs
  | [], ys => by simp [it]
  | x :: xs, ys => by
    rw [List.length_cons, it]
    show it rl xs.length (xs ++ ys ++ [x]) = _
    rw [List.append_assoc, rl_it xs (ys ++ [x])]
    simp
theorem bk_down {n : Nat} : ∀ k x, k ≤ x → it (bk n) k x = x - k
  | 0, x, _ => rfl
  | k + 1, x, h => by
    rw [it, show bk n x = x - 1 by unfold bk; rw [if_neg (by omega)], bk_down k (x - 1) (by omega)]
    omega
theorem it_add {α : Type} (g : α → α) : ∀ j k x, it g (j + k) x = it g k (it g j x)
  | 0, k, x => by rw [Nat.zero_add]; rfl
  | j + 1, k, x => by rw [show j + 1 + k = (j + k) + 1 by omega, it, it_add g j k]; rfl
theorem bk_all {n x : Nat} (h : x < n) : it (bk n) n x = x := by
  have e : n = x + (1 + (n - 1 - x)) := by omega
  conv => lhs; rw [show it (bk n) n x = it (bk n) (x + (1 + (n - 1 - x))) x from by rw [← e]]
  rw [it_add, bk_down x x (Nat.le_refl _), it_add, Nat.sub_self]
  show it (bk n) (n - 1 - x) (bk n 0) = x
  rw [show bk n 0 = n - 1 from rfl, bk_down _ _ (by omega)]
  omega
/-- as many turns as feet lead back -/
theorem turns (f : Fo) : word (it tu (sz f) f) = word f := by
  have e : M 0 (it tu (sz f) f) = M 0 f := by
    rw [M_it]
    have := rl_it (M 0 f) []
    rw [M_len, List.append_nil, List.nil_append] at this
    rw [this]
    conv => rhs; rw [← List.map_id (M 0 f)]
    refine List.map_congr_left fun x hx => ?_
    have := M_in f 0 x hx
    rw [bk_all (by omega)]
    rfl
  rw [word_sg _ 0, e, ← word_sg]
end Dw

set_option Elab.async false
set_option linter.all false
set_option maxRecDepth 100000
set_option maxHeartbeats 4000000
set_option autoImplicit false
namespace Dw
theorem sz_even : ∀ f : Fo, sz f % 2 = 0
  | .nil => rfl
  | .node a b => by
    have := sz_even a
    have := sz_even b
    simp only [sz]
    omega
/-- mates are mates of each other, one with an even number, one with an odd one -/
theorem M_inv : ∀ (f : Fo) (p i m : Nat), (M p f)[i]? = some m → ∃ j, m = p + j ∧ (M p f)[j]? = some (p + i) ∧ (i + j) % 2 = 1
  | .nil, p, i, m, h => by simp [M] at h
  | .node a b, p, i, m, h => by
    have la := M_len a (p + 1)
    have ea := sz_even a
    have sh : M p (.node a b) = (p + sz a + 1) :: (M (p + 1) a ++ p :: M (p + sz a + 2) b) := by simp [M]
    rw [sh] at h ⊢
    cases i with
    | zero =>
      simp only [List.getElem?_cons_zero, Option.some.injEq] at h
      refine ⟨sz a + 1, by omega, ?_, by omega⟩
      rw [List.getElem?_cons_succ, List.getElem?_append_right (by omega), la, Nat.sub_self]
      rfl
    | succ i =>
      rw [List.getElem?_cons_succ] at h
      by_cases c : i < sz a
      · rw [List.getElem?_append_left (by omega)] at h
        obtain ⟨j, e1, e2, e3⟩ := M_inv a (p + 1) i m h
        have jl : j < sz a := by
          have := (List.getElem?_eq_some_iff.mp e2).1
          omega
        refine ⟨j + 1, by omega, ?_, by omega⟩
        rw [List.getElem?_cons_succ, List.getElem?_append_left (by omega), e2]
        congr 1
        omega
      · rw [List.getElem?_append_right (by omega), la] at h
        by_cases d : i = sz a
        · subst d
          rw [Nat.sub_self] at h
          simp only [List.getElem?_cons_zero, Option.some.injEq] at h
          refine ⟨0, by omega, ?_, by omega⟩
          rw [List.getElem?_cons_zero]
          congr 1
        · rw [show i - sz a = (i - sz a - 1) + 1 by omega, List.getElem?_cons_succ] at h
          obtain ⟨j, e1, e2, e3⟩ := M_inv b (p + sz a + 2) _ m h
          refine ⟨sz a + 2 + j, by omega, ?_, by omega⟩
          rw [show sz a + 2 + j = (sz a + 1 + j) + 1 by omega, List.getElem?_cons_succ, List.getElem?_append_right (by omega), la, show sz a + 1 + j - sz a = j + 1 by omega, List.getElem?_cons_succ, e2]
          congr 1
          omega
/-! ### rounds -/
/-- mates below N: each the mate of its mate, of the other kind -/
structure Mt (N : Nat) (u : Nat → Nat) : Prop where
  lt : ∀ x, x < N → u x < N
  inv : ∀ x, x < N → u (u x) = x
  par : ∀ x, x < N → (x + u x) % 2 = 1
def mt (f : Fo) (x : Nat) : Nat := (M 0 f)[x]?.getD 0
theorem mt_at {f : Fo} {x : Nat} (h : x < sz f) : (M 0 f)[x]? = some (mt f x) := by
  unfold mt
  rw [List.getElem?_eq_getElem (by rw [M_len]; exact h)]
  rfl
theorem mt_Mt (f : Fo) : Mt (sz f) (mt f) where
  lt x h := by
    have := M_in f 0 (mt f x) (List.mem_of_getElem? (mt_at h))
    omega
  inv x h := by
    obtain ⟨j, e1, e2, _⟩ := M_inv f 0 x _ (mt_at h)
    have : j = mt f x := by omega
    subst this
    unfold mt at e2 ⊢
    rw [e2]
    simp
  par x h := by
    obtain ⟨j, e1, _, e3⟩ := M_inv f 0 x _ (mt_at h)
    omega
/-- going along from a foot, the upper arch first -/
def wk (u l : Nat → Nat) (f : Nat) : Nat → Nat → List Nat
  | 0, _ => []
  | k + 1, x => x :: u x :: (if l (u x) = f then [] else wk u l f k (l (u x)))
def walk (u l : Nat → Nat) (N f : Nat) : List Nat := wk u l f N f
def it2 (u l : Nat → Nat) : Nat → Nat → Nat
  | 0, x => x
  | k + 1, x => it2 u l k (l (u x))
theorem it2_succ (u l : Nat → Nat) : ∀ (k x : Nat), it2 u l (k + 1) x = l (u (it2 u l k x))
  | 0, x => rfl
  | k + 1, x => by
    show it2 u l (k + 1) (l (u x)) = l (u (it2 u l k (l (u x))))
    exact it2_succ u l k _
theorem it2_add (u l : Nat → Nat) (x : Nat) : ∀ (j k : Nat), it2 u l (j + k) x = it2 u l j (it2 u l k x)
  | 0, k => by simp [it2]
  | j + 1, k => by rw [show j + 1 + k = (j + k) + 1 by omega, it2_succ, it2_succ, it2_add u l x j k]
section
variable {N : Nat} {u l : Nat → Nat} (mu : Mt N u) (ml : Mt N l)
include mu ml
theorem it2_lt {f : Nat} (h : f < N) : ∀ k, it2 u l k f < N
  | 0 => h
  | k + 1 => by
    rw [it2_succ]
    exact ml.lt _ (mu.lt _ (it2_lt h k))
theorem it2_par {f : Nat} (h : f < N) : ∀ k, it2 u l k f % 2 = f % 2
  | 0 => rfl
  | k + 1 => by
    rw [it2_succ]
    have x := it2_lt mu ml h k
    have := mu.par _ x
    have := ml.par _ (mu.lt _ x)
    have := it2_par h k
    omega
theorem it2_inj {x y : Nat} (hx : x < N) (hy : y < N) : ∀ k, it2 u l k x = it2 u l k y → x = y
  | 0, e => e
  | k + 1, e => by
    rw [it2_succ, it2_succ] at e
    have a := it2_lt mu ml hx k
    have b := it2_lt mu ml hy k
    have e1 := congrArg l e
    rw [ml.inv _ (mu.lt _ a), ml.inv _ (mu.lt _ b)] at e1
    have e2 := congrArg u e1
    rw [mu.inv _ a, mu.inv _ b] at e2
    exact it2_inj hx hy k e2
end
theorem nodup_le : ∀ (N : Nat) (xs : List Nat), xs.Nodup → (∀ x ∈ xs, x < N) → xs.length ≤ N
  | 0, [], _, _ => by simp
  | 0, x :: xs, _, h => by have := h x (by simp); omega
  | N + 1, xs, nd, h => by
    have l1 := nodup_le N (xs.erase N) (nd.erase N) (fun x m => by
      have m2 := (nd.mem_erase_iff.mp m)
      have := h x m2.2
      omega)
    by_cases c : N ∈ xs
    · rw [List.length_erase_of_mem c] at l1
      omega
    · rw [List.erase_of_not_mem c] at l1
      omega
section
variable {N : Nat} {u l : Nat → Nat} (mu : Mt N u) (ml : Mt N l)
include mu ml
/-- who goes along comes back -/
theorem back {f : Nat} (h : f < N) : ∃ k, 0 < k ∧ k ≤ N ∧ it2 u l k f = f := by
  refine Classical.byContradiction fun no => ?_
  have no : ∀ k, 0 < k → k ≤ N → it2 u l k f ≠ f := fun k h0 h1 e => no ⟨k, h0, h1, e⟩
  have nd : ((List.range (N + 1)).map fun k => it2 u l k f).Nodup := by
    rw [List.nodup_iff_pairwise_ne, List.pairwise_map]
    refine (List.pairwise_lt_range (n := N + 1)).imp_of_mem ?_
    intro a b ha hb hab e
    have hb := List.mem_range.mp hb
    rw [show b = a + (b - a) by omega, it2_add] at e
    have e2 := it2_inj mu ml h (it2_lt mu ml h (b - a)) a e
    exact no (b - a) (by omega) (by omega) e2.symm
  have := nodup_le N _ nd (fun x m => by
    obtain ⟨k, _, rfl⟩ := List.mem_map.mp m
    exact it2_lt mu ml h k)
  simp at this
  omega
/-- the first time -/
theorem per {f : Nat} (h : f < N) : ∃ k, 0 < k ∧ k ≤ N ∧ it2 u l k f = f ∧ ∀ j, 0 < j → j < k → it2 u l j f ≠ f := by
  obtain ⟨k, h0, h1, h2⟩ := back mu ml h
  induction k using Nat.strongRecOn with
  | ind k ih =>
    by_cases c : ∃ j, 0 < j ∧ j < k ∧ it2 u l j f = f
    · obtain ⟨j, a, b, d⟩ := c
      exact ih j b a (by omega) d
    · exact ⟨k, h0, h1, h2, fun j a b d => c ⟨j, a, b, d⟩⟩
/-- the feet of a round as they are met -/
def fts (u l : Nat → Nat) (f k : Nat) : List Nat := ((List.range k).map fun j => [it2 u l j f, u (it2 u l j f)]).flatten
omit mu ml in
theorem fts_succ (f k : Nat) : fts u l f (k + 1) = fts u l f k ++ [it2 u l k f, u (it2 u l k f)] := by
  unfold fts
  rw [List.range_succ]
  simp
omit mu ml in
theorem wk_fts (f : Nat) : ∀ (j k x m : Nat), x = it2 u l j f → k + j = m → (∀ i, j < i → i < m → it2 u l i f ≠ f) → it2 u l m f = f → 0 < k → ∀ F, k ≤ F → wk u l f F x = ((List.range' j k).map fun i => [it2 u l i f, u (it2 u l i f)]).flatten := by
  intro j k
  induction k generalizing j with
  | zero => intro x m _ _ _ _ h; omega
  | succ k ih =>
    intro x m ex em hno hm _ F hF
    cases F with
    | zero => omega
    | succ F =>
      subst ex
      rw [wk, List.range'_succ, List.map_cons, List.flatten_cons]
      have e1 : l (u (it2 u l j f)) = it2 u l (j + 1) f := (it2_succ u l j f).symm
      rw [e1]
      cases k with
      | zero =>
        have : j + 1 = m := by omega
        rw [this, if_pos hm]
        rfl
      | succ k =>
        rw [if_neg (hno (j + 1) (by omega) (by omega)), ih (j + 1) _ m rfl (by omega) (fun i a b => hno i (by omega) b) hm (by omega) F (by omega)]
        rfl
theorem walk_fts {f : Nat} (h : f < N) : ∃ k, 0 < k ∧ k ≤ N ∧ it2 u l k f = f ∧ (∀ j, 0 < j → j < k → it2 u l j f ≠ f) ∧ walk u l N f = fts u l f k := by
  obtain ⟨k, h0, h1, h2, h3⟩ := per mu ml h
  refine ⟨k, h0, h1, h2, h3, ?_⟩
  unfold walk
  rw [wk_fts f 0 k f k rfl (by omega) (fun i a b => h3 i a b) h2 h0 N h1]
  unfold fts
  rw [List.range_eq_range']
/-- among the feet met so far there is the next one only when the round is whole -/
theorem fts_mem {f : Nat} (h : f < N) {k : Nat} (hk : ∀ j, 0 < j → j < k → it2 u l j f ≠ f) {j : Nat} (hj : j < k) : it2 u l j f ∉ fts u l f j := by
  intro m
  unfold fts at m
  rw [List.mem_flatten] at m
  obtain ⟨ys, m1, m2⟩ := m
  obtain ⟨i, hi, rfl⟩ := List.mem_map.mp m1
  have hi := List.mem_range.mp hi
  have pj := it2_par mu ml h j
  have pi := it2_par mu ml h i
  have xi := it2_lt mu ml h i
  rcases List.mem_cons.mp m2 with e | m2
  · rw [show j = i + (j - i) by omega, it2_add] at e
    have := it2_inj mu ml (it2_lt mu ml h (j - i)) h i e
    exact hk (j - i) (by omega) (by omega) this
  · have e := List.mem_singleton.mp m2
    have := mu.par _ xi
    omega
end
/-! ### all rounds, foot by foot -/
def insN (x : Nat) : List Nat → List Nat
  | [] => [x]
  | y :: ys => if x ≤ y then x :: y :: ys else y :: insN x ys
def srtN : List Nat → List Nat
  | [] => []
  | x :: xs => insN x (srtN xs)
def rgo (u l : Nat → Nat) (N : Nat) : List Nat → List Nat → List (List Nat)
  | [], _ => []
  | f :: fs, met => if met.contains f = true then rgo u l N fs met else srtN (walk u l N f) :: rgo u l N fs (met ++ walk u l N f)
/-- the rounds of two rows -/
def rds (u l : Nat → Nat) (N : Nat) : List (List Nat) := rgo u l N (List.range N) []
end Dw

set_option Elab.async false
set_option linter.all false
set_option maxRecDepth 100000
set_option maxHeartbeats 2000000
set_option autoImplicit false
namespace Fw
open PySem PySem.Spec L2

/-- values by content: tuples by value, lists by place -/
inductive Va where
  | non | bl (b : Bool) | int (i : Int) | str (x : List Nat) | tup (xs : List Va) | ros (xs : List Va) | loc (n : Nat) | fn (x : Str) | ty (n : String) | rg (i j c : Int) | tpw (xs : List Va)
abbrev En := List (Option Va)
inductive Ob where
  | lst (xs : List Va)
  | dct (kvs : List (Va × Va))
abbrev Hs := List Ob
structure Xn where
  cls : Str
  fs : List (Str × Va)
inductive Rs (α : Type) where
  | ok (a : α) (h : Hs) | ex (x : Xn) (h : Hs) | bad
inductive Rt where
  | nx (e : En) (h : Hs) | rt (v : Va) (h : Hs) | bk (e : En) (h : Hs) | ct (e : En) (h : Hs) | ex (x : Xn) (e : En) (h : Hs) | bad
abbrev Sm (α : Type) := En → Hs → Rs α
abbrev Sx := Sm Va
abbrev Ss := En → Hs → Rt

/-- what is fixed: the written part, the module's names -/
structure Ct where
  K : PySem.W.Frag
  mg : Str → Option Value

def RoL (K : PySem.W.Frag) (H : Hp) (a : Addr) (vs : List V) : Prop := (∃ o, H a = some (.frz o (.lst vs))) ∨ ∀ H', SqL K H' a vs
/-- a range object, as it stands -/
def rgObj (i : Int) (t : Tok) (j : Int) (u : Tok) (c : Int) (v : Tok) : PySem.Obj := { cls := .type "range", data := .fields #[.int i t, .int j u, .int c v] }
/-- a tuple of which all is known: it has no dict -/
def TupO (o : PySem.Obj) : Prop := o.cls = .type "tuple" ∧ o.dict = none
structure SqD (K : PySem.W.Frag) (H : Hp) (a : Addr) (vs : List V) : Prop where
  sq : SqT K H a vs
  dn : ∃ o u, H a = some (.frz o u) ∧ TupO o
theorem SqD.new {K : PySem.W.Frag} {H : Hp} {q : Addr} {o : PySem.Obj} {vs : List V} (t : TupO o) : SqD K (upd H q (.frz o (.tup vs))) q vs := ⟨.inl (.inr ⟨o, upd_same⟩), o, _, upd_same, t⟩
mutual
inductive Rp (C : Ct) (ρ : List Addr) (H : Hp) : Va → V → Prop
  | non : Rp C ρ H .non .non
  | bl (b : Bool) : Rp C ρ H (.bl b) (.bl b)
  | int (i : Int) : Rp C ρ H (.int i) (.int i)
  | str (x : List Nat) : Rp C ρ H (.str x) (.str ⟨x.toArray⟩)
  | tup {xs : List Va} {vs : List V} {a : Addr} : SqD C.K H a vs → RpL C ρ H xs vs → Rp C ρ H (.tup xs) (.ref a)
  | tpw {xs : List Va} {vs : List V} {a : Addr} : SqT C.K H a vs → RpL C ρ H xs vs → Rp C ρ H (.tpw xs) (.ref a)
  | ros {xs : List Va} {vs : List V} {a : Addr} : RoL C.K H a vs → RpL C ρ H xs vs → Rp C ρ H (.ros xs) (.ref a)
  | loc {n : Nat} {a : Addr} : ρ[n]? = some a → Rp C ρ H (.loc n) (.ref a)
  | fn {x : Str} {a : Addr} : C.mg x = some (.ref a) → Rp C ρ H (.fn x) (.ref a)
  | ty (n : String) : Rp C ρ H (.ty n) (.ty n)
  | rg {i j c : Int} {t u v : Tok} {a : Addr} : H a = some (.frz (rgObj i t j u c v) (.own 0)) → Rp C ρ H (.rg i j c) (.ref a)
inductive RpL (C : Ct) (ρ : List Addr) (H : Hp) : List Va → List V → Prop
  | nil : RpL C ρ H [] []
  | cons {x : Va} {xs : List Va} {v : V} {vs : List V} : Rp C ρ H x v → RpL C ρ H xs vs → RpL C ρ H (x :: xs) (v :: vs)
end

structure Ext (C : Ct) (ρ : List Addr) (H : Hp) (ρ' : List Addr) (H' : Hp) : Prop where
  pre : ∀ (n : Nat) (a : Addr), ρ[n]? = some a → ρ'[n]? = some a
  tup : ∀ a vs, SqT C.K H a vs → SqT C.K H' a vs
  frz : ∀ a o u, H a = some (.frz o u) → H' a = some (.frz o u)
  new : ∀ (n : Nat) (a : Addr), ρ'[n]? = some a → ρ[n]? = some a ∨ H a = none
  frm : ∀ a o, H a = some o → (∀ n : Nat, ρ[n]? ≠ some a) → H' a = some o
  liv : ∀ a o, H a = some o → ∃ o', H' a = some o'
theorem Ext.refl {C : Ct} {ρ : List Addr} {H : Hp} : Ext C ρ H ρ H := ⟨fun _ _ h => h, fun _ _ h => h, fun _ _ _ h => h, fun _ _ h => .inl h, fun _ _ h _ => h, fun _ o h => ⟨o, h⟩⟩
theorem Ext.trans {C : Ct} {ρ ρ1 ρ2 : List Addr} {H H1 H2 : Hp} (a : Ext C ρ H ρ1 H1) (b : Ext C ρ1 H1 ρ2 H2) : Ext C ρ H ρ2 H2 where
  pre := fun n x h => b.pre n x (a.pre n x h)
  tup := fun x vs h => b.tup x vs (a.tup x vs h)
  frz := fun x o u h => b.frz x o u (a.frz x o u h)
  new := fun n x h => by
    rcases b.new n x h with q | q
    · exact a.new n x q
    · right
      cases e : H x with
      | none => rfl
      | some o =>
        obtain ⟨o', e'⟩ := a.liv x o e
        rw [q] at e'; cases e'
  frm := fun x o h hn => b.frm x o (a.frm x o h hn) fun n q => by
    rcases a.new n x q with z | z
    · exact hn n z
    · rw [h] at z; cases z
  liv := fun x o h => by
    obtain ⟨o', e'⟩ := a.liv x o h
    exact b.liv x o' e'
theorem RoL.mono {C : Ct} {ρ ρ' : List Addr} {H H' : Hp} (x : Ext C ρ H ρ' H') {a : Addr} {vs : List V} (h : RoL C.K H a vs) : RoL C.K H' a vs := by
  rcases h with ⟨o, h⟩ | h
  · exact .inl ⟨o, x.frz _ _ _ h⟩
  · exact .inr h
theorem RoL.sq {K : PySem.W.Frag} {H : Hp} {a : Addr} {vs : List V} (h : RoL K H a vs) : SqL K H a vs := by
  rcases h with ⟨o, h⟩ | h
  · exact .inl (.inr ⟨o, h⟩)
  · exact h H
theorem SqD.mono {C : Ct} {ρ ρ' : List Addr} {H H' : Hp} (x : Ext C ρ H ρ' H') {a : Addr} {vs : List V} (h : SqD C.K H a vs) : SqD C.K H' a vs := ⟨x.tup _ _ h.sq, let ⟨o, u, e, t⟩ := h.dn; ⟨o, u, x.frz _ _ _ e, t⟩⟩
mutual
theorem Rp.mono {C : Ct} {ρ ρ' : List Addr} {H H' : Hp} (x : Ext C ρ H ρ' H') : ∀ {y : Va} {v : V}, Rp C ρ H y v → Rp C ρ' H' y v
  | _, _, .non => .non
  | _, _, .bl b => .bl b
  | _, _, .int i => .int i
  | _, _, .str s => .str s
  | _, _, .tup h r => .tup (h.mono x) (RpL.mono x r)
  | _, _, .tpw h r => .tpw (x.tup _ _ h) (RpL.mono x r)
  | _, _, .ros h r => .ros (h.mono x) (RpL.mono x r)
  | _, _, .loc h => .loc (x.pre _ _ h)
  | _, _, .fn h => .fn h
  | _, _, .ty n => .ty n
  | _, _, .rg h => .rg (x.frz _ _ _ h)
theorem RpL.mono {C : Ct} {ρ ρ' : List Addr} {H H' : Hp} (x : Ext C ρ H ρ' H') : ∀ {y : List Va} {v : List V}, RpL C ρ H y v → RpL C ρ' H' y v
  | _, _, .nil => .nil
  | _, _, .cons h r => .cons (Rp.mono x h) (RpL.mono x r)
end
section
variable {C : Ct} {ρ ρ' : List Addr} {H H' : Hp}
theorem RpL.length : ∀ {xs : List Va} {vs : List V}, RpL C ρ H xs vs → xs.length = vs.length
  | _, _, .nil => rfl
  | _, _, .cons _ r => by simp [RpL.length r]
theorem RpL.get : ∀ {xs : List Va} {vs : List V} {i : Nat} {x : Va}, RpL C ρ H xs vs → xs[i]? = some x → ∃ v, vs[i]? = some v ∧ Rp C ρ H x v
  | _, _, _, _, .nil, e => by simp at e
  | _, _, 0, _, .cons r _, e => by simp at e; subst e; exact ⟨_, rfl, r⟩
  | _, _, i + 1, x, .cons _ t, e => by
    obtain ⟨u, h1, h2⟩ := RpL.get (i := i) (x := x) t (by simpa using e)
    exact ⟨u, by simpa using h1, h2⟩
theorem RpL.append : ∀ {xs ys : List Va} {vs us : List V}, RpL C ρ H xs vs → RpL C ρ H ys us → RpL C ρ H (xs ++ ys) (vs ++ us)
  | _, _, _, _, .nil, s => s
  | _, _, _, _, .cons r t, s => .cons r (RpL.append t s)
theorem RpL.take : ∀ {xs : List Va} {vs : List V} (n : Nat), RpL C ρ H xs vs → RpL C ρ H (xs.take n) (vs.take n)
  | _, _, 0, _ => .nil
  | _, _, _ + 1, .nil => .nil
  | _, _, n + 1, .cons r t => .cons r (RpL.take n t)
theorem RpL.drop : ∀ {xs : List Va} {vs : List V} (n : Nat), RpL C ρ H xs vs → RpL C ρ H (xs.drop n) (vs.drop n)
  | _, _, 0, r => r
  | _, _, _ + 1, .nil => .nil
  | _, _, n + 1, .cons _ t => RpL.drop n t
theorem RpL.set {x : Va} {v : V} (r : Rp C ρ H x v) : ∀ {xs : List Va} {vs : List V} (i : Nat), RpL C ρ H xs vs → RpL C ρ H (xs.set i x) (vs.set i v)
  | _, _, _, .nil => .nil
  | _, _, 0, .cons _ t => .cons r t
  | _, _, i + 1, .cons q t => .cons q (RpL.set r i t)
end

/-- a key: an int or a text -/
def keyA : Va → Option Key
  | .int i => some (.inl i)
  | .str x => some (.inr ⟨x.toArray⟩)
  | _ => none
inductive RpK (C : Ct) (ρ : List Addr) (H : Hp) : List (Va × Va) → List (Key × V) → Prop
  | nil : RpK C ρ H [] []
  | cons {k x : Va} {k' : Key} {v : V} {xs : List (Va × Va)} {vs : List (Key × V)} : keyA k = some k' → Rp C ρ H x v → RpK C ρ H xs vs → RpK C ρ H ((k, x) :: xs) ((k', v) :: vs)
theorem RpK.map {C : Ct} {ρ ρ' : List Addr} {H H' : Hp} (f : ∀ {x : Va} {v : V}, Rp C ρ H x v → Rp C ρ' H' x v) : ∀ {xs : List (Va × Va)} {vs : List (Key × V)}, RpK C ρ H xs vs → RpK C ρ' H' xs vs
  | _, _, .nil => .nil
  | _, _, .cons e r rs => .cons e (f r) (RpK.map f rs)
theorem RpK.mono {C : Ct} {ρ ρ' : List Addr} {H H' : Hp} {xs : List (Va × Va)} {vs : List (Key × V)} (r : RpK C ρ H xs vs) (x : Ext C ρ H ρ' H') : RpK C ρ' H' xs vs := r.map fun q => q.mono x
def ObR (C : Ct) (ρ : List Addr) (H : Hp) : Ob → Addr → Prop
  | .lst xs, a => ∃ vs, H a = some (.lst vs) ∧ RpL C ρ H xs vs
  | .dct xs, a => ∃ vs, H a = some (.dK vs) ∧ RpK C ρ H xs vs
structure HR (C : Ct) (ρ : List Addr) (h : Hs) (H : Hp) : Prop where
  len : ρ.length = h.length
  nd : ∀ (i j : Nat) (a : Addr), ρ[i]? = some a → ρ[j]? = some a → i = j
  ob : ∀ (n : Nat) (o : Ob) (a : Addr), h[n]? = some o → ρ[n]? = some a → ObR C ρ H o a
def SR (C : Ct) (ρ : List Addr) (H : Hp) (e : En) (σ : St) : Prop := e.length = σ.length ∧ ∀ (i : Nat) (x : Va), e[i]? = some (some x) → ∃ v, σ[i]? = some (some v) ∧ Rp C ρ H x v
theorem SR.mono {C : Ct} {ρ ρ' : List Addr} {H H' : Hp} {e : En} {σ : St} (x : Ext C ρ H ρ' H') (h : SR C ρ H e σ) : SR C ρ' H' e σ :=
  ⟨h.1, fun i y q => let ⟨v, e1, r⟩ := h.2 i y q; ⟨v, e1, r.mono x⟩⟩
theorem SR.set {C : Ct} {ρ : List Addr} {H : Hp} {e : En} {σ : St} {x : Va} {v : V} (i : Nat) (h : SR C ρ H e σ) (r : Rp C ρ H x v) : SR C ρ H (e.set i (some x)) (σ.set i (some v)) := by
  refine ⟨by simp [h.1], fun j y q => ?_⟩
  by_cases hij : i = j
  · subst hij
    rw [List.getElem?_set] at q ⊢
    by_cases hl : i < e.length
    · simp [hl] at q
      subst q
      rw [h.1] at hl
      exact ⟨v, by simp [hl], r⟩
    · simp [hl] at q
  · rw [List.getElem?_set_ne hij] at q ⊢
    exact h.2 j y q
theorem HR.at_ {C : Ct} {ρ : List Addr} {h : Hs} {H : Hp} (x : HR C ρ h H) {n : Nat} {o : Ob} (e : h[n]? = some o) : ∃ a, ρ[n]? = some a ∧ ObR C ρ H o a := by
  have hl : n < ρ.length := by
    rw [x.len]
    exact (List.getElem?_eq_some_iff.mp e).1
  exact ⟨ρ[n], by simp [hl], x.ob n o _ e (by simp [hl])⟩
theorem HR.sm_ {C : Ct} {ρ : List Addr} {h : Hs} {H : Hp} (x : HR C ρ h H) {n : Nat} {a : Addr} (e : ρ[n]? = some a) : ∃ o, H a = some o := by
  have hl : n < h.length := by
    rw [← x.len]
    exact (List.getElem?_eq_some_iff.mp e).1
  have q := x.ob n h[n] a (by simp [hl]) e
  revert q
  cases h[n] with
  | lst xs => rintro ⟨vs, e, _⟩; exact ⟨_, e⟩
  | dct k => rintro ⟨vs, e, _⟩; exact ⟨_, e⟩
/-- an own list -/
theorem HR.ls_ {C : Ct} {ρ : List Addr} {h : Hs} {H : Hp} (x : HR C ρ h H) {n : Nat} {xs : List Va} {v : V} (e : h[n]? = some (.lst xs)) (r : Rp C ρ H (.loc n) v) : ∃ a vs, v = .ref a ∧ ρ[n]? = some a ∧ H a = some (.lst vs) ∧ RpL C ρ H xs vs := by
  cases r with
  | loc q =>
    obtain ⟨vs, e1, e2⟩ := x.ob n _ _ e q
    exact ⟨_, vs, rfl, q, e1, e2⟩
theorem ext_new {C : Ct} {ρ : List Addr} {H : Hp} {p : Addr} {o : HO} (hp : H p = none) : Ext C ρ H ρ (upd H p o) where
  pre := fun _ _ h => h
  tup := fun a vs h => by
    rcases h with (h | ⟨ob, h⟩) | h
    · exact .inl (.inl (by rw [upd_ne (ne_of_none h hp)]; exact h))
    · exact .inl (.inr ⟨ob, by rw [upd_ne (ne_of_none h hp)]; exact h⟩)
    · exact .inr h
  frz := fun a ob u h => by rw [upd_ne (ne_of_none h hp)]; exact h
  new := fun _ _ h => .inl h
  frm := fun a ob h _ => by rw [upd_ne (ne_of_none h hp)]; exact h
  liv := fun a ob h => ⟨ob, by rw [upd_ne (ne_of_none h hp)]; exact h⟩
theorem ext_alloc {C : Ct} {ρ : List Addr} {H : Hp} {p : Addr} {o : HO} (hp : H p = none) : Ext C ρ H (ρ ++ [p]) (upd H p o) := by
  have e := ext_new (C := C) (ρ := ρ) (o := o) hp
  refine ⟨fun n a h => ?_, e.tup, e.frz, fun n a h => ?_, e.frm, e.liv⟩
  · rw [List.getElem?_append_left (List.getElem?_eq_some_iff.mp h).1]; exact h
  · by_cases hl : n < ρ.length
    · rw [List.getElem?_append_left hl] at h; exact .inl h
    · right
      rw [List.getElem?_append_right (by omega)] at h
      have : n - ρ.length = 0 := by
        cases q : n - ρ.length with
        | zero => rfl
        | succ k => rw [q] at h; simp at h
      rw [this] at h
      simp at h
      rw [← h]; exact hp
/-- a new list -/
theorem HR.alloc {C : Ct} {ρ : List Addr} {h : Hs} {H : Hp} (x : HR C ρ h H) {p : Addr} (hp : H p = none) {xs : List Va} {vs : List V} (r : RpL C ρ H xs vs) :
    Ext C ρ H (ρ ++ [p]) (upd H p (.lst vs)) ∧ HR C (ρ ++ [p]) (h ++ [.lst xs]) (upd H p (.lst vs)) ∧ Rp C (ρ ++ [p]) (upd H p (.lst vs)) (.loc h.length) (.ref p) := by
  have e : Ext C ρ H (ρ ++ [p]) (upd H p (.lst vs)) := ext_alloc hp
  have np : ∀ i a, ρ[i]? = some a → a ≠ p := fun i a hi => by
    obtain ⟨o, ho⟩ := x.sm_ hi
    exact ne_of_none ho hp
  refine ⟨e, ⟨by simp [x.len], fun i j a hi hj => ?_, fun n o a hn ha => ?_⟩, .loc (by rw [← x.len]; simp)⟩
  · by_cases h1 : i < ρ.length <;> by_cases h2 : j < ρ.length
    · rw [List.getElem?_append_left h1] at hi
      rw [List.getElem?_append_left h2] at hj
      exact x.nd i j a hi hj
    · rw [List.getElem?_append_left h1] at hi
      rcases e.new j a hj with q | q
      · exact x.nd i j a hi q
      · obtain ⟨o, ho⟩ := x.sm_ hi
        rw [q] at ho; cases ho
    · rw [List.getElem?_append_left h2] at hj
      rcases e.new i a hi with q | q
      · exact x.nd i j a q hj
      · obtain ⟨o, ho⟩ := x.sm_ hj
        rw [q] at ho; cases ho
    · have l1 := (List.getElem?_eq_some_iff.mp hi).1
      have l2 := (List.getElem?_eq_some_iff.mp hj).1
      simp at l1 l2
      omega
  · by_cases h1 : n < ρ.length
    · rw [List.getElem?_append_left h1] at ha
      rw [List.getElem?_append_left (by rw [← x.len]; exact h1)] at hn
      have q := x.ob n o a hn ha
      revert q
      cases o with
      | lst ys =>
        rintro ⟨ws, e1, e2⟩
        exact ⟨ws, by rw [upd_ne (np n a ha)]; exact e1, e2.mono e⟩
      | dct k =>
        rintro ⟨ws, e1, e2⟩
        exact ⟨ws, by rw [upd_ne (np n a ha)]; exact e1, e2.mono e⟩
    · have l1 := (List.getElem?_eq_some_iff.mp ha).1
      have hl := x.len
      simp at l1
      have en : n = ρ.length := by omega
      subst en
      rw [hl] at hn
      simp at hn ha
      subst hn ha
      exact ⟨vs, upd_same, r.mono e⟩
/-- a list written -/
theorem HR.write {C : Ct} {ρ : List Addr} {h : Hs} {H : Hp} (x : HR C ρ h H) {n : Nat} {a : Addr} {xs xs' : List Va} {vs vs' : List V} (hn : h[n]? = some (.lst xs)) (ha : ρ[n]? = some a) (hl : H a = some (.lst vs)) (r : RpL C ρ H xs' vs') :
    Ext C ρ H ρ (upd H a (.lst vs')) ∧ HR C ρ (h.set n (.lst xs')) (upd H a (.lst vs')) := by
  have nt : ∀ b o, H b = some o → (∀ ws, o ≠ .lst ws) → b ≠ a := fun b o hb ho e => by
    subst e
    rw [hl] at hb
    exact ho vs (Option.some.inj hb).symm
  have e : Ext C ρ H ρ (upd H a (.lst vs')) := by
    refine ⟨fun _ _ q => q, fun b ws q => ?_, fun b o u q => ?_, fun _ _ q => .inl q, fun b o q hno => ?_, fun b o q => ?_⟩
    · rcases q with (q | ⟨ob, q⟩) | q
      · exact .inl (.inl (by rw [upd_ne (nt b _ q fun ws z => by cases z)]; exact q))
      · exact .inl (.inr ⟨ob, by rw [upd_ne (nt b _ q fun ws z => by cases z)]; exact q⟩)
      · exact .inr q
    · rw [upd_ne (nt b _ q fun ws z => by cases z)]; exact q
    · rw [upd_ne (fun z => hno n (by rw [z]; exact ha))]; exact q
    · by_cases hb : b = a
      · exact ⟨_, by rw [hb]; exact upd_same⟩
      · exact ⟨o, by rw [upd_ne hb]; exact q⟩
  refine ⟨e, by simp [x.len], x.nd, fun m o b hm hb => ?_⟩
  by_cases hmn : n = m
  · subst hmn
    have l := (List.getElem?_eq_some_iff.mp hn).1
    rw [List.getElem?_set_self l] at hm
    rw [ha] at hb
    cases hm; cases hb
    exact ⟨vs', upd_same, r.mono e⟩
  · rw [List.getElem?_set_ne hmn] at hm
    have q := x.ob m o b hm hb
    have hba : b ≠ a := fun z => hmn (x.nd n m a ha (by rw [← z]; exact hb))
    revert q
    cases o with
    | lst ys =>
      rintro ⟨ws, e1, e2⟩
      exact ⟨ws, by rw [upd_ne hba]; exact e1, e2.mono e⟩
    | dct k =>
      rintro ⟨ws, e1, e2⟩
      exact ⟨ws, by rw [upd_ne hba]; exact e1, e2.mono e⟩

/-- an exception that comes -/
def XR (C : Ct) (ρ : List Addr) (H : Hp) (x : Xn) (cls : Value) (d : Option Addr) : Prop :=
  ∃ Cl, C.mg x.cls = some (.ref Cl) ∧ cls = .ref Cl ∧ ∃ dd vs, d = some dd ∧ H dd = some (.xd vs) ∧ vs.map (·.1) = x.fs.map (·.1) ∧ RpL C ρ H (x.fs.map (·.2)) (vs.map (·.2))
/-- what is wanted behind a reading's run -/
def Po {α β : Type} (C : Ct) (rel : List Addr → Hp → α → β → Prop) (W : XK) (Q : β → Hp → Prop) (ρ : List Addr) (H : Hp) : Rs α → Prop
  | .ok x h => ∀ ρ' H' v, Ext C ρ H ρ' H' → HR C ρ' h H' → rel ρ' H' x v → Q v H'
  | .ex x h => ∀ ρ' H' cls d, Ext C ρ H ρ' H' → HR C ρ' h H' → XR C ρ' H' x cls d → W cls d H'
  | .bad => False
theorem Po.mono {α β : Type} {C : Ct} {rel : List Addr → Hp → α → β → Prop} {W : XK} {Q : β → Hp → Prop} {ρ ρ1 : List Addr} {H H1 : Hp} (e : Ext C ρ H ρ1 H1) : ∀ {r : Rs α}, Po C rel W Q ρ H r → Po C rel W Q ρ1 H1 r
  | .ok _ _, p => fun ρ' H' v e' => p ρ' H' v (e.trans e')
  | .ex _ _, p => fun ρ' H' c d e' => p ρ' H' c d (e.trans e')
  | .bad, p => p
/-- a reading by a run of plain data -/
def tX {α β : Type} (C : Ct) (rel : List Addr → Hp → α → β → Prop) (W : WX) (f : Sm α) : St → Hp → (β → Hp → Prop) → Prop := fun σ H Q =>
  ∃ ρ e h, SR C ρ H e σ ∧ HR C ρ h H ∧ Po C rel (fun c d H' => W c d σ H') Q ρ H (f e h)
abbrev tE (C : Ct) (W : WX) (f : Sx) : TE := tX C (Rp C) W f
abbrev tAr (C : Ct) (W : WX) (f : Sm (List Va)) : TA := tX C (RpL C) W f
abbrev tTe (C : Ct) (W : WX) (f : Sm Bool) : TT := tX C (fun _ _ a b => a = b) W f

def bnd {α β : Type} (f : Sm α) (k : α → Sm β) : Sm β := fun e h => match f e h with
  | .ok x h' => k x e h'
  | .ex x h' => .ex x h'
  | .bad => .bad
def ret {α : Type} (x : α) : Sm α := fun _ h => .ok x h
/-- on values alone -/
def vl {α : Type} (r : Hs → Rs α) : Sm α := fun _ h => r h
section
variable {α β γ δ : Type} {C : Ct} {W : WX} {σ : St} {H : Hp} {rel : List Addr → Hp → α → β → Prop} {rel2 : List Addr → Hp → γ → δ → Prop}
/-- THE STEP: a part first, then the rest from where the part led -/
theorem Po_bnd {f : Sm α} {k : α → Sm γ} {Q : δ → Hp → Prop} {R : β → Hp → Prop} {ρ : List Addr} {e : En} {h : Hs} (hs : SR C ρ H e σ) (hr : HR C ρ h H) (p : Po C rel2 (fun c d H' => W c d σ H') Q ρ H (bnd f k e h))
    (hk : ∀ (ρ1 : List Addr) (H1 : Hp) (h1 : Hs) (x : α) (v : β), Ext C ρ H ρ1 H1 → SR C ρ1 H1 e σ → HR C ρ1 h1 H1 → rel ρ1 H1 x v → Po C rel2 (fun c d H' => W c d σ H') Q ρ1 H1 (k x e h1) → R v H1) : tX C rel W f σ H R := by
  refine ⟨ρ, e, h, hs, hr, ?_⟩
  unfold bnd at p
  cases q : f e h with
  | ok x h1 =>
    rw [q] at p
    exact fun ρ1 H1 v e1 hr1 rv => hk ρ1 H1 h1 x v e1 (hs.mono e1) hr1 rv (Po.mono e1 p)
  | ex x h1 => rw [q] at p; exact p
  | bad => rw [q] at p; exact p
theorem tX_bnd {f : Sm α} {k : α → Sm γ} {Q : δ → Hp → Prop} {R : β → Hp → Prop} (h : tX C rel2 W (bnd f k) σ H Q)
    (hk : ∀ (ρ1 : List Addr) (H1 : Hp) (e : En) (h1 : Hs) (x : α) (v : β), SR C ρ1 H1 e σ → HR C ρ1 h1 H1 → rel ρ1 H1 x v → Po C rel2 (fun c d H' => W c d σ H') Q ρ1 H1 (k x e h1) → R v H1) : tX C rel W f σ H R := by
  obtain ⟨ρ, e, hh, hs, hr, p⟩ := h
  exact Po_bnd hs hr p fun ρ1 H1 h1 x v _ a b c d => hk ρ1 H1 e h1 x v a b c d
theorem Po.imp {W' : XK} {Q Q' : β → Hp → Prop} {W1 : XK} {ρ : List Addr} (hQ : ∀ v H', Q v H' → Q' v H') (hW : ∀ c d H', W1 c d H' → W' c d H') : ∀ {r : Rs α}, Po C rel W1 Q ρ H r → Po C rel W' Q' ρ H r
  | .ok _ _, p => fun ρ' H' v a b c => hQ _ _ (p ρ' H' v a b c)
  | .ex _ _, p => fun ρ' H' cc d a b c => hW _ _ _ (p ρ' H' cc d a b c)
  | .bad, p => p
end

/-! ### statements -/
def PoS (C : Ct) (W : WX) (D : Ends) (ρ : List Addr) (H : Hp) : Rt → Prop
  | .nx e h => ∀ ρ' H' σ', Ext C ρ H ρ' H' → HR C ρ' h H' → SR C ρ' H' e σ' → D.nx σ' H'
  | .bk e h => ∀ ρ' H' σ', Ext C ρ H ρ' H' → HR C ρ' h H' → SR C ρ' H' e σ' → D.bk σ' H'
  | .ct e h => ∀ ρ' H' σ', Ext C ρ H ρ' H' → HR C ρ' h H' → SR C ρ' H' e σ' → D.ct σ' H'
  | .rt x h => ∀ ρ' H' v, Ext C ρ H ρ' H' → HR C ρ' h H' → Rp C ρ' H' x v → D.rt v H'
  | .ex x e h => ∀ ρ' H' σ' cls d, Ext C ρ H ρ' H' → HR C ρ' h H' → SR C ρ' H' e σ' → XR C ρ' H' x cls d → W cls d σ' H'
  | .bad => False
theorem PoS.mono {C : Ct} {W : WX} {D : Ends} {ρ ρ1 : List Addr} {H H1 : Hp} (e : Ext C ρ H ρ1 H1) : ∀ {r : Rt}, PoS C W D ρ H r → PoS C W D ρ1 H1 r
  | .nx _ _, p => fun ρ' H' v e' => p ρ' H' v (e.trans e')
  | .bk _ _, p => fun ρ' H' v e' => p ρ' H' v (e.trans e')
  | .ct _ _, p => fun ρ' H' v e' => p ρ' H' v (e.trans e')
  | .rt _ _, p => fun ρ' H' v e' => p ρ' H' v (e.trans e')
  | .ex _ _ _, p => fun ρ' H' s c d e' => p ρ' H' s c d (e.trans e')
  | .bad, p => p
def tSt (C : Ct) (W : WX) (f : Ss) : TS := fun D σ H => ∃ ρ e h, SR C ρ H e σ ∧ HR C ρ h H ∧ PoS C W D ρ H (f e h)
/-- an expression first, then a statement's rest -/
def bnS {α : Type} (f : Sm α) (k : α → Ss) : Ss := fun e h => match f e h with
  | .ok x h' => k x e h'
  | .ex x h' => .ex x e h'
  | .bad => .bad
theorem PoS_bnS {α β : Type} {C : Ct} {W : WX} {σ : L2.St} {H : Hp} {rel : List Addr → Hp → α → β → Prop} {f : Sm α} {k : α → Ss} {D : Ends} {R : β → Hp → Prop} {ρ : List Addr} {e : En} {h : Hs} (hs : SR C ρ H e σ) (hr : HR C ρ h H) (p : PoS C W D ρ H (bnS f k e h))
    (hk : ∀ (ρ1 : List Addr) (H1 : Hp) (h1 : Hs) (x : α) (v : β), Ext C ρ H ρ1 H1 → SR C ρ1 H1 e σ → HR C ρ1 h1 H1 → rel ρ1 H1 x v → PoS C W D ρ1 H1 (k x e h1) → R v H1) : tX C rel W f σ H R := by
  refine ⟨ρ, e, h, hs, hr, ?_⟩
  unfold bnS at p
  cases q : f e h with
  | ok x h1 =>
    rw [q] at p
    exact fun ρ1 H1 v e1 hr1 rv => hk ρ1 H1 h1 x v e1 (hs.mono e1) hr1 rv (PoS.mono e1 p)
  | ex x h1 => rw [q] at p; exact fun ρ' H' cls d a b c => p ρ' H' σ cls d a b (hs.mono a) c
  | bad => rw [q] at p; exact p
theorem tSt_bnS {α β : Type} {C : Ct} {W : WX} {σ : L2.St} {H : Hp} {rel : List Addr → Hp → α → β → Prop} {f : Sm α} {k : α → Ss} {D : Ends} {R : β → Hp → Prop} (h : tSt C W (bnS f k) D σ H)
    (hk : ∀ (ρ1 : List Addr) (H1 : Hp) (e : En) (h1 : Hs) (x : α) (v : β), SR C ρ1 H1 e σ → HR C ρ1 h1 H1 → rel ρ1 H1 x v → PoS C W D ρ1 H1 (k x e h1) → R v H1) : tX C rel W f σ H R := by
  obtain ⟨ρ, e, hh, hs, hr, p⟩ := h
  exact PoS_bnS hs hr p fun ρ1 H1 h1 x v _ a b c d => hk ρ1 H1 e h1 x v a b c d
def seq (f g : Ss) : Ss := fun e h => match f e h with
  | .nx e' h' => g e' h'
  | r => r
end Fw

set_option Elab.async false
set_option linter.all false
set_option maxRecDepth 100000
set_option maxHeartbeats 2000000
set_option autoImplicit false
namespace Fw
open PySem PySem.Spec L2
open PyProof.Rows hiding St
/-! ### tuples just made: all of their record is known -/
section
variable {X : Cx} {pins : List (Addr × Obj)} {σ : L2.St} {H : Hp} {s : Shared} {h' : Heap}
theorem laidD {its : Array Value} {vs : List V} {a : Addr} {t' : Nat} (J : L2.Inv X pins σ H s) (k : ∀ b u, s.heap.get? b = some u → h'.get? b = some u) (le : s.heap.objs.size ≤ a) (at0 : h'.get? a = some { cls := .type "tuple", data := .seq its }) (rv : Vals vs its.toList) (z : vs.length ≤ sizeLine) :
    L2.Inv X pins σ (upd H a (.frz { cls := .type "tuple", data := .seq its } (.tup vs))) { s with heap := h', toks := t' } :=
  J.laid (t' := t') k le ⟨at0, z, its.toList, rv, by rw [Array.toArray_toList]; exact ⟨_, at0, rfl, _, rfl⟩⟩
theorem tupO_seq (its : Array Value) : TupO { cls := .type "tuple", data := .seq its } := ⟨rfl, rfl⟩
end
section
variable {X : Cx} {es : List Expr} {t : TA} {pos : Pos}
def NewT (Q : VK) (H : Hp) (vs : List V) : Prop := ∀ p o, TupO o → H p = none → Q (.ref p) (upd H p (.frz o (.tup vs)))
def tTupD (t : TA) : TE := fun σ H Q => t σ H fun xs H1 => xs.length ≤ sizeLine ∧ NewT Q H1 xs
theorem pe_tupD {x1} (h : PA X es t) : PE X (.Tuple es x1 pos) (tTupD t) := by
  refine ⟨fun pins s σ H Q I hq => wpAny_Tuple_spliced (L2.thn (h.run pos pins s σ H _ I hq) fun us s1 ⟨xs, H1, I1, r, z, q⟩ => ⟨by rw [← r.length]; exact z, ?_⟩)⟩
  exact ⟨.ref s1.heap.objs.size, _, laidD (its := us.toArray) (t' := s1.toks) I1 (fun b u e => Heap.get?_push_of_some _ e) (Nat.le_refl _) (Heap.get?_push_size _ rfl) r z, rfl, q _ _ (tupO_seq _) (I1.hok.fresh (Nat.le_refl _))⟩
def rCatD (K : PySem.W.Frag) : R2 := fun x y H Q => ∃ a b xs ys, x = .ref a ∧ y = .ref b ∧ SqT K H a xs ∧ SqT K H b ys ∧ xs.length + ys.length ≤ sizeLine ∧
  (xs = [] → Q (.ref b) H) ∧ (xs ≠ [] → ys = [] → Q (.ref a) H) ∧ (xs ≠ [] → ys ≠ [] → NewT Q H (xs ++ ys))
theorem op_catD : OpR X (binaryOp .Add) (rCatD X.K) := by
  rintro pins s σ H x y v u Q I rx ry ⟨a, b, xs, ys, rfl, rfl, ta, tb, z, q0, q1, q2⟩
  cases rx
  cases ry
  obtain ⟨is1, r1, p1, _⟩ := I.tuple ta
  obtain ⟨is2, r2, p2, _⟩ := I.tuple tb
  by_cases e : xs = []
  · subst e
    cases r1
    exact cat_tup0 p1 p2 ⟨.ref b, H, I, rfl, q0 rfl⟩
  · refine HT.cat_tup p1 p2 (fun w => e (r1.nil_iff.mp w)) (fun w => ⟨.ref a, H, I, rfl, q1 e (r2.nil_iff.mp w)⟩) (fun w => ?_) (by rw [← r1.length, ← r2.length]; exact z)
    exact ⟨.ref s.heap.objs.size, _, laidD (its := (is1 ++ is2).toArray) (t' := s.toks) I (fun b ob q => Heap.get?_push_of_some _ q) (Nat.le_refl _) (Heap.get?_push_size _ rfl) (r1.append r2) (by rw [List.length_append]; exact z), rfl, q2 e (fun w' => w (r2.nil_iff.mpr w')) _ _ (tupO_seq _) (I.hok.fresh (Nat.le_refl _))⟩
def rSlD (K : PySem.W.Frag) : V → Option Int → Option Int → Hp → VK → Prop := fun x lo hi H Q => ∃ a xs, x = .ref a ∧ SqT K H a xs ∧
  (HT.sIx xs.length 0 lo = 0 ∧ HT.sIx xs.length xs.length hi = xs.length → Q (.ref a) H) ∧ (¬ (HT.sIx xs.length 0 lo = 0 ∧ HT.sIx xs.length xs.length hi = xs.length) → NewT Q H (cutV xs lo hi))
theorem sl_tupD : SlR X (rSlD X.K) := by
  rintro pins s σ H x v vl vu lo hi sl Q I rx hs pl pu ⟨a, xs, rfl, tx, q1, q2⟩
  cases rx
  obtain ⟨its, r, ht, z⟩ := I.tuple tx
  have len : its.toArray.size = xs.length := by rw [List.size_toArray]; exact r.length.symm
  refine ⟨"tuple", _, slot_tuple_getitem.lookup, ht.typeIs, ?_⟩
  by_cases w : HT.sIx xs.length 0 lo = 0 ∧ HT.sIx xs.length xs.length hi = xs.length
  · exact getItem_tuple_whole ht hs pl pu (by rw [len]; exact w) ⟨.ref a, H, I, rfl, q1 w⟩
  · refine HT.getItem_tuple_cut ht hs pl pu (by rw [len]; exact w) ?_ (by rw [len]; exact z)
    rw [len]
    exact ⟨.ref s.heap.objs.size, _, laidD (t' := s.toks) I (fun b ob q => Heap.get?_push_of_some _ q) (Nat.le_refl _) (Heap.get?_push_size _ rfl) ((r.drop (HT.sIx xs.length 0 lo)).take (HT.sIx xs.length xs.length hi - HT.sIx xs.length 0 lo)) (Nat.le_trans (cutV_length xs lo hi) z), rfl, q2 w _ _ (tupO_seq _) (I.hok.fresh (Nat.le_refl _))⟩
def rTplD (K : PySem.W.Frag) : List V → Hp → VK → Prop := fun xs H Q => ∃ p ys, xs = [.ref p] ∧ ((SqL K H p ys ∧ NewT Q H ys) ∨ (SqT K H p ys ∧ Q (.ref p) H))
theorem call_tplD : CallR X (.type "tuple") (rTplD X.K) := by
  rintro pins s σ H xs us Q I r ⟨p, ys, rfl, h⟩
  obtain ⟨u, rfl, rx⟩ := vals1 r
  cases rx
  rcases h with ⟨tq, q⟩ | ⟨tq, q⟩
  · obtain ⟨its, r', pl, z⟩ := I.list tq
    have len := r'.length
    refine call_tuple_list pl.isList (fun g kp => ?_) (by simp only [List.size_toArray] <;> omega)
    have I1 : L2.Inv X pins σ H { s with heap := g } := I.kept (t' := s.toks) kp
    exact ⟨.ref g.objs.size, _, laidD (s := { s with heap := g }) (its := its.toArray) (t' := s.toks) I1 (fun b o e => Heap.get?_push_of_some _ e) (Nat.le_refl _) (Heap.get?_push_size _ rfl) r' z, rfl, q _ _ (tupO_seq _) (I1.hok.fresh (Nat.le_refl _))⟩
  · obtain ⟨its, r', pl, z⟩ := I.tuple tq
    exact call_tuple_same pl ⟨.ref p, H, I, rfl, q⟩
def rDvmD : List V → Hp → VK → Prop := fun xs H Q => ∃ i j, xs = [.int i, .int j] ∧ CDiv i j ∧ NewT Q H [.int (i / j), .int (i % j)]
theorem call_dvmD : CallR X (.builtin "divmod") rDvmD := by
  rintro pins s σ H xs us Q I r ⟨i, j, rfl, ⟨c1, c2⟩, q⟩
  obtain ⟨u, w', rfl, ⟨t, rfl⟩, ⟨t', rfl⟩⟩ := vals2 r
  refine divmod_int (by omega) ?_ (.inl (PyProof.noPylong_small (by omega)))
  rw [Int.fdiv_eq_ediv_of_nonneg i (by omega), Int.fmod_eq_emod_of_nonneg i (by omega)]
  exact ⟨.ref s.heap.objs.size, _, laidD (its := #[.int (i / j) s.toks, .int (i % j) (s.toks + 1)]) (t' := s.toks + 1 + 1) (vs := [.int (i / j), .int (i % j)]) I (fun b o e => Heap.get?_push_of_some _ e) (Nat.le_refl _) (Heap.get?_push_size s.heap rfl) (.cons ⟨_, rfl⟩ (.cons ⟨_, rfl⟩ .nil)) (by simp only [List.length_cons, List.length_nil]; rw [sizeLine_eq]; decide), rfl, q _ _ (tupO_seq _) (I.hok.fresh (Nat.le_refl _))⟩
end
end Fw

set_option Elab.async false
set_option linter.all false
set_option maxRecDepth 100000
set_option maxHeartbeats 2000000
set_option autoImplicit false
namespace Fw
open PySem PySem.Spec L2

/-! ### reading one by the other -/
section
variable {X : Cx}
theorem pe_of {e : Expr} {t t' : TE} (h : PE X e t) (i : ∀ σ H Q, t' σ H Q → t σ H Q) : PE X e t' := ⟨fun pins s σ H Q I q => h.run pins s σ H Q I (i σ H Q q)⟩
theorem pt_of {e : Expr} {t t' : TT} (h : PT X e t) (i : ∀ σ H Q, t' σ H Q → t σ H Q) : PT X e t' := ⟨fun pins s σ H Q I q => h.run pins s σ H Q I (i σ H Q q)⟩
theorem pw_of {e : Expr} {t t' : TT} (h : PW X e t) (i : ∀ σ H Q, t' σ H Q → t σ H Q) : PW X e t' := ⟨fun wh pins s σ H Q I q => h.run wh pins s σ H Q I (i σ H Q q)⟩
theorem pa_of {es : List Expr} {t t' : TA} (h : PA X es t) (i : ∀ σ H Q, t' σ H Q → t σ H Q) : PA X es t' := ⟨fun pos pins s σ H Q I q => h.run pos pins s σ H Q I (i σ H Q q)⟩
theorem pk_of {es : List Keyword} {t t' : TA} (h : PK X es t) (i : ∀ σ H Q, t' σ H Q → t σ H Q) : PK X es t' := ⟨fun pos pins s σ H Q I q => h.run pos pins s σ H Q I (i σ H Q q)⟩
theorem ps_of {st : Stmt} {t t' : TS} (h : PS X st t) (i : ∀ D σ H, t' D σ H → t D σ H) : PS X st t' := ⟨fun pins s σ H D I q => h.run pins s σ H D I (i D σ H q)⟩
theorem pss_of {st : List Stmt} {t t' : TS} (h : PSs X st t) (i : ∀ D σ H, t' D σ H → t D σ H) : PSs X st t' := ⟨fun pins s σ H D I q => h.run pins s σ H D I (i D σ H q)⟩
end

/-! ### names and constants -/
def sVar (i : Nat) : Sx := fun e h => match e[i]? with
  | some (some x) => .ok x h
  | _ => .bad
def sK (x : Va) : Sx := fun _ h => .ok x h
section
variable {X : Cx} {C : Ct} {W : WX}
theorem se_var (i : Nat) {x : Str} {pos : Pos} (hN : X.N[i]? = some x := by rfl) (hv : Vis X.env.scope x := by first | exact Or.inl rfl | exact Or.inr (Or.inl rfl) | exact Or.inr (Or.inr rfl)) (hd : (x == ("__debug__" : Str)) = false := by decide)
    (hcd : (x == ("__classdict__" : Str)) = false := by decide) : PE X (.Name x pos) (tE C W (sVar i)) := by
  refine pe_of (pe_var hN hv hd hcd) fun σ H Q ⟨ρ, e, h, hs, hr, p⟩ => ?_
  unfold sVar at p
  split at p
  · rename_i y hy
    obtain ⟨v, e1, r⟩ := hs.2 i y hy
    exact ⟨v, e1, p ρ H v .refl hr r⟩
  · exact p.elim
theorem tC_of {x : Va} {v : V} (hv : ∀ ρ H, Rp C ρ H x v) : ∀ σ H Q, tE C W (sK x) σ H Q → tC v σ H Q := fun σ H Q ⟨ρ, e, h, hs, hr, p⟩ => p ρ H v .refl hr (hv ρ H)
theorem se_int {i : Int} {j pos} : PE X (.Constant (.int i) j pos) (tE C W (sK (.int i))) := pe_of pe_int (tC_of fun _ _ => .int i)
theorem se_bl {b : Bool} {j pos} : PE X (.Constant (.bool b) j pos) (tE C W (sK (.bl b))) := pe_of pe_bl (tC_of fun _ _ => .bl b)
theorem se_non {j pos} : PE X (.Constant .none j pos) (tE C W (sK .non)) := pe_of pe_non (tC_of fun _ _ => .non)
theorem se_str {x : Str} {j pos} (l : List Nat) (hl : (⟨l.toArray⟩ : Str) = x := by rfl) : PE X (.Constant (.str x) j pos) (tE C W (sK (.str l))) := by
  subst hl
  exact pe_of pe_str (tC_of fun _ _ => .str l)
/-- a module's whole number -/
theorem se_gint {x : Str} {i : Int} {t : Tok} {pos : Pos} (hg : Gl X x) (hm : X.mg x = some (.int i t)) (hd : (x == ("__debug__" : Str)) = false := by decide) : PE X (.Name x pos) (tE C W (sK (.int i))) :=
  pe_of (pe_glob (v := .int i) hg hm ⟨t, rfl⟩ hd) (tC_of fun _ _ => .int i)
/-- a built-in type as a value -/
theorem se_ty {x : Str} {n : String} {pos : Pos} (hg : Gl X x) (hm : X.mg x = none) (hv : bootBuiltins x = some (.type n) := by decide +kernel) (hn : x ≠ "__name__" := by decide) (hd : (x == ("__debug__" : Str)) = false := by decide) : PE X (.Name x pos) (tE C W (sK (.ty n))) :=
  pe_of (pe_bltn (v := .ty n) hg hm hv rfl hn hd) (tC_of fun _ _ => .ty n)
end

/-! ### operators by values -/
def VOp (C : Ct) (r : R2) (k : Va → Va → Hs → Rs Va) : Prop := ∀ (ρ : List Addr) (H : Hp) (h : Hs) (x y : Va) (v u : V) (W : XK) (Q : VK), HR C ρ h H → Rp C ρ H x v → Rp C ρ H y u → Po C (Rp C) W Q ρ H (k x y h) → r v u H Q
def VUn (C : Ct) (r : V → Hp → VK → Prop) (k : Va → Hs → Rs Va) : Prop := ∀ (ρ : List Addr) (H : Hp) (h : Hs) (x : Va) (v : V) (W : XK) (Q : VK), HR C ρ h H → Rp C ρ H x v → Po C (Rp C) W Q ρ H (k x h) → r v H Q
def VCa (C : Ct) (r : List V → Hp → VK → Prop) (k : List Va → Hs → Rs Va) : Prop := ∀ (ρ : List Addr) (H : Hp) (h : Hs) (x : List Va) (v : List V) (W : XK) (Q : VK), HR C ρ h H → RpL C ρ H x v → Po C (Rp C) W Q ρ H (k x h) → r v H Q
def s2 (k : Va → Va → Hs → Rs Va) (a b : Sx) : Sx := bnd a fun x => bnd b fun y => vl (k x y)
def s1 (k : Va → Hs → Rs Va) (a : Sx) : Sx := bnd a fun x => vl (k x)
section
variable {C : Ct} {W : WX}
theorem t2_of {r : R2} {k : Va → Va → Hs → Rs Va} {a b : Sx} (hv : VOp C r k) : ∀ σ H Q, tE C W (s2 k a b) σ H Q → tOp r (tE C W a) (tE C W b) σ H Q := fun σ H Q h =>
  tX_bnd h fun ρ H1 e h1 x v hs hr rv p => Po_bnd hs hr p fun ρ2 H2 h2 y u e2 _ hr2 ru p2 => hv ρ2 H2 h2 x y v u _ Q hr2 (rv.mono e2) ru p2
theorem t1_of {r : V → Hp → VK → Prop} {k : Va → Hs → Rs Va} {a : Sx} (hv : VUn C r k) : ∀ σ H Q, tE C W (s1 k a) σ H Q → tUn r (tE C W a) σ H Q := fun σ H Q h =>
  tX_bnd h fun ρ H1 e h1 x v hs hr rv p => hv ρ H1 h1 x v _ Q hr rv p
theorem tC_call {r : List V → Hp → VK → Prop} {k : List Va → Hs → Rs Va} {a : Sm (List Va)} (hv : VCa C r k) : ∀ σ H Q, tE C W (bnd a fun x => vl (k x)) σ H Q → tCB r (tAr C W a) σ H Q := fun σ H Q h =>
  tX_bnd h fun ρ H1 e h1 x v hs hr rv p => hv ρ H1 h1 x v _ Q hr rv p
/-- argument lists -/
def sNil : Sm (List Va) := fun _ h => .ok [] h
def sCons (a : Sx) (r : Sm (List Va)) : Sm (List Va) := bnd a fun x => bnd r fun xs => fun _ h => .ok (x :: xs) h
theorem tNil_of : ∀ σ H Q, tAr C W sNil σ H Q → tNil σ H Q := fun σ H Q ⟨ρ, e, h, hs, hr, p⟩ => p ρ H [] .refl hr .nil
theorem tCons_of {a : Sx} {r : Sm (List Va)} : ∀ σ H Q, tAr C W (sCons a r) σ H Q → tCons (tE C W a) (tAr C W r) σ H Q := fun σ H Q h =>
  tX_bnd h fun ρ H1 e h1 x v hs hr rv p => Po_bnd hs hr p fun ρ2 H2 h2 xs vs e2 _ hr2 rvs p2 => p2 ρ2 H2 _ .refl hr2 (.cons (rv.mono e2) rvs)
end
section
variable {X : Cx} {C : Ct} {W : WX} {a b : Expr} {fa fb : Sx} {pos : Pos} {es : List Expr} {fr : Sm (List Va)}
theorem sa_nil : PA X [] (tAr C W sNil) := pa_of pa_nil tNil_of
theorem sa_cons (ha : PE X a (tE C W fa)) (hr : PA X es (tAr C W fr)) (hs : starEach (a :: es) X.env = (false, eval a X.env) :: starEach es X.env := by rfl) : PA X (a :: es) (tAr C W (sCons fa fr)) := pa_of (pa_cons ha hr hs) tCons_of
theorem se_op {op : Operator} {r : R2} {k : Va → Va → Hs → Rs Va} (ho : OpR X (binaryOp op) r) (hv : VOp C r k) (ha : PE X a (tE C W fa)) (hb : PE X b (tE C W fb)) : PE X (.BinOp a op b pos) (tE C W (s2 k fa fb)) := pe_of (pe_op ho ha hb) (t2_of hv)
theorem se_cmp {op : CmpOp} {r : R2} {k : Va → Va → Hs → Rs Va} (ho : OpR X (compareOp op) r) (hv : VOp C r k) (ha : PE X a (tE C W fa)) (hb : PE X b (tE C W fb)) (hm : behindInMarks op b = false := by first | exact nomark _ | rfl) : PE X (.Compare a [op] [b] pos) (tE C W (s2 k fa fb)) :=
  pe_of (pe_cmpR ho ha hb hm) (t2_of hv)
theorem se_un {op : UnaryOp} {r : V → Hp → VK → Prop} {k : Va → Hs → Rs Va} (ho : UnR X (unaryOp op) r) (hv : VUn C r k) (ha : PE X a (tE C W fa)) : PE X (.UnaryOp op a pos) (tE C W (s1 k fa)) := pe_of (pe_un ho ha) (t1_of hv)
end

/-! ### the operators -/
@[simp] def okI (i : Int) : Hs → Rs Va := fun h => .ok (.int i) h
@[simp] def okB (b : Bool) : Hs → Rs Va := fun h => .ok (.bl b) h
/-- a new list -/
def newL (xs : List Va) : Hs → Rs Va := fun h => if xs.length ≤ 16777216 then .ok (.loc h.length) (h ++ [.lst xs]) else .bad
theorem line_eq : (sizeLine : Nat) = 16777216 := by decide
section
variable {C : Ct}
theorem Po_ok {α β : Type} {rel : List Addr → Hp → α → β → Prop} {W : XK} {Q : β → Hp → Prop} {ρ : List Addr} {H : Hp} {x : α} {h : Hs} {v : β} (p : Po C rel W Q ρ H (.ok x h)) (hr : HR C ρ h H) (rv : rel ρ H x v) : Q v H := p ρ H v .refl hr rv
/-- a new list comes -/
theorem newL_of {W : XK} {Q : VK} {ρ : List Addr} {H : Hp} {h : Hs} {xs : List Va} {vs : List V} (hr : HR C ρ h H) (r : RpL C ρ H xs vs) (p : Po C (Rp C) W Q ρ H (newL xs h)) : vs.length ≤ sizeLine ∧ ∀ q, H q = none → Q (.ref q) (upd H q (.lst vs)) := by
  unfold newL at p
  split at p
  · rename_i hl
    refine ⟨by rw [← r.length, line_eq]; exact hl, fun q hq => ?_⟩
    obtain ⟨e, hr', rl⟩ := hr.alloc hq r
    exact p _ _ _ e hr' rl
  · exact p.elim
theorem str_len (x : List Nat) : (⟨x.toArray⟩ : Str).length = x.length := by show x.toArray.size = _; simp
theorem str_app (x y : List Nat) : (⟨x.toArray⟩ : Str) ++ (⟨y.toArray⟩ : Str) = ⟨(x ++ y).toArray⟩ := by
  show Str.append _ _ = _
  simp [Str.append]

@[simp] def kAdd : Va → Va → Hs → Rs Va
  | .int i, .int j => okI (i + j)
  | .str x, .str y => fun h => if x.length + y.length ≤ 16777216 then .ok (.str (x ++ y)) h else .bad
  | .loc n, .loc m => fun h => match h[n]?, h[m]? with
    | some (.lst xs), some (.lst ys) => newL (xs ++ ys) h
    | _, _ => .bad
  | .tup xs, .tup ys => fun h => if xs ≠ [] ∧ xs.length + ys.length ≤ 16777216 then .ok (.tup (xs ++ ys)) h else .bad
  | _, _ => fun _ => .bad
end
end Fw

set_option Elab.async false
set_option linter.all false
set_option maxRecDepth 100000
set_option maxHeartbeats 2000000
set_option autoImplicit false
namespace Fw
open PySem PySem.Spec L2
abbrev ctOf (X : Cx) : Ct := ⟨X.K, X.mg⟩
def OpK (X : Cx) (f : Value → Value → Sem Value) (k : Va → Va → Hs → Rs Va) : Prop := ∃ r, OpR X f r ∧ VOp (ctOf X) r k
def UnK (X : Cx) (f : Value → Sem Value) (k : Va → Hs → Rs Va) : Prop := ∃ r, UnR X f r ∧ VUn (ctOf X) r k
def CaK (X : Cx) (f : Value) (k : List Va → Hs → Rs Va) : Prop := ∃ r, CallR X f r ∧ VCa (ctOf X) r k
section
variable {X : Cx} {W : WX} {a b : Expr} {fa fb : Sx} {pos : Pos} {k : Va → Va → Hs → Rs Va}
theorem se_bin {op : Operator} (ho : OpK X (binaryOp op) k) (ha : PE X a (tE (ctOf X) W fa)) (hb : PE X b (tE (ctOf X) W fb)) : PE X (.BinOp a op b pos) (tE (ctOf X) W (s2 k fa fb)) := by
  obtain ⟨r, h1, h2⟩ := ho
  exact se_op h1 h2 ha hb
theorem se_com {op : CmpOp} (ho : OpK X (compareOp op) k) (ha : PE X a (tE (ctOf X) W fa)) (hb : PE X b (tE (ctOf X) W fb)) (hm : behindInMarks op b = false := by first | exact nomark _ | rfl) : PE X (.Compare a [op] [b] pos) (tE (ctOf X) W (s2 k fa fb)) := by
  obtain ⟨r, h1, h2⟩ := ho
  exact se_cmp h1 h2 ha hb hm
theorem se_una {op : UnaryOp} {k : Va → Hs → Rs Va} (ho : UnK X (unaryOp op) k) (ha : PE X a (tE (ctOf X) W fa)) : PE X (.UnaryOp op a pos) (tE (ctOf X) W (s1 k fa)) := by
  obtain ⟨r, h1, h2⟩ := ho
  exact se_un h1 h2 ha
end
@[simp] def kSub : Va → Va → Hs → Rs Va
  | .int i, .int j => okI (i - j)
  | _, _ => fun _ => .bad
/-- the lists of whole products are kept within the line -/
def kMul : Va → Va → Hs → Rs Va
  | .int i, .int j => fun h => if (-(2 ^ 64) < i ∧ i < 2 ^ 64) ∨ (-(2 ^ 64) < j ∧ j < 2 ^ 64) then .ok (.int (i * j)) h else .bad
  | .loc n, .int j => fun h => match h[n]? with
    | some (.lst xs) => if -(2 ^ 63) ≤ j ∧ j < 2 ^ 63 ∧ xs.length * j.toNat ≤ 16777216 then newL (List.replicate j.toNat xs).flatten h else .bad
    | _ => .bad
  | _, _ => fun _ => .bad
def kFdv : Va → Va → Hs → Rs Va
  | .int i, .int j => fun h => if 0 < j ∧ j < 1073741824 then .ok (.int (i / j)) h else .bad
  | _, _ => fun _ => .bad
def kMod : Va → Va → Hs → Rs Va
  | .int i, .int j => fun h => if 0 < j then .ok (.int (i % j)) h else .bad
  | _, _ => fun _ => .bad
def kPow : Va → Va → Hs → Rs Va
  | .int i, .int j => fun h => if 0 ≤ j ∧ j ≤ 1000000 ∧ i.natAbs < 2 ^ 64 then .ok (.int (i ^ j.toNat)) h else .bad
  | _, _ => fun _ => .bad
@[simp] def kLt : Va → Va → Hs → Rs Va
  | .int i, .int j => okB (decide (i < j))
  | .str x, .str y => okB (decide (x < y))
  | _, _ => fun _ => .bad
@[simp] def kLe : Va → Va → Hs → Rs Va
  | .int i, .int j => okB (decide (i ≤ j))
  | _, _ => fun _ => .bad
@[simp] def kGt : Va → Va → Hs → Rs Va
  | .int i, .int j => okB (decide (j < i))
  | _, _ => fun _ => .bad
@[simp] def kGe : Va → Va → Hs → Rs Va
  | .int i, .int j => okB (decide (j ≤ i))
  | _, _ => fun _ => .bad
@[simp] def kNeg : Va → Hs → Rs Va
  | .int i => okI (-i)
  | _ => fun _ => .bad
section
variable {X : Cx}
theorem vI0 {g : Int → Int → V} {g' : Int → Int → Va} {k : Va → Va → Hs → Rs Va} (hg : ∀ ρ H i j, Rp (ctOf X) ρ H (g' i j) (g i j)) (hk : ∀ x y h, (∃ i j, x = .int i ∧ y = .int j ∧ k x y h = .ok (g' i j) h) ∨ k x y h = .bad) : VOp (ctOf X) (rI0 g) k := by
  intro ρ H h x y v u W Q hr rx ry p
  rcases hk x y h with ⟨i, j, rfl, rfl, e⟩ | e
  · cases rx; cases ry
    rw [e] at p
    exact ⟨i, j, rfl, rfl, Po_ok p hr (hg ρ H i j)⟩
  · rw [e] at p; exact p.elim
theorem vI {Cn : Int → Int → Prop} {g : Int → Int → V} {g' : Int → Int → Va} {k : Va → Va → Hs → Rs Va} (hg : ∀ ρ H i j, Rp (ctOf X) ρ H (g' i j) (g i j)) (hk : ∀ x y h, (∃ i j, x = .int i ∧ y = .int j ∧ Cn i j ∧ k x y h = .ok (g' i j) h) ∨ k x y h = .bad) : VOp (ctOf X) (rI Cn g) k := by
  intro ρ H h x y v u W Q hr rx ry p
  rcases hk x y h with ⟨i, j, rfl, rfl, c, e⟩ | e
  · cases rx; cases ry
    rw [e] at p
    exact ⟨i, j, rfl, rfl, c, Po_ok p hr (hg ρ H i j)⟩
  · rw [e] at p; exact p.elim
/-- a value-level case: what is not served is bad -/
theorem ks_sub : OpK X (binaryOp .Sub) kSub := ⟨_, op_sub, vI0 (fun _ _ _ _ => .int _) fun x y h => by
  cases x <;> cases y <;> first | exact .inr rfl | exact .inl ⟨_, _, rfl, rfl, rfl⟩⟩
theorem ks_fdv : OpK X (binaryOp .FloorDiv) kFdv := ⟨_, op_fdiv, vI (g' := fun i j => .int (i / j)) (fun _ _ _ _ => .int _) fun x y h => by
  cases x <;> cases y <;> first
    | exact .inr rfl
    | (rename_i i j
       by_cases c : 0 < j ∧ j < 1073741824
       · exact .inl ⟨i, j, rfl, rfl, c, if_pos c⟩
       · exact .inr (if_neg c))⟩
theorem ks_mod : OpK X (binaryOp .Mod) kMod := ⟨_, op_mod, vI (g' := fun i j => .int (i % j)) (fun _ _ _ _ => .int _) fun x y h => by
  cases x <;> cases y <;> first
    | exact .inr rfl
    | (rename_i i j
       by_cases c : 0 < j
       · exact .inl ⟨i, j, rfl, rfl, c, if_pos c⟩
       · exact .inr (if_neg c))⟩
theorem ks_pow : OpK X (binaryOp .Pow) kPow := ⟨_, op_pow, vI (g' := fun i j => .int (i ^ j.toNat)) (fun _ _ _ _ => .int _) fun x y h => by
  cases x <;> cases y <;> first
    | exact .inr rfl
    | (rename_i i j
       by_cases c : 0 ≤ j ∧ j ≤ 1000000 ∧ i.natAbs < 2 ^ 64
       · exact .inl ⟨i, j, rfl, rfl, c, if_pos c⟩
       · exact .inr (if_neg c))⟩
theorem ks_le : OpK X (compareOp .LtE) kLe := ⟨_, op_le, vI0 (fun _ _ _ _ => .bl _) fun x y h => by
  cases x <;> cases y <;> first | exact .inr rfl | exact .inl ⟨_, _, rfl, rfl, rfl⟩⟩
theorem ks_gt : OpK X (compareOp .Gt) kGt := ⟨_, op_gt, vI0 (fun _ _ _ _ => .bl _) fun x y h => by
  cases x <;> cases y <;> first | exact .inr rfl | exact .inl ⟨_, _, rfl, rfl, rfl⟩⟩
theorem ks_ge : OpK X (compareOp .GtE) kGe := ⟨_, op_ge, vI0 (fun _ _ _ _ => .bl _) fun x y h => by
  cases x <;> cases y <;> first | exact .inr rfl | exact .inl ⟨_, _, rfl, rfl, rfl⟩⟩
theorem ks_neg : UnK X (unaryOp .USub) kNeg := ⟨_, un_neg, by
  intro ρ H h x v W Q hr rx p
  cases x <;> first
    | exact False.elim p
    | (cases rx; exact ⟨_, rfl, Po_ok p hr (.int _)⟩)⟩
theorem ks_lt : OpK X (compareOp .Lt) kLt := ⟨_, OpR.or op_lt op_lt_str, by
  intro ρ H h x y v u W Q hr rx ry p
  cases x <;> cases y <;> first
    | exact False.elim p
    | (cases rx; cases ry; exact .inl ⟨_, _, rfl, rfl, Po_ok p hr (.bl _)⟩)
    | (cases rx; cases ry; exact .inr ⟨_, _, rfl, rfl, Po_ok p hr (.bl _)⟩)⟩
theorem ks_mul : OpK X (binaryOp .Mult) kMul := ⟨_, OpR.or op_mul op_rep, by
  intro ρ H h x y v u W Q hr rx ry p
  cases x <;> cases y <;> first
    | exact False.elim p
    | (rename_i i j
       cases rx; cases ry
       have p : Po _ _ _ _ _ _ (if _ then _ else _) := p
       split at p
       · rename_i c
         exact .inl ⟨i, j, rfl, rfl, c, Po_ok p hr (.int _)⟩
       · exact p.elim)
    | (rename_i n j
       cases ry
       have p : Po _ _ _ _ _ _ (match h[n]? with | some (.lst xs) => _ | _ => _) := p
       split at p
       · rename_i xs hn
         split at p
         · rename_i c
           obtain ⟨a, vs, rfl, ha, hl, rl⟩ := hr.ls_ hn rx
           have e := rl.length
           have rr : RpL (ctOf X) ρ H (List.replicate j.toNat xs).flatten (List.replicate j.toNat vs).flatten := by
             generalize j.toNat = m
             induction m with
             | zero => exact .nil
             | succ m ih => rw [List.replicate_succ, List.replicate_succ, List.flatten_cons, List.flatten_cons]; exact rl.append ih
           obtain ⟨q1, q2⟩ := newL_of hr rr p
           exact .inr ⟨a, j, vs, rfl, rfl, hl, c.1, c.2.1, by rw [← e, line_eq]; exact c.2.2, q2⟩
         · exact p.elim
       · exact p.elim)⟩
theorem ks_add : OpK X (binaryOp .Add) kAdd := ⟨_, OpR.or (OpR.or op_add op_add_str) (OpR.or op_cat op_catD), by
  intro ρ H h x y v u W Q hr rx ry p
  cases x <;> cases y <;> first
    | exact False.elim p
    | (cases rx; cases ry; exact .inl (.inl ⟨_, _, rfl, rfl, Po_ok p hr (.int _)⟩))
    | (rename_i x y
       cases rx; cases ry
       have p : Po _ _ _ _ _ _ (if x.length + y.length ≤ 16777216 then _ else _) := p
       split at p
       · rename_i c
         refine .inl (.inr ⟨_, _, rfl, rfl, by rw [str_len, str_len, line_eq]; exact c, ?_⟩)
         rw [str_app]
         exact Po_ok p hr (.str _)
       · exact p.elim)
    | (rename_i n m
       have p : Po _ _ _ _ _ _ (match h[n]?, h[m]? with | some (.lst xs), some (.lst ys) => _ | _, _ => _) := p
       split at p
       · rename_i xs ys hn hm
         obtain ⟨a, vs, rfl, ha, hl, rl⟩ := hr.ls_ hn rx
         obtain ⟨b, us, rfl, hb, hl2, rl2⟩ := hr.ls_ hm ry
         obtain ⟨q1, q2⟩ := newL_of hr (rl.append rl2) p
         exact .inr (.inl ⟨a, b, vs, us, rfl, rfl, hl, hl2, by rw [List.length_append] at q1; exact q1, q2⟩)
       · exact p.elim)
    | (rename_i xs ys
       cases rx with
       | tup h1 r1 =>
       cases ry with
       | tup h2 r2 =>
       rename_i vs a us b
       have p : Po _ _ _ _ _ _ (if xs ≠ [] ∧ xs.length + ys.length ≤ 16777216 then _ else _) := p
       split at p
       · rename_i c
         refine .inr (.inr ⟨a, b, vs, us, rfl, rfl, h1.sq, h2.sq, by rw [← r1.length, ← r2.length, line_eq]; exact c.2, fun e => ?_, fun _ e => ?_, fun _ _ q o to hq => ?_⟩)
         · subst e
           have := r1.length
           exact absurd (List.eq_nil_of_length_eq_zero (by simpa using this)) c.1
         · subst e
           have e2 : ys = [] := List.eq_nil_of_length_eq_zero (by have := r2.length; simpa using this)
           subst e2
           refine Po_ok p hr ?_
           rw [List.append_nil]
           exact .tup h1 r1
         · have e := ext_new (C := ctOf X) (ρ := ρ) (o := .frz o (.tup (vs ++ us))) hq
           exact p ρ _ _ e ⟨hr.len, hr.nd, fun n o a' hn ha' => by
             obtain ⟨w, hw⟩ := hr.sm_ ha'
             have q' := hr.ob n o a' hn ha'
             revert q'
             cases o with
             | lst zs => rintro ⟨ws, e1, e2⟩; exact ⟨ws, by rw [upd_ne (ne_of_none hw hq)]; exact e1, e2.mono e⟩
             | dct k => rintro ⟨ws, e1, e2⟩; exact ⟨ws, by rw [upd_ne (ne_of_none hw hq)]; exact e1, e2.mono e⟩⟩ (.tup (SqD.new to) ((r1.append r2).mono e))
       · exact p.elim)⟩
end
end Fw

set_option Elab.async false
set_option linter.all false
set_option maxRecDepth 100000
set_option maxHeartbeats 2000000
set_option autoImplicit false
namespace Fw
open PySem PySem.Spec L2

section
variable {C : Ct} {ρ : List Addr} {H : Hp} {h : Hs}
/-- a new tuple: nothing is tracked of it -/
theorem HR.tup_ (hr : HR C ρ h H) {q : Addr} {o : HO} (hq : H q = none) : HR C ρ h (upd H q o) := by
  have e := ext_new (C := C) (ρ := ρ) (o := o) hq
  refine ⟨hr.len, hr.nd, fun n ob a hn ha => ?_⟩
  obtain ⟨w, hw⟩ := hr.sm_ ha
  have q' := hr.ob n ob a hn ha
  revert q'
  cases ob with
  | lst zs => rintro ⟨ws, e1, e2⟩; exact ⟨ws, by rw [upd_ne (ne_of_none hw hq)]; exact e1, e2.mono e⟩
  | dct k => rintro ⟨ws, e1, e2⟩; exact ⟨ws, by rw [upd_ne (ne_of_none hw hq)]; exact e1, e2.mono e⟩
theorem Po_tup {W : XK} {Q : VK} {xs : List Va} {vs : List V} (hr : HR C ρ h H) (r : RpL C ρ H xs vs) (p : Po C (Rp C) W Q ρ H (.ok (.tup xs) h)) : NewT Q H vs := fun q o to hq =>
  p ρ _ _ (ext_new hq) (hr.tup_ hq) (.tup (SqD.new to) (r.mono (ext_new hq)))
end

/-! ### displays -/
def sTup (a : Sm (List Va)) : Sx := bnd a fun xs _ h => if xs.length ≤ 16777216 then .ok (.tup xs) h else .bad
def sLst (a : Sm (List Va)) : Sx := bnd a fun xs _ h => newL xs h
section
variable {X : Cx} {W : WX} {es : List Expr} {f : Sm (List Va)} {pos : Pos}
theorem se_tup {x1} (h : PA X es (tAr (ctOf X) W f)) : PE X (.Tuple es x1 pos) (tE (ctOf X) W (sTup f)) := pe_of (pe_tupD h) fun σ H Q h => tX_bnd h fun ρ H1 e h1 xs vs hs hr rv p => by
  split at p
  · rename_i hl
    exact ⟨by rw [← rv.length, line_eq]; exact hl, Po_tup hr rv p⟩
  · exact p.elim
theorem se_lst (h : PA X es (tAr (ctOf X) W f)) : PE X (.List es pos) (tE (ctOf X) W (sLst f)) := pe_of (pe_lst h) fun σ H Q h => tX_bnd h fun ρ H1 e h1 xs vs hs hr rv p => newL_of hr rv p
end

/-! ### data read to any depth -/
def mapO {α β : Type} (f : α → Option β) : List α → Option (List β)
  | [] => some []
  | x :: xs => match f x, mapO f xs with
    | some y, some ys => some (y :: ys)
    | _, _ => none
def rdV (h : Hs) : Nat → Va → Option PyData
  | 0, _ => none
  | _ + 1, .non => some .none
  | _ + 1, .bl b => some (.bool b)
  | _ + 1, .int i => some (.int i)
  | _ + 1, .str x => some (.str ⟨x.toArray⟩)
  | n + 1, .tup xs => (mapO (rdV h n) xs).map .tuple
  | n + 1, .ros xs => (mapO (rdV h n) xs).map .list
  | n + 1, .loc m => match h[m]? with
    | some (.lst xs) => (mapO (rdV h n) xs).map .list
    | _ => none
  | _ + 1, .fn _ => none
  | _ + 1, .ty _ => none
  | _ + 1, .rg _ _ _ => none
  | n + 1, .tpw xs => (mapO (rdV h n) xs).map .tuple
theorem mapO_dp {C : Ct} {ρ : List Addr} {H : Hp} {f : Va → Option PyData} (hf : ∀ x v d, Rp C ρ H x v → f x = some d → Dp C.K H v d) : ∀ (xs : List Va) (vs : List V) (ds : List PyData), RpL C ρ H xs vs → mapO f xs = some ds → DpAll C.K H vs ds
  | [], _, _, .nil, e => by cases e; exact .nil
  | x :: xs, _, _, .cons r rs, e => by
    unfold mapO at e
    split at e
    · rename_i y ys h1 h2
      cases e
      exact .cons (hf x _ _ r h1) (mapO_dp hf xs _ _ rs h2)
    · cases e
theorem rdV_dp {C : Ct} {ρ : List Addr} {H : Hp} {h : Hs} (hr : HR C ρ h H) : ∀ (n : Nat) (x : Va) (v : V) (d : PyData), Rp C ρ H x v → rdV h n x = some d → Dp C.K H v d
  | 0, _, _, _, _, e => by cases e
  | _ + 1, _, _, _, .non, e => by cases e; exact .non
  | _ + 1, _, _, _, .bl b, e => by cases e; exact .bl b
  | _ + 1, _, _, _, .int b, e => by cases e; exact .int b
  | _ + 1, _, _, _, .str b, e => by cases e; exact .str _
  | n + 1, _, _, _, .tup (xs := xs) hq rs, e => by
    unfold rdV at e
    cases q : mapO (rdV h n) xs with
    | none => rw [q] at e; cases e
    | some ds => rw [q] at e; cases e; exact .tup hq.sq (mapO_dp (rdV_dp hr n) _ _ _ rs q)
  | n + 1, _, _, _, .ros (xs := xs) hq rs, e => by
    unfold rdV at e
    cases q : mapO (rdV h n) xs with
    | none => rw [q] at e; cases e
    | some ds => rw [q] at e; cases e; exact .lst hq.sq (mapO_dp (rdV_dp hr n) _ _ _ rs q)
  | n + 1, _, _, _, .loc (n := m) hq, e => by
    unfold rdV at e
    split at e
    · rename_i xs hm
      obtain ⟨vs, e1, e2⟩ := hr.ob m _ _ hm hq
      cases q : mapO (rdV h n) xs with
      | none => rw [q] at e; cases e
      | some ds => rw [q] at e; cases e; exact .lst (SqL.of e1) (mapO_dp (rdV_dp hr n) _ _ _ e2 q)
    · cases e
  | _ + 1, _, _, _, .fn _, e => by cases e
  | _ + 1, _, _, _, .ty _, e => by cases e
  | _ + 1, _, _, _, .rg _, e => by cases e
  | n + 1, _, _, _, .tpw (xs := xs) hq rs, e => by
    unfold rdV at e
    cases q : mapO (rdV h n) xs with
    | none => rw [q] at e; cases e
    | some ds => rw [q] at e; cases e; exact .tup hq (mapO_dp (rdV_dp hr n) _ _ _ rs q)

def kEqD (neg : Bool) (x y : Va) (h : Hs) : Rs Va := match rdV h 24 x, rdV h 24 y with
  | some d, some e => if SeqAt.shaped d = true ∧ SeqAt.shaped e = true then .ok (.bl (if neg then !PyData.eqv d e else PyData.eqv d e)) h else .bad
  | _, _ => .bad
@[simp] def kEq : Va → Va → Hs → Rs Va
  | .int i, .int j => okB (decide (i = j))
  | .str x, .str y => okB (decide (x = y))
  | x, y => kEqD false x y
@[simp] def kNe : Va → Va → Hs → Rs Va
  | .int i, .int j => okB (!decide (i = j))
  | .str x, .str y => okB (!decide (x = y))
  | x, y => kEqD true x y
section
variable {X : Cx}
theorem str_eq {x y : List Nat} : decide ((V.str ⟨x.toArray⟩) = V.str ⟨y.toArray⟩) = decide (x = y) := by
  by_cases e : x = y
  · subst e; simp
  · rw [decide_eq_false e, decide_eq_false]
    intro q
    injection q with q
    injection q with q
    exact e (by simpa using congrArg Array.toList q)
theorem int_eq {i j : Int} : decide (V.int i = V.int j) = decide (i = j) := by
  by_cases e : i = j
  · subst e; simp
  · rw [decide_eq_false e, decide_eq_false]
    intro q
    injection q with q
    exact e q
theorem vEqD {neg : Bool} {r : R2} (hrD : ∀ x y H Q, (∃ d e, Dp X.K H x d ∧ Dp X.K H y e ∧ SeqAt.shaped d = true ∧ SeqAt.shaped e = true ∧ Q (.bl (if neg then !PyData.eqv d e else PyData.eqv d e)) H) → r x y H Q) : VOp (ctOf X) r (kEqD neg) := by
  intro ρ H h x y v u W Q hr rx ry p
  unfold kEqD at p
  split at p
  · rename_i d e hd he
    split at p
    · rename_i c
      exact hrD v u H Q ⟨d, e, rdV_dp hr 24 x v d rx hd, rdV_dp hr 24 y u e ry he, c.1, c.2, Po_ok p hr (.bl _)⟩
    · exact p.elim
  · exact p.elim
theorem ks_eq (hu : X.A.units + 64 < cLine) : OpK X (compareOp .Eq) kEq := ⟨_, OpR.or op_eq (op_eqD hu), by
  intro ρ H h x y v u W Q hr rx ry p
  have gen : Po (ctOf X) (Rp (ctOf X)) W Q ρ H (kEqD false x y h) → rEq v u H Q ∨ rEqD X.K v u H Q := fun p => .inr (vEqD (neg := false) (fun _ _ _ _ z => z) ρ H h x y v u W Q hr rx ry p)
  cases x <;> cases y <;> first
    | exact gen p
    | (cases rx; cases ry; refine .inl ⟨rfl, ?_⟩; rw [int_eq]; exact Po_ok p hr (.bl _))
    | (cases rx; cases ry; refine .inl ⟨rfl, ?_⟩; rw [str_eq]; exact Po_ok p hr (.bl _))⟩
theorem ks_ne (hu : X.A.units + 64 < cLine) : OpK X (compareOp .NotEq) kNe := ⟨_, OpR.or op_ne (op_neD hu), by
  intro ρ H h x y v u W Q hr rx ry p
  have gen : Po (ctOf X) (Rp (ctOf X)) W Q ρ H (kEqD true x y h) → rNe v u H Q ∨ rNeD X.K v u H Q := fun p => .inr (vEqD (neg := true) (fun _ _ _ _ z => z) ρ H h x y v u W Q hr rx ry p)
  cases x <;> cases y <;> first
    | exact gen p
    | (cases rx; cases ry; refine .inl ⟨rfl, ?_⟩; rw [int_eq]; exact Po_ok p hr (.bl _))
    | (cases rx; cases ry; refine .inl ⟨rfl, ?_⟩; rw [str_eq]; exact Po_ok p hr (.bl _))⟩
end
/-! ### identity: None, built-in types, truth values -/
@[simp] def kIs (neg : Bool) : Va → Va → Hs → Rs Va
  | .non, .non => okB (!neg)
  | .ty a, .ty b => okB (if neg then !decide (a = b) else decide (a = b))
  | .bl a, .bl b => okB (if neg then !decide (a = b) else decide (a = b))
  | _, .non => okB neg
  | _, _ => fun _ => .bad
section
variable {X : Cx}
theorem ks_is : OpK X (compareOp .Is) (kIs false) := ⟨_, OpR.or op_isN (OpR.or op_isTyB op_isBl), by
  intro ρ H h x y v u W Q hr rx ry p
  cases x <;> cases y <;> first
    | exact False.elim p
    | (cases rx; cases ry; exact .inr (.inl ⟨_, _, rfl, rfl, Po_ok p hr (.bl _)⟩))
    | (cases rx; cases ry; exact .inr (.inr ⟨_, _, rfl, rfl, Po_ok p hr (.bl _)⟩))
    | (cases rx <;> cases ry <;> exact .inl ⟨rfl, Po_ok p hr (.bl _)⟩)⟩
theorem ks_isn : OpK X (compareOp .IsNot) (kIs true) := ⟨_, OpR.or op_notN (OpR.or op_notTyB op_notBl), by
  intro ρ H h x y v u W Q hr rx ry p
  cases x <;> cases y <;> first
    | exact False.elim p
    | (cases rx; cases ry; exact .inr (.inl ⟨_, _, rfl, rfl, Po_ok p hr (.bl _)⟩))
    | (cases rx; cases ry; exact .inr (.inr ⟨_, _, rfl, rfl, Po_ok p hr (.bl _)⟩))
    | (cases rx <;> cases ry <;> exact .inl ⟨rfl, Po_ok p hr (.bl _)⟩)⟩
end

/-! ### items -/
def gIx : Va → Va → Hs → Option Va
  | .loc n, .int i, h => match h[n]? with
    | some (.lst xs) => atI xs i
    | _ => none
  | .ros xs, .int i, _ => atI xs i
  | .tup xs, .int i, _ => atI xs i
  | .tpw xs, .int i, _ => atI xs i
  | .str x, .int i, _ => if x.length ≤ 16777216 then (atI x i).map fun c => .str [c] else none
  | _, _, _ => none
def kIx (x y : Va) (h : Hs) : Rs Va := match gIx x y h with
  | some z => .ok z h
  | none => .bad
theorem atI_rel {C : Ct} {ρ : List Addr} {H : Hp} {xs : List Va} {vs : List V} (r : RpL C ρ H xs vs) {i : Int} {x : Va} (e : atI xs i = some x) : ∃ v, atI vs i = some v ∧ Rp C ρ H x v := by
  unfold atI at e ⊢
  rw [← r.length]
  cases q : ixN xs.length i with
  | none => rw [q] at e; cases e
  | some j =>
    rw [q] at e
    obtain ⟨v, h1, h2⟩ := r.get (i := j) e
    exact ⟨v, h1, h2⟩
section
variable {X : Cx} {W : WX} {a b : Expr} {fa fb : Sx} {pos : Pos}
theorem vIx : VOp (ctOf X) (rIx X.K) kIx := by
  intro ρ H h x y v u W Q hr rx ry p
  unfold kIx at p
  split at p
  · rename_i z hz
    cases x <;> cases y <;> first
      | (exact absurd hz (by intro q; cases q))
      | (rename_i n i
         cases ry
         have hz : (match h[n]? with | some (.lst xs) => atI xs i | _ => none) = some z := hz
         split at hz
         · rename_i xs hn
           obtain ⟨a, vs, rfl, ha, hl, rl⟩ := hr.ls_ hn rx
           obtain ⟨w, h1, h2⟩ := atI_rel rl hz
           exact .inl ⟨a, vs, i, w, rfl, rfl, SqL.of hl, h1, Po_ok p hr h2⟩
         · cases hz)
      | (rename_i xs i
         cases ry
         cases rx with
         | ros hq rl =>
         have hz : atI xs i = some z := hz
         obtain ⟨w, h1, h2⟩ := atI_rel rl hz
         exact .inl ⟨_, _, i, w, rfl, rfl, hq.sq, h1, Po_ok p hr h2⟩)
      | (rename_i xs i
         cases ry
         cases rx with
         | tup hq rl =>
         have hz : atI xs i = some z := hz
         obtain ⟨w, h1, h2⟩ := atI_rel rl hz
         exact .inr (.inl ⟨_, _, i, w, rfl, rfl, hq.sq, h1, Po_ok p hr h2⟩))
      | (rename_i xs i
         cases ry
         cases rx with
         | tpw hq rl =>
         have hz : atI xs i = some z := hz
         obtain ⟨w, h1, h2⟩ := atI_rel rl hz
         exact .inr (.inl ⟨_, _, i, w, rfl, rfl, hq, h1, Po_ok p hr h2⟩))
      | (rename_i s i
         cases ry
         cases rx
         have hz : (if s.length ≤ 16777216 then (atI s i).map fun c => Va.str [c] else none) = some z := hz
         split at hz
         · rename_i hl
           cases q : atI s i with
           | none => rw [q] at hz; cases hz
           | some c =>
             rw [q] at hz
             cases hz
             exact .inr (.inr ⟨_, i, c, rfl, rfl, by rw [str_len, line_eq]; exact hl, q, Po_ok p hr (.str [c])⟩)
         · cases hz)
  · exact p.elim
theorem se_ix (ha : PE X a (tE (ctOf X) W fa)) (hb : PE X b (tE (ctOf X) W fb)) (hs : PlainIx b := by exact fun _ _ => rfl) : PE X (.Subscript a b pos) (tE (ctOf X) W (s2 kIx fa fb)) := pe_of (pe_ix ix_seq ha hb hs) (t2_of vIx)
end

/-! ### slices -/
def sNo : Sm (Option Int) := fun _ h => .ok none h
def sSo (f : Sx) : Sm (Option Int) := bnd f fun x _ h => match x with
  | .int i => .ok (some i) h
  | _ => .bad
abbrev tOx (C : Ct) (W : WX) (f : Sm (Option Int)) : TO := tX C (fun _ _ a b => a = b) W f
def cutA {α : Type} (xs : List α) (lo hi : Option Int) : List α := (xs.drop (HT.sIx xs.length 0 lo)).take (HT.sIx xs.length xs.length hi - HT.sIx xs.length 0 lo)
def kSl : Va → Option Int → Option Int → Hs → Rs Va
  | .str x, lo, hi => fun h => if x.length ≤ 16777216 then .ok (.str (cutA x lo hi)) h else .bad
  | .loc n, lo, hi => fun h => match h[n]? with
    | some (.lst xs) => newL (cutA xs lo hi) h
    | _ => .bad
  | .ros xs, lo, hi => newL (cutA xs lo hi)
  | .tup xs, lo, hi => fun h => if HT.sIx xs.length 0 lo = 0 ∧ HT.sIx xs.length xs.length hi = xs.length then .bad else .ok (.tup (cutA xs lo hi)) h
  | _, _, _ => fun _ => .bad
def sSl (f : Sx) (lo hi : Sm (Option Int)) : Sx := bnd f fun x => bnd lo fun l => bnd hi fun u => vl (kSl x l u)
theorem cut_rel {C : Ct} {ρ : List Addr} {H : Hp} {xs : List Va} {vs : List V} (r : RpL C ρ H xs vs) (lo hi : Option Int) : RpL C ρ H (cutA xs lo hi) (cutV vs lo hi) := by
  unfold cutA cutV
  rw [← r.length]
  exact (r.drop _).take _
section
variable {X : Cx} {W : WX} {e : Expr} {lo hi : Option Expr} {fe : Sx} {fl fh : Sm (Option Int)} {pos p2 : Pos}
theorem so_none : PO X none (tOx (ctOf X) W sNo) := ⟨fun pins s σ H Q I ⟨ρ, e, h, hs, hr, p⟩ => po_none.run pins s σ H Q I (p ρ H none .refl hr rfl)⟩
theorem so_some (h : PE X e (tE (ctOf X) W fe)) : PO X (some e) (tOx (ctOf X) W (sSo fe)) := ⟨fun pins s σ H Q I q => (po_some h).run pins s σ H Q I (tX_bnd q fun ρ H1 e h1 x v hs hr rv p => by
  cases x <;> first
    | exact False.elim p
    | (cases rv; exact ⟨_, rfl, Po_ok p hr rfl⟩))⟩
theorem se_sl (he : PE X e (tE (ctOf X) W fe)) (hl : PO X lo (tOx (ctOf X) W fl)) (hh : PO X hi (tOx (ctOf X) W fh)) : PE X (.Subscript e (.Slice lo hi none p2) pos) (tE (ctOf X) W (sSl fe fl fh)) :=
  pe_of (pe_slice (SlR.or sl_list (SlR.or sl_str sl_tupD)) he hl hh) fun σ H Q h => tX_bnd h fun ρ H1 e h1 x v hs hr rv p => Po_bnd hs hr p fun ρ2 H2 h2 l l' e2 hs2 hr2 rl p2 => Po_bnd hs2 hr2 p2 fun ρ3 H3 h3 u u' e3 hs3 hr3 ru p3 => by
    subst rl ru
    have rv := rv.mono (e2.trans e3)
    cases x with
    | str x =>
      cases rv
      have p3 : Po _ _ _ _ _ _ (if x.length ≤ 16777216 then _ else _) := p3
      split at p3
      · rename_i hl
        refine .inr (.inl ⟨_, rfl, by rw [str_len, line_eq]; exact hl, ?_⟩)
        have e : cutS ⟨x.toArray⟩ l u = ⟨(cutA x l u).toArray⟩ := by unfold cutS cutA; rw [str_len]
        rw [e]
        exact Po_ok p3 hr3 (.str _)
      · exact p3.elim
    | loc n =>
      have p3 : Po _ _ _ _ _ _ (match h3[n]? with | some (.lst xs) => _ | _ => _) := p3
      split at p3
      · rename_i xs hn
        obtain ⟨a, vs, rfl, ha, hl, rl⟩ := hr3.ls_ hn rv
        exact .inl ⟨a, vs, rfl, SqL.of hl, (newL_of hr3 (cut_rel rl l u) p3).2⟩
      · exact p3.elim
    | ros xs =>
      cases rv with
      | ros hq rl => exact .inl ⟨_, _, rfl, hq.sq, (newL_of hr3 (cut_rel rl l u) p3).2⟩
    | tup xs =>
      cases rv with
      | tup hq rl =>
      have p3 : Po _ _ _ _ _ _ (if _ then _ else _) := p3
      split at p3
      · exact p3.elim
      · rename_i c
        exact .inr (.inr ⟨_, _, rfl, hq.sq, fun w => absurd (by rw [rl.length]; exact w) c, fun _ => Po_tup hr3 (cut_rel rl l u) p3⟩)
    | _ => exact p3.elim
end

/-! ### truth, tests, and, or, not -/
@[simp] def trA : Va → Hs → Option Bool
  | .non, _ => some false
  | .bl b, _ => some b
  | .int i, _ => some (i != 0)
  | .str x, _ => if x.length ≤ 16777216 then some ((x.length : Int) != 0) else none
  | .tup xs, _ => some (!xs.isEmpty)
  | .ros xs, _ => some (!xs.isEmpty)
  | .loc n, h => match h[n]? with
    | some (.lst xs) => some (!xs.isEmpty)
    | _ => none
  | _, _ => none
@[simp] def asB : Va → Option Bool
  | .bl b => some b
  | _ => none
/-- a test by truth; a test whose value is a truth value -/
def sTru (f : Sx) : Sm Bool := bnd f fun x _ h => match trA x h with
  | some b => .ok b h
  | none => .bad
def sBl (f : Sx) : Sm Bool := bnd f fun x _ h => match asB x with
  | some b => .ok b h
  | none => .bad
def sNot (t : Sm Bool) : Sm Bool := bnd t fun b _ h => .ok (!b) h
def sAnd (t u : Sm Bool) : Sm Bool := bnd t fun b => if b = true then u else fun _ h => .ok false h
def sOr (t u : Sm Bool) : Sm Bool := bnd t fun b => if b = true then (fun _ h => .ok true h) else u
def sIte (t : Sm Bool) (a b : Sx) : Sx := bnd t fun c => if c = true then a else b
def byB {α : Type} (o : Option Bool) (t f : Sm α) : Sm α := match o with
  | some true => t
  | some false => f
  | none => fun _ _ => .bad
def sAndV (a b : Sx) : Sx := bnd a fun x => byB (asB x) b (sK (.bl false))
def sOrV (a b : Sx) : Sx := bnd a fun x => byB (asB x) (sK (.bl true)) b
def sNotV (a : Sx) : Sx := bnd a fun x _ h => match asB x with
  | some c => .ok (.bl (!c)) h
  | none => .bad
/-- a op b op' c -/
def sChn (k k' : Va → Va → Hs → Rs Va) (a b c : Sx) : Sx := bnd a fun x => bnd b fun y => bnd (vl (k x y)) fun z => byB (asB z) (bnd c fun w => vl (k' y w)) (sK (.bl false))
theorem byB_cases {C : Ct} {α β : Type} {rel : List Addr → Hp → α → β → Prop} {W : XK} {Q : β → Hp → Prop} {ρ : List Addr} {H : Hp} {x : Va} {t f : Sm α} {e : En} {h : Hs} (p : Po C rel W Q ρ H (byB (asB x) t f e h)) : (x = .bl true ∧ Po C rel W Q ρ H (t e h)) ∨ (x = .bl false ∧ Po C rel W Q ρ H (f e h)) := by
  cases x with
  | bl b => cases b with
    | true => exact .inl ⟨rfl, p⟩
    | false => exact .inr ⟨rfl, p⟩
  | _ => exact p.elim
theorem isEmpty_rp {C : Ct} {ρ : List Addr} {H : Hp} {xs : List Va} {vs : List V} (r : RpL C ρ H xs vs) : xs.isEmpty = vs.isEmpty := by cases r <;> rfl
theorem trA_of {C : Ct} {ρ : List Addr} {H : Hp} {h : Hs} (hr : HR C ρ h H) {x : Va} {v : V} (r : Rp C ρ H x v) {b : Bool} (e : trA x h = some b) : TruV C.K v H b := by
  cases r with
  | non => cases e; rfl
  | bl c => cases e; rfl
  | int i => cases e; rfl
  | str x =>
    have e : (if x.length ≤ 16777216 then some ((x.length : Int) != 0) else none) = some b := e
    split at e
    · rename_i hl
      cases e
      exact ⟨by rw [str_len, line_eq]; exact hl, by rw [str_len]⟩
    · cases e
  | tup hq rl => cases e; exact .inr (.inl ⟨_, hq.sq, by rw [isEmpty_rp rl]⟩)
  | ros hq rl => cases e; exact .inl ⟨_, hq.sq, by rw [isEmpty_rp rl]⟩
  | loc hq =>
    rename_i n a
    have e : (match h[n]? with | some (.lst xs) => some (!xs.isEmpty) | _ => none) = some b := e
    split at e
    · rename_i xs hn
      cases e
      obtain ⟨vs, e1, e2⟩ := hr.ob n _ _ hn hq
      exact .inl ⟨vs, SqL.of e1, by rw [isEmpty_rp e2]⟩
    · cases e
  | fn _ => cases e
  | ty _ => cases e
  | rg _ => cases e
  | tpw _ _ => cases e
theorem asB_of {x : Va} {b : Bool} (e : asB x = some b) : x = .bl b := by
  cases x <;> first | (cases e; rfl) | cases e
section
variable {X : Cx} {W : WX} {a b c : Expr} {fa fb fc : Sx} {ta tb tc : Sm Bool} {pos : Pos} {rest : List Expr}
abbrev tB_ (X : Cx) (W : WX) (t : Sm Bool) : TT := tTe (ctOf X) W t
theorem st_tru (ha : PE X a (tE (ctOf X) W fa)) (he : ∀ whole, isTrue a X.env whole = (do let v ← whole; standAt a.pos; holding [v] (truthy v)) := by intro _; rfl) : PT X a (tB_ X W (sTru fa)) :=
  pt_of (pt_truth ha he) fun σ H Q h => tX_bnd h fun ρ H1 e h1 x v hs hr rv p => by
    split at p
    · rename_i b hb
      exact ⟨b, trA_of hr rv hb, Po_ok p hr rfl⟩
    · exact p.elim
theorem st_of {t : TE} (ha : PT X a (tTest t)) (i : ∀ σ H Q, tE (ctOf X) W fa σ H Q → t σ H Q) : PT X a (tB_ X W (sBl fa)) :=
  pt_of ha fun σ H Q h => i σ H _ (tX_bnd h fun ρ H1 e h1 x v hs hr rv p => by
    split at p
    · rename_i b hb
      have := asB_of hb
      subst this
      cases rv
      exact ⟨b, rfl, Po_ok p hr rfl⟩
    · exact p.elim)
theorem st_com {op : CmpOp} {k : Va → Va → Hs → Rs Va} (ho : OpK X (compareOp op) k) (ha : PE X a (tE (ctOf X) W fa)) (hb : PE X b (tE (ctOf X) W fb)) (hm : behindInMarks op b = false := by first | exact nomark _ | rfl) : PT X (.Compare a [op] [b] pos) (tB_ X W (sBl (s2 k fa fb))) := by
  obtain ⟨r, h1, h2⟩ := ho
  exact st_of (pt_cmpR h1 ha hb hm) (t2_of h2)
theorem st_not (ha : PT X a (tB_ X W ta)) : PT X (.UnaryOp .Not a pos) (tB_ X W (sNot ta)) := pt_of (pt_not ha) fun σ H Q h => tX_bnd h fun ρ H1 e h1 x v hs hr rv p => by
  subst rv
  exact Po_ok p hr rfl
theorem sw_and1 (ha : PT X a (tB_ X W ta)) : PW X (.BoolOp .And [a] pos) (tB_ X W ta) := pw_and1 ha
theorem sw_or1 (ha : PT X a (tB_ X W ta)) : PW X (.BoolOp .Or [a] pos) (tB_ X W ta) := pw_or1 ha
theorem sw_and (ha : PT X a (tB_ X W ta)) (hb : PW X (.BoolOp .And (b :: rest) pos) (tB_ X W tb)) : PW X (.BoolOp .And (a :: b :: rest) pos) (tB_ X W (sAnd ta tb)) := pw_of (pw_and ha hb) fun σ H Q h => tX_bnd h fun ρ H1 e h1 x v hs hr rv p => by
  subst rv
  cases x with
  | true => exact iteT ⟨ρ, e, h1, hs, hr, p⟩
  | false => exact iteF (Po_ok p hr rfl)
theorem sw_or (ha : PT X a (tB_ X W ta)) (hb : PW X (.BoolOp .Or (b :: rest) pos) (tB_ X W tb)) : PW X (.BoolOp .Or (a :: b :: rest) pos) (tB_ X W (sOr ta tb)) := pw_of (pw_or ha hb) fun σ H Q h => tX_bnd h fun ρ H1 e h1 x v hs hr rv p => by
  subst rv
  cases x with
  | true => exact iteT (Po_ok p hr rfl)
  | false => exact iteF ⟨ρ, e, h1, hs, hr, p⟩
theorem se_ite (hc : PT X c (tB_ X W tc)) (ha : PE X a (tE (ctOf X) W fa)) (hb : PE X b (tE (ctOf X) W fb)) : PE X (.IfExp c a b pos) (tE (ctOf X) W (sIte tc fa fb)) := pe_of (pe_ifExp hc ha hb) fun σ H Q h => tX_bnd h fun ρ H1 e h1 x v hs hr rv p => by
  subst rv
  cases x with
  | true => exact iteT ⟨ρ, e, h1, hs, hr, p⟩
  | false => exact iteF ⟨ρ, e, h1, hs, hr, p⟩
theorem se_one {op} (h : PE X a (tE (ctOf X) W fa)) : PE X (.BoolOp op [a] pos) (tE (ctOf X) W fa) := pe_one h
theorem se_and (ha : PE X a (tE (ctOf X) W fa)) (hb : PE X (.BoolOp .And (b :: rest) pos) (tE (ctOf X) W fb)) : PE X (.BoolOp .And (a :: b :: rest) pos) (tE (ctOf X) W (sAndV fa fb)) := pe_of (pe_and ha hb) fun σ H Q h => tX_bnd h fun ρ H1 e h1 x v hs hr rv p => by
  rcases byB_cases p with ⟨rfl, p⟩ | ⟨rfl, p⟩
  · cases rv
    exact ⟨true, rfl, iteT ⟨ρ, e, h1, hs, hr, p⟩⟩
  · cases rv
    exact ⟨false, rfl, iteF (Po_ok p hr (.bl _))⟩
theorem se_or (ha : PE X a (tE (ctOf X) W fa)) (hb : PE X (.BoolOp .Or (b :: rest) pos) (tE (ctOf X) W fb)) : PE X (.BoolOp .Or (a :: b :: rest) pos) (tE (ctOf X) W (sOrV fa fb)) := pe_of (pe_or ha hb) fun σ H Q h => tX_bnd h fun ρ H1 e h1 x v hs hr rv p => by
  rcases byB_cases p with ⟨rfl, p⟩ | ⟨rfl, p⟩
  · cases rv
    exact ⟨true, rfl, iteT (Po_ok p hr (.bl _))⟩
  · cases rv
    exact ⟨false, rfl, iteF ⟨ρ, e, h1, hs, hr, p⟩⟩
theorem tChn_of {r r' : R2} {k k' : Va → Va → Hs → Rs Va} (h1 : VOp (ctOf X) r k) (h2 : VOp (ctOf X) r' k') : ∀ σ H Q, tE (ctOf X) W (sChn k k' fa fb fc) σ H Q → tChain r r' (tE (ctOf X) W fa) (tE (ctOf X) W fb) (tE (ctOf X) W fc) σ H Q := fun σ H Q h =>
  tX_bnd h fun ρ H1 e hh1 x v hs hr rv p => Po_bnd hs hr p fun ρ2 H2 hh2 y u e2 hs2 hr2 ru p2 => by
    refine h1 ρ2 H2 hh2 x y v u (fun c d H' => W c d σ H') _ hr2 (rv.mono e2) ru ?_
    have p2 : Po _ _ _ _ _ _ (bnd (vl (k x y)) (fun z => byB (asB z) (bnd fc fun w => vl (k' y w)) (sK (.bl false))) e hh2) := p2
    unfold bnd vl at p2
    cases q : k x y hh2 with
    | ok z h3 =>
      rw [q] at p2
      intro ρ3 H3 w e3 hr3 rw_
      have p3 := Po.mono e3 p2
      have hs3 := hs2.mono e3
      rcases byB_cases p3 with ⟨rfl, p3⟩ | ⟨rfl, p3⟩
      · cases rw_
        refine ⟨true, rfl, iteT (Po_bnd (k := fun w => vl (k' y w)) hs3 hr3 p3 fun ρ4 H4 h4 w' w e4 hs4 hr4 r4 p4 => ?_)⟩
        exact h2 ρ4 H4 h4 y w' u w _ Q hr4 ((ru.mono e3).mono e4) r4 p4
      · cases rw_
        exact ⟨false, rfl, iteF (Po_ok p3 hr3 (.bl _))⟩
    | ex z h3 => rw [q] at p2; exact p2
    | bad => rw [q] at p2; exact p2
theorem se_chn {op op' : CmpOp} {k k' : Va → Va → Hs → Rs Va} (ho : OpK X (compareOp op) k) (ho' : OpK X (compareOp op') k') (ha : PE X a (tE (ctOf X) W fa)) (hb : PE X b (tE (ctOf X) W fb)) (hc : PE X c (tE (ctOf X) W fc))
    (hm : lastMarks [op, op'] [b, c] = false := by with_unfolding_all rfl) : PE X (.Compare a [op, op'] [b, c] pos) (tE (ctOf X) W (sChn k k' fa fb fc)) := by
  obtain ⟨r, h1, h2⟩ := ho
  obtain ⟨r', h1', h2'⟩ := ho'
  exact pe_of (pe_chain h1 h1' ha hb hc hm) (tChn_of h2 h2')
end
end Fw

set_option Elab.async false
set_option linter.all false
set_option maxRecDepth 100000
set_option maxHeartbeats 2000000
set_option autoImplicit false
namespace Fw
open PySem PySem.Spec L2

/-! ### blocks -/
def skip : Ss := fun e h => .nx e h
def never : Ss := fun _ _ => .bad
abbrev tS_ (X : Cx) (W : WX) (f : Ss) : TS := tSt (ctOf X) W f
section
variable {X : Cx} {W : WX} {st : Stmt} {rest : List Stmt} {f g : Ss} {pos : Pos} {e c : Expr} {fe : Sx} {ft : Sm Bool}
theorem ss_nil : PSs X [] (tS_ X W skip) := pss_of pss_nil fun D σ H ⟨ρ, e, h, hs, hr, p⟩ => p ρ H σ .refl hr hs
theorem PoS_seq {D : Ends} {ρ : List Addr} {H : Hp} {g : Ss} : ∀ {r : Rt}, PoS (ctOf X) W D ρ H (match r with | .nx e' h' => g e' h' | r => r) → PoS (ctOf X) W { D with nx := tS_ X W g D } ρ H r
  | .nx e' h', p => fun ρ' H' σ' ex hr hs => ⟨ρ', e', h', hs, hr, PoS.mono ex p⟩
  | .bk _ _, p => p
  | .ct _ _, p => p
  | .rt _ _, p => p
  | .ex _ _ _, p => p
  | .bad, p => p
theorem ss_cons (h1 : PS X st (tS_ X W f)) (h2 : PSs X rest (tS_ X W g)) : PSs X (st :: rest) (tS_ X W (seq f g)) := pss_of (pss_cons h1 h2) fun D σ H ⟨ρ, e, h, hs, hr, p⟩ => ⟨ρ, e, h, hs, hr, PoS_seq p⟩
theorem ss_one (h1 : PS X st (tS_ X W f)) : PSs X [st] (tS_ X W f) := pss_one h1
theorem sp_break : PS X (.Break pos) (tS_ X W fun e h => .bk e h) := ps_of ps_break fun D σ H ⟨ρ, e, h, hs, hr, p⟩ => p ρ H σ .refl hr hs
theorem sp_never : PS X st (tS_ X W never) := ps_of ps_never fun D σ H ⟨ρ, e, h, hs, hr, p⟩ => p
def sDrop (f : Sx) : Ss := bnS f fun _ e h => .nx e h
def sRet (f : Sx) : Ss := bnS f fun x _ h => .rt x h
def sIf (t : Sm Bool) (a b : Ss) : Ss := bnS t fun c => if c = true then a else b
theorem sp_expr (he : PE X e (tE (ctOf X) W fe)) (hs : swapsWith e none pos.line X.env = pure false := by rfl) : PS X (.Expr e pos) (tS_ X W (sDrop fe)) := ps_of (ps_expr he hs) fun D σ H h => tSt_bnS h fun ρ H1 e h1 x v hs hr rv p => p ρ H1 σ .refl hr hs
theorem sp_ret (he : PE X e (tE (ctOf X) W fe)) : PS X (.Return (some e) pos) (tS_ X W (sRet fe)) := ps_of (ps_ret he) fun D σ H h => tSt_bnS h fun ρ H1 e h1 x v hs hr rv p => p ρ H1 v .refl hr rv
theorem sp_if {a b : List Stmt} (hc : PT X c (tB_ X W ft)) (ha : PSs X a (tS_ X W f)) (hb : PSs X b (tS_ X W g)) : PS X (.If c a b pos) (tS_ X W (sIf ft f g)) := ps_of (ps_if hc ha hb) fun D σ H h => tSt_bnS h fun ρ H1 e h1 x v hs hr rv p => by
  subst rv
  cases x with
  | true => exact iteT ⟨ρ, e, h1, hs, hr, p⟩
  | false => exact iteF ⟨ρ, e, h1, hs, hr, p⟩
end

/-! ### targets -/
abbrev Tg := Va → En → Hs → Rs En
abbrev Tgs := List Va → En → Hs → Rs En
def PoG (C : Ct) (Q : L2.St → Hp → Prop) (ρ : List Addr) (H : Hp) : Rs En → Prop
  | .ok e h => ∀ ρ' H' σ', Ext C ρ H ρ' H' → HR C ρ' h H' → SR C ρ' H' e σ' → Q σ' H'
  | _ => False
theorem PoG.mono {C : Ct} {Q : L2.St → Hp → Prop} {ρ ρ1 : List Addr} {H H1 : Hp} (e : Ext C ρ H ρ1 H1) : ∀ {r : Rs En}, PoG C Q ρ H r → PoG C Q ρ1 H1 r
  | .ok _ _, p => fun ρ' H' v e' => p ρ' H' v (e.trans e')
  | .ex _ _, p => p
  | .bad, p => p
def tTg (C : Ct) (f : Tg) : TG := fun v σ H Q => ∃ ρ e h x, SR C ρ H e σ ∧ HR C ρ h H ∧ Rp C ρ H x v ∧ PoG C Q ρ H (f x e h)
def tTgs (C : Ct) (f : Tgs) : TGs := fun v σ H Q => ∃ ρ e h x, SR C ρ H e σ ∧ HR C ρ h H ∧ RpL C ρ H x v ∧ PoG C Q ρ H (f x e h)
@[simp] def gNm (i : Nat) : Tg := fun x e h => .ok (e.set i (some x)) h
@[simp] def gsNil : Tgs := fun xs e h => match xs with
  | [] => .ok e h
  | _ :: _ => .bad
@[simp] def gsCons (f : Tg) (g : Tgs) : Tgs := fun xs e h => match xs with
  | [] => .bad
  | x :: r => match f x e h with
    | .ok e' h' => g r e' h'
    | _ => .bad
@[simp] def gTp (n : Nat) (g : Tgs) : Tg := fun x e h => match x with
  | .tup xs => if xs.length = n then g xs e h else .bad
  | .tpw xs => if xs.length = n then g xs e h else .bad
  | .loc m => match h[m]? with
    | some (.lst xs) => if xs.length = n then g xs e h else .bad
    | _ => .bad
  | _ => .bad
/-- a store by values: what the heap becomes -/
def kSet : Va → Va → Va → Hs → Option Hs
  | .loc n, .int i, x, h => match h[n]? with
    | some (.lst xs) => (ixN xs.length i).map fun j => h.set n (.lst (xs.set j x))
    | _ => none
  | _, _, _, _ => none
def gSb (fo fi : Sx) : Tg := fun x e h => match bnd fo (fun o => bnd fi fun i => fun _ h => match kSet o i x h with
    | some h' => Rs.ok () h'
    | none => .bad) e h with
  | .ok _ h' => .ok e h'
  | _ => .bad
section
variable {X : Cx} {W : WX} {pos : Pos} {e : Expr} {es : List Expr} {f : Tg} {g : Tgs}
theorem pg_of {t t' : TG} (h : PG X e t) (i : ∀ v σ H Q, t' v σ H Q → t v σ H Q) : PG X e t' := ⟨fun pins s σ H v u Q I r q => h.run pins s σ H v u Q I r (i v σ H Q q)⟩
theorem pgs_of {t t' : TGs} (h : PGs X es t) (i : ∀ v σ H Q, t' v σ H Q → t v σ H Q) : PGs X es t' := ⟨fun pins s σ H v u Q I r q => h.run pins s σ H v u Q I r (i v σ H Q q)⟩
theorem sg_name (i : Nat) {x : Str} (hN : X.N.Nodup) (hi : X.N[i]? = some x := by rfl) (hx : Loc X.env.scope x := by first | exact Or.inl rfl | exact Or.inr rfl) (hf : X.fn x = true ∨ X.env.scope.names.lookup x = some .local := by first | exact .inl rfl | exact .inr rfl) : PG X (.Name x pos) (tTg (ctOf X) (gNm i)) :=
  pg_of (pg_name hN hi hx hf) fun v σ H Q ⟨ρ, e, h, x, hs, hr, rv, p⟩ => p ρ H _ .refl hr (hs.set i rv)
theorem sgs_nil : PGs X [] (tTgs (ctOf X) gsNil) := pgs_of pgs_nil fun v σ H Q ⟨ρ, e, h, xs, hs, hr, rv, p⟩ => by
  cases rv with
  | nil => exact ⟨rfl, p ρ H σ .refl hr hs⟩
  | cons _ _ => exact p.elim
theorem sgs_cons (h1 : PG X e (tTg (ctOf X) f)) (h2 : PGs X es (tTgs (ctOf X) g)) (hs : (assignEach (e :: es) X.env).map (·.2) = assign e X.env :: (assignEach es X.env).map (·.2) := by rfl) : PGs X (e :: es) (tTgs (ctOf X) (gsCons f g)) :=
  pgs_of (pgs_cons h1 h2 hs) fun v σ H Q ⟨ρ, e, h, xs, hs, hr, rv, p⟩ => by
    cases rv with
    | nil => exact p.elim
    | cons r1 r2 =>
      refine ⟨_, _, rfl, ρ, e, h, _, hs, hr, r1, ?_⟩
      unfold gsCons at p
      dsimp only at p
      split at p
      · rename_i e' h' q
        rw [q]
        exact fun ρ' H' σ' ex hr' hs' => ⟨ρ', e', h', _, hs', hr', r2.mono ex, PoG.mono ex p⟩
      · exact p.elim
theorem sg_tup {k n : Nat} (hc : X.calm = true) (h : PGs X es (tTgs (ctOf X) g)) (hn : (assignEach es X.env).length = n := by rfl) (hst : (assignEach es X.env).findIdx? (·.1) = none := by rfl) : PG X (.Tuple es k pos) (tTg (ctOf X) (gTp n g)) := by
  refine ⟨fun pins s σ H v u Q I r ⟨ρ, e, h', x, hs, hr, rv, p⟩ => ?_⟩
  cases x with
  | tup xs =>
    have p : PoG _ _ _ _ (if xs.length = n then g xs e h' else .bad) := p
    split at p
    · rename_i hl
      cases rv with
      | tup hq rl => exact (pg_tup hc h hn hst).run pins s σ H _ u Q I r ⟨_, _, rfl, hq.sq, by rw [← rl.length]; exact hl, ρ, e, h', xs, hs, hr, rl, p⟩
    · exact p.elim
  | tpw xs =>
    have p : PoG _ _ _ _ (if xs.length = n then g xs e h' else .bad) := p
    split at p
    · rename_i hl
      cases rv with
      | tpw hq rl => exact (pg_tup hc h hn hst).run pins s σ H _ u Q I r ⟨_, _, rfl, hq, by rw [← rl.length]; exact hl, ρ, e, h', xs, hs, hr, rl, p⟩
    · exact p.elim
  | loc m =>
    have p : PoG _ _ _ _ (match h'[m]? with | some (.lst xs) => if xs.length = n then g xs e h' else .bad | _ => .bad) := p
    split at p
    · rename_i xs hm
      obtain ⟨a, vs, rfl, ha, hl, rl⟩ := hr.ls_ hm rv
      split at p
      · rename_i hl2
        exact (pg_unl hc h hn hst).run pins s σ H _ u Q I r ⟨_, _, rfl, SqL.of hl, by rw [← rl.length]; exact hl2, ρ, e, h', xs, hs, hr, rl, p⟩
      · exact p.elim
    · exact p.elim
  | _ => exact p.elim
/-- by values: a list's item stored -/
theorem kSet_of {C : Ct} {ρ : List Addr} {H : Hp} {h h' : Hs} {o i x : Va} {vo vi vx : V} (hr : HR C ρ h H) (ro : Rp C ρ H o vo) (ri : Rp C ρ H i vi) (rx : Rp C ρ H x vx) (e : kSet o i x h = some h') {Q : Hp → Prop} (hQ : ∀ H', Ext C ρ H ρ H' → HR C ρ h' H' → Q H') : rSetL vo vi vx H Q := by
  cases o with
  | loc n => cases i with
    | int i =>
      cases ri
      have e : (match h[n]? with | some (.lst xs) => (ixN xs.length i).map fun j => h.set n (.lst (xs.set j x)) | _ => none) = some h' := e
      split at e
      · rename_i xs hn
        obtain ⟨a, vs, rfl, ha, hl, rl⟩ := hr.ls_ hn ro
        cases q : ixN xs.length i with
        | none => rw [q] at e; cases e
        | some j =>
          rw [q] at e
          cases e
          obtain ⟨e1, e2⟩ := hr.write hn ha hl (rl.set rx j)
          exact ⟨a, vs, i, j, rfl, rfl, hl, by rw [← rl.length]; exact q, hQ _ e1 e2⟩
      · cases e
    | _ => cases e
  | _ => cases e
theorem sg_sub {o i : Expr} {fo fi : Sx} (ho : PE X o (tE (ctOf X) (fun _ _ _ _ => False) fo)) (hi : PE X i (tE (ctOf X) (fun _ _ _ _ => False) fi)) (ha : ∀ v, assign (.Subscript o i pos) X.env v = (do let ov ← holding [v] (eval o X.env); let iv ← holding [v, ov] (eval i X.env); standAt pos; holding [v, ov, iv] (setItem ov iv v); release [v, ov, iv] []) := by intro _; rfl) : PG X (.Subscript o i pos) (tTg (ctOf X) (gSb fo fi)) := pg_of (pg_sub ho hi set_list ha) fun v σ H Q ⟨ρ, e, h, x, hs, hr, rv, p⟩ => by
  unfold gSb at p
  generalize hq : bnd fo (fun o => bnd fi fun i => fun _ h => match kSet o i x h with | some h' => Rs.ok () h' | none => .bad) e h = r at p
  have p2 : Po (ctOf X) (fun _ _ (_ : Unit) (_ : Unit) => True) (fun _ _ _ => False) (fun _ H' => Q σ H') ρ H r := by
    cases r with
    | ok _ h' => exact fun ρ' H' _ ex hr' _ => p ρ' H' σ ex hr' (hs.mono ex)
    | ex _ _ => exact p.elim
    | bad => exact p.elim
  rw [← hq] at p2
  refine Po_bnd (W := fun _ _ _ _ => False) (k := fun o => bnd fi fun i => fun _ h => match kSet o i x h with | some h' => Rs.ok () h' | none => .bad) hs hr p2 fun ρ1 H1 h1 o vo e1 hs1 hr1 ro p3 => Po_bnd (W := fun _ _ _ _ => False) (k := fun i => fun _ h => match kSet o i x h with | some h' => Rs.ok () h' | none => .bad) hs1 hr1 p3 fun ρ2 H2 h2 i vi e2 hs2 hr2 ri p4 => ?_
  cases q : kSet o i x h2 with
  | none => rw [q] at p4; exact p4.elim
  | some h' =>
    rw [q] at p4
    exact kSet_of hr2 (ro.mono e2) ri (rv.mono (e1.trans e2)) q fun H' ex hr' => p4 ρ2 H' () ex hr' trivial
end
def sAsg (f : Sx) (g : Tg) : Ss := bnS f fun x e h => match g x e h with
  | .ok e' h' => .nx e' h'
  | _ => .bad
def sSet (i : Nat) (f : Sx) : Ss := bnS f fun x e h => .nx (e.set i (some x)) h
/-- several names at once -/
@[simp] def setAll : List Nat → List Va → En → Option En
  | [], [], e => some e
  | i :: is, x :: xs, e => setAll is xs (e.set i (some x))
  | _, _, _ => none
def sPar (is : List Nat) (f : Sm (List Va)) : Ss := bnS f fun xs e h => match setAll is xs e with
  | some e' => .nx e' h
  | none => .bad
def sAug (k : Va → Va → Hs → Rs Va) (i : Nat) (f : Sx) : Ss := bnS (s2 k (sVar i) f) fun x e h => .nx (e.set i (some x)) h
section
variable {X : Cx} {W : WX} {pos : Pos} {e tg : Expr} {fe : Sx} {g : Tg}
theorem sp_asg (he : PE X e (tE (ctOf X) W fe)) (hg : PG X tg (tTg (ctOf X) g)) (hs : swapsWithSole [tg] e pos.line X.env = pure false := by rfl) (hw : swappedStores [tg] e X.env = pure none := by rfl) (h1 : (assignEach [tg] X.env).map (·.2) = [assign tg X.env] := by rfl) : PS X (.Assign [tg] e pos) (tS_ X W (sAsg fe g)) :=
  ps_of (ps_asg he hg hs hw h1) fun D σ H h => tSt_bnS h fun ρ H1 e h1 x v hs hr rv p => by
    refine ⟨ρ, e, h1, x, hs, hr, rv, ?_⟩
    cases q : g x e h1 with
    | ok e' h' => rw [q] at p; exact p
    | ex _ _ => rw [q] at p; exact p
    | bad => rw [q] at p; exact p
theorem sp_set (i : Nat) {x : Str} {pos' : Pos} (hN : X.N.Nodup) (he : PE X e (tE (ctOf X) W fe)) (hi : X.N[i]? = some x := by rfl) (hx : Loc X.env.scope x := by first | exact Or.inl rfl | exact Or.inr rfl) (hs : swapsWith e (some (.Name x pos')) pos.line X.env = pure false := by rfl) (hf : X.fn x = true ∨ X.env.scope.names.lookup x = some .local := by first | exact .inl rfl | exact .inr rfl) :
    PS X (.Assign [.Name x pos'] e pos) (tS_ X W (sSet i fe)) := ps_of (ps_set hN hi hx he hs hf) fun D σ H h => tSt_bnS h fun ρ H1 e h1 x v hs hr rv p => p ρ H1 _ .refl hr (hs.set i rv)
theorem sp_par {i j : Nat} {x y : Str} {a b : Expr} {fa : Sm (List Va)} {px py pt : Pos} {kt k2 pt2} (hc : X.calm = true) (hN : X.N.Nodup) (h : PA X [a, b] (tAr (ctOf X) W fa)) (hi : X.N[i]? = some x := by rfl) (hj : X.N[j]? = some y := by rfl) (hij : i ≠ j := by decide)
    (hx : X.env.scope.names.lookup x = some .local := by rfl) (hy : X.env.scope.names.lookup y = some .local := by rfl)
    (hw : swappedStores [.Tuple [.Name x px, .Name y py] kt pt] (.Tuple [a, b] k2 pt2) X.env = pure (some [x, y]) := by rfl) (hs : swapsWithSole [.Tuple [.Name x px, .Name y py] kt pt] (.Tuple [a, b] k2 pt2) pos.line X.env = pure false := by rfl) :
    PS X (.Assign [.Tuple [.Name x px, .Name y py] kt pt] (.Tuple [a, b] k2 pt2) pos) (tS_ X W (sPar [i, j] fa)) := ps_of (ps_par hc hN hi hj hij hx hy h hw hs) fun D σ H h => tSt_bnS h fun ρ H1 e h1 xs vs hs hr rv p => by
  cases rv with
  | nil => exact p.elim
  | cons r1 rv => cases rv with
    | nil => exact p.elim
    | cons r2 rv => cases rv with
      | nil => exact ⟨_, _, rfl, p ρ H1 _ .refl hr ((hs.set i r1).set j r2)⟩
      | cons _ _ => exact p.elim
theorem sp_par3 {i j l : Nat} {x y z : Str} {a b c : Expr} {fa : Sm (List Va)} {px py pz pt : Pos} {kt k2 pt2} (hc : X.calm = true) (hN : X.N.Nodup) (h : PA X [a, b, c] (tAr (ctOf X) W fa)) (hi : X.N[i]? = some x := by rfl) (hj : X.N[j]? = some y := by rfl) (hl : X.N[l]? = some z := by rfl)
    (hij : i ≠ j := by decide) (hil : i ≠ l := by decide) (hjl : j ≠ l := by decide) (hx : X.env.scope.names.lookup x = some .local := by rfl) (hy : X.env.scope.names.lookup y = some .local := by rfl) (hz : X.env.scope.names.lookup z = some .local := by rfl)
    (hw : swappedStores [.Tuple [.Name x px, .Name y py, .Name z pz] kt pt] (.Tuple [a, b, c] k2 pt2) X.env = pure (some [x, y, z]) := by rfl) (hs : swapsWithSole [.Tuple [.Name x px, .Name y py, .Name z pz] kt pt] (.Tuple [a, b, c] k2 pt2) pos.line X.env = pure false := by rfl) :
    PS X (.Assign [.Tuple [.Name x px, .Name y py, .Name z pz] kt pt] (.Tuple [a, b, c] k2 pt2) pos) (tS_ X W (sPar [i, j, l] fa)) := ps_of (ps_par3 hc hN hi hj hl hij hil hjl hx hy hz h hw hs) fun D σ H h => tSt_bnS h fun ρ H1 e h1 xs vs hs hr rv p => by
  cases rv with
  | nil => exact p.elim
  | cons r1 rv => cases rv with
    | nil => exact p.elim
    | cons r2 rv => cases rv with
      | nil => exact p.elim
      | cons r3 rv => cases rv with
        | nil => exact ⟨_, _, _, rfl, p ρ H1 _ .refl hr (((hs.set i r1).set j r2).set l r3)⟩
        | cons _ _ => exact p.elim
theorem sp_aug {op : Operator} {k : Va → Va → Hs → Rs Va} {i : Nat} {x : Str} {pos' : Pos} (hN : X.N.Nodup) (he : PE X e (tE (ctOf X) W fe)) (ho : OpK X (inplaceOp op) k)
    (hi : X.N[i]? = some x := by rfl) (hx : Loc X.env.scope x := by first | exact Or.inl rfl | exact Or.inr rfl) (hf : X.fn x = true ∨ X.env.scope.names.lookup x = some .local := by first | exact .inl rfl | exact .inr rfl) : PS X (.AugAssign (.Name x pos') op e pos) (tS_ X W (sAug k i fe)) := by
  obtain ⟨t, h1, h2⟩ := ho
  refine ps_of (ps_aug (ti := t) hN hi hx he h1 hf) fun D σ H ⟨ρ, e, h, hs, hr, p⟩ => ?_
  have p : PoS (ctOf X) W D ρ H (bnS (s2 k (sVar i) fe) (fun x e h => .nx (e.set i (some x)) h) e h) := p
  unfold bnS s2 bnd sVar at p
  cases q : e[i]? with
  | none => rw [q] at p; exact p.elim
  | some o => cases o with
    | none => rw [q] at p; exact p.elim
    | some y =>
      rw [q] at p
      obtain ⟨v, hv, rv⟩ := hs.2 i y q
      refine ⟨v, hv, ρ, e, h, hs, hr, ?_⟩
      dsimp only at p
      cases q2 : fe e h with
      | ok z h3 =>
        rw [q2] at p
        intro ρ1 H1 u e1 hr1 ru
        refine h2 ρ1 H1 h3 y z v u (fun c d H' => W c d σ H') _ hr1 (rv.mono e1) ru ?_
        cases q3 : k y z h3 with
        | ok w h4 =>
          simp only [vl, q3] at p
          exact fun ρ' H' w' ex hr' rw' => p ρ' H' _ (e1.trans ex) hr' ((((hs.mono e1).mono ex)).set i rw')
        | ex w h4 =>
          simp only [vl, q3] at p
          exact fun ρ' H' cls d ex hr' xr => p ρ' H' σ cls d (e1.trans ex) hr' ((hs.mono e1).mono ex) xr
        | bad =>
          simp only [vl, q3] at p
          exact p
      | ex w h4 => rw [q2] at p; exact fun ρ' H' cls d ex hr' xr => p ρ' H' σ cls d ex hr' (hs.mono ex) xr
      | bad => rw [q2] at p; exact p
@[simp] def kIad : Va → Va → Hs → Rs Va
  | .int i, .int j => okI (i + j)
  | .str x, .str y => fun h => if x.length + y.length ≤ 16777216 then .ok (.str (x ++ y)) h else .bad
  | _, _ => fun _ => .bad
theorem ks_iadd : OpK X (inplaceOp .Add) kIad := ⟨_, OpR.or iop_add iop_add_str, by
  intro ρ H h x y v u W Q hr rx ry p
  cases x <;> cases y <;> first
    | exact False.elim p
    | (cases rx; cases ry; exact .inl ⟨_, _, rfl, rfl, Po_ok p hr (.int _)⟩)
    | (rename_i x y
       cases rx; cases ry
       have p : Po _ _ _ _ _ _ (if x.length + y.length ≤ 16777216 then _ else _) := p
       split at p
       · rename_i c
         refine .inr ⟨_, _, rfl, rfl, by rw [str_len, str_len, line_eq]; exact c, ?_⟩
         rw [str_app]
         exact Po_ok p hr (.str _)
       · exact p.elim)⟩
end
end Fw

set_option Elab.async false
set_option linter.all false
set_option maxRecDepth 100000
set_option maxHeartbeats 2000000
set_option autoImplicit false
namespace Fw
open PySem PySem.Spec L2

/-! ### what is walked -/
abbrev Src := Nat → Hs → Option (Option Va)
@[simp] def srcV (xs : List Va) : Src := fun i _ => some xs[i]?
def srcL (n : Nat) : Src := fun i h => match h[n]? with
  | some (.lst xs) => some xs[i]?
  | _ => none
def srcEL (n : Nat) : Src := fun i h => match h[n]? with
  | some (.lst xs) => some (xs[i]?.map fun x => .tpw [.int (i : Nat), x])
  | _ => none
def srcEV (xs : List Va) : Src := fun i _ => some (xs[i]?.map fun x => .tpw [.int (i : Nat), x])
structure SrcR (C : Ct) (ρ : List Addr) (H : Hp) (s : Src) (J : It) : Prop where
  stp : ∀ (ρ1 : List Addr) (H1 : Hp) (h1 : Hs) (i : Nat), Ext C ρ H ρ1 H1 → HR C ρ1 h1 H1 → s i h1 = some none → J.stop i H1
  go : ∀ (ρ1 : List Addr) (H1 : Hp) (h1 : Hs) (i : Nat) (x : Va), Ext C ρ H ρ1 H1 → HR C ρ1 h1 H1 → s i h1 = some (some x) → J.go i H1 ∧ ∀ v H2, J.yld i H1 v H2 → Ext C ρ1 H1 ρ1 H2 ∧ HR C ρ1 h1 H2 ∧ Rp C ρ1 H2 x v
theorem SrcR.mono {C : Ct} {ρ ρ' : List Addr} {H H' : Hp} {s : Src} {J : It} (e : Ext C ρ H ρ' H') (r : SrcR C ρ H s J) : SrcR C ρ' H' s J :=
  ⟨fun ρ1 H1 h1 i ex => r.stp ρ1 H1 h1 i (e.trans ex), fun ρ1 H1 h1 i x ex => r.go ρ1 H1 h1 i x (e.trans ex)⟩
abbrev Sit := Sm (Src × Nat)
abbrev tIt (C : Ct) (W : WX) (f : Sit) : TI := tX C (fun ρ H s J => SrcR C ρ H s.1 J) W f
section
variable {C : Ct} {ρ : List Addr} {H : Hp}
theorem srcL_of {n : Nat} {a : Addr} (ha : ρ[n]? = some a) : SrcR C ρ H (srcL n) (Itl C.K a) := by
  have look : ∀ {ρ1 H1 h1 i r}, Ext C ρ H ρ1 H1 → HR C ρ1 h1 H1 → srcL n i h1 = some r → ∃ xs vs, H1 a = some (.lst vs) ∧ RpL C ρ1 H1 xs vs ∧ xs[i]? = r := fun {ρ1 H1 h1 i r} ex hr e => by
    unfold srcL at e
    split at e
    · rename_i xs hn
      obtain ⟨vs, e1, e2⟩ := hr.ob n _ a hn (ex.pre n a ha)
      exact ⟨xs, vs, e1, e2, Option.some.inj e⟩
    · cases e
  refine ⟨fun ρ1 H1 h1 i ex hr e => ?_, fun ρ1 H1 h1 i x ex hr e => ?_⟩
  · obtain ⟨xs, vs, e1, e2, e3⟩ := look ex hr e
    exact ⟨vs, SqL.of e1, by rw [← e2.length]; exact List.getElem?_eq_none_iff.mp e3⟩
  · obtain ⟨xs, vs, e1, e2, e3⟩ := look ex hr e
    obtain ⟨v, h1, h2⟩ := e2.get e3
    refine ⟨⟨vs, v, SqL.of e1, h1⟩, fun v' H2 ⟨q1, q2⟩ => ?_⟩
    subst q1
    have := q2 vs (SqL.of e1)
    rw [h1] at this
    cases this
    exact ⟨.refl, hr, h2⟩
theorem srcT_of {xs : List Va} {vs : List V} {a : Addr} (hq : SqT C.K H a vs) (rl : RpL C ρ H xs vs) : SrcR C ρ H (srcV xs) (Itt C.K a) := by
  refine ⟨fun ρ1 H1 h1 i ex hr e => ?_, fun ρ1 H1 h1 i x ex hr e => ?_⟩
  · exact ⟨vs, ex.tup _ _ hq, by rw [← rl.length]; exact List.getElem?_eq_none_iff.mp (Option.some.inj e)⟩
  · obtain ⟨v, q1, q2⟩ := (rl.mono ex).get (Option.some.inj e)
    refine ⟨⟨vs, v, ex.tup _ _ hq, q1⟩, fun v' H2 ⟨q3, q4⟩ => ?_⟩
    subst q3
    have := q4 vs (ex.tup _ _ hq)
    rw [q1] at this
    cases this
    exact ⟨.refl, hr, q2⟩
theorem srcR_of {xs : List Va} {vs : List V} {a : Addr} (hq : RoL C.K H a vs) (rl : RpL C ρ H xs vs) : SrcR C ρ H (srcV xs) (Itl C.K a) := by
  refine ⟨fun ρ1 H1 h1 i ex hr e => ?_, fun ρ1 H1 h1 i x ex hr e => ?_⟩
  · exact ⟨vs, (hq.mono ex).sq, by rw [← rl.length]; exact List.getElem?_eq_none_iff.mp (Option.some.inj e)⟩
  · obtain ⟨v, q1, q2⟩ := (rl.mono ex).get (Option.some.inj e)
    refine ⟨⟨vs, v, (hq.mono ex).sq, q1⟩, fun v' H2 ⟨q3, q4⟩ => ?_⟩
    subst q3
    have := q4 vs (hq.mono ex).sq
    rw [q1] at this
    cases this
    exact ⟨.refl, hr, q2⟩
theorem srcS_of {x : List Nat} : SrcR C ρ H (srcV (x.map fun c => .str [c])) (Its ⟨x.toArray⟩) := by
  refine ⟨fun ρ1 H1 h1 i ex hr e => ?_, fun ρ1 H1 h1 i y ex hr e => ?_⟩
  · have e : (x.map fun c => Va.str [c])[i]? = none := Option.some.inj e
    have := List.getElem?_eq_none_iff.mp e
    show (x.toArray).size ≤ i
    simpa using this
  · have e : (x.map fun c => Va.str [c])[i]? = some y := Option.some.inj e
    rw [List.getElem?_map] at e
    cases q : x[i]? with
    | none => rw [q] at e; cases e
    | some c =>
      rw [q] at e
      cases e
      refine ⟨?_, fun v H2 ⟨q3, c', q4, q5⟩ => ?_⟩
      · show i < (x.toArray).size
        simpa using (List.getElem?_eq_some_iff.mp q).1
      · subst q3 q5
        have q4 : (x.toArray)[i]? = some c' := q4
        rw [List.getElem?_toArray, q] at q4
        cases q4
        exact ⟨.refl, hr, .str [c]⟩
@[simp] def srcR (lo : Int) (n : Nat) : Src := fun i _ => if i < n then some (some (.int (lo + (i : Nat)))) else some none
theorem srcI_of {lo : Int} {n : Nat} : SrcR C ρ H (srcR lo n) (Itr lo n) := by
  refine ⟨fun ρ1 H1 h1 i ex hr e => ?_, fun ρ1 H1 h1 i y ex hr e => ?_⟩
  · unfold srcR at e
    split at e
    · cases e
    · rename_i c
      exact Nat.le_of_not_lt c
  · unfold srcR at e
    split at e
    · rename_i c
      cases e
      refine ⟨c, fun v H2 ⟨q1, q2⟩ => ?_⟩
      subst q1 q2
      exact ⟨.refl, hr, .int _⟩
    · cases e
theorem enum_of {s s' : Src} {a : Addr} (r : SrcR C ρ H s (Itl C.K a)) (hs : ∀ i h, s' i h = (s i h).map fun o => o.map fun x => .tpw [.int (i : Nat), x]) : SrcR C ρ H s' (Ite C.K a) := by
  refine ⟨fun ρ1 H1 h1 i ex hr e => ?_, fun ρ1 H1 h1 i x ex hr e => ?_⟩
  · rw [hs] at e
    cases q : s i h1 with
    | none => rw [q] at e; cases e
    | some o => cases o with
      | none => exact r.stp ρ1 H1 h1 i ex hr q
      | some y => rw [q] at e; cases e
  · rw [hs] at e
    cases q : s i h1 with
    | none => rw [q] at e; cases e
    | some o => cases o with
      | none => rw [q] at e; cases e
      | some y =>
        rw [q] at e
        cases e
        obtain ⟨⟨vs, v, g1, g2⟩, gy⟩ := r.go ρ1 H1 h1 i y ex hr q
        refine ⟨⟨vs, v, g1, g2⟩, fun w H2 ⟨T, x, e1, e2, e3, e4⟩ => ?_⟩
        subst e1 e3
        have hx := e4 vs g1
        obtain ⟨_, _, ry⟩ := gy x H1 ⟨rfl, fun ws hw => e4 ws hw⟩
        have en := ext_new (C := C) (ρ := ρ1) (o := .tup [.int (i : Nat), x]) e2
        exact ⟨en, hr.tup_ e2, .tpw (SqT.of upd_same) (.cons (.int _) (.cons (ry.mono en) .nil))⟩
end
/-- iterating a value -/
@[simp] def itV : Va → Hs → Option (Src × Nat)
  | .loc n, h => match h[n]? with
    | some (.lst xs) => some (srcL n, xs.length)
    | _ => none
  | .tup xs, _ => some (srcV xs, xs.length)
  | .tpw xs, _ => some (srcV xs, xs.length)
  | .ros xs, _ => some (srcV xs, xs.length)
  | .str x, _ => some (srcV (x.map fun c => .str [c]), x.length)
  | _, _ => none
def enV : Va → Hs → Option (Src × Nat)
  | .loc n, h => match h[n]? with
    | some (.lst xs) => some (srcEL n, xs.length)
    | _ => none
  | .ros xs, _ => some (srcEV xs, xs.length)
  | _, _ => none
def sItr (f : Sx) : Sit := bnd f fun x _ h => match itV x h with
  | some s => .ok s h
  | none => .bad
def sEnu (f : Sm (List Va)) : Sit := bnd f fun xs _ h => match xs with
  | [x] => match enV x h with
    | some s => .ok s h
    | none => .bad
  | _ => .bad
def sRg1 (f : Sm (List Va)) : Sit := bnd f fun xs _ h => match xs with
  | [.int j] => if -(2 ^ 62) ≤ j ∧ j < 2 ^ 62 then .ok (srcR 0 j.toNat, j.toNat) h else .bad
  | _ => .bad
def sRg2 (f : Sm (List Va)) : Sit := bnd f fun xs _ h => match xs with
  | [.int i, .int j] => if -(2 ^ 62) ≤ i ∧ i < 2 ^ 62 ∧ -(2 ^ 62) ≤ j ∧ j < 2 ^ 62 then .ok (srcR i (j - i).toNat, (j - i).toNat) h else .bad
  | _ => .bad
section
variable {X : Cx} {W : WX} {tg a b e : Expr} {fe : Sx} {fa : Sm (List Va)} {p pos : Pos}
theorem pi_of {t t' : TI} (h : PI X tg e t) (i : ∀ σ H Q, t' σ H Q → t σ H Q) : PI X tg e t' := ⟨fun pins s σ H R I q => h.run pins s σ H R I (i σ H R q)⟩
theorem pi_or {t t' : TI} (h : PI X tg e t) (h' : PI X tg e t') : PI X tg e (fun σ H R => t σ H R ∨ t' σ H R) := ⟨fun pins s σ H R I q => q.elim (h.run pins s σ H R I) (h'.run pins s σ H R I)⟩
theorem si_rg1 (hg : Gl X "range") (hm : X.mg "range" = none) (ha : PA X [a] (tAr (ctOf X) W fa)) (hs : starEach [a] X.env = [(false, eval a X.env)] := by rfl) : PI X tg (.Call (.Name "range" p) [a] [] pos) (tIt (ctOf X) W (sRg1 fa)) := pi_of (pi_range1 hg hm ha hs) fun σ H Q h => tX_bnd h fun ρ H1 e h1 xs vs hs hr rv p => by
  split at p
  · split at p
    · rename_i j c
      cases rv with
      | cons r1 r2 => cases r1; cases r2; exact ⟨_, rfl, c.1, c.2, p ρ H1 _ .refl hr srcI_of⟩
    · exact p.elim
  · exact p.elim
/-- a list, a tuple, a text, by what comes -/
theorem si_any (he : PE X e (tE (ctOf X) W fe)) : PI X tg e (tIt (ctOf X) W (sItr fe)) := pi_of (pi_or (pi_list (tg := tg) he) (pi_or (pi_tup he) (pi_str he))) fun σ H Q h => by
  obtain ⟨ρ, e, h, hs, hr, p⟩ := h
  have hh : tIt (ctOf X) W (sItr fe) σ H Q := ⟨ρ, e, h, hs, hr, p⟩
  have done : ∀ (P : Va → Prop) (R : V → Hp → Prop), (∀ x h', fe e h = .ok x h' → P x) → (∀ ρ1 H1 h1 x v, HR (ctOf X) ρ1 h1 H1 → Rp (ctOf X) ρ1 H1 x v → P x → Po (ctOf X) (fun ρ H (s : Src × Nat) J => SrcR (ctOf X) ρ H s.1 J) (fun c d H' => W c d σ H') Q ρ1 H1 (match itV x h1 with | some s => .ok s h1 | none => .bad) → R v H1) → tE (ctOf X) W fe σ H R := fun P R h1 h2 => by
    refine ⟨ρ, e, h, hs, hr, ?_⟩
    unfold sItr bnd at p
    cases q : fe e h with
    | ok x h' => rw [q] at p; exact fun ρ1 H1 v e1 hr1 rv => h2 ρ1 H1 h' x v hr1 rv (h1 x h' q) (Po.mono e1 p)
    | ex x h' => rw [q] at p; exact p
    | bad => rw [q] at p; exact p
  cases q : fe e h with
  | ok x h' =>
    cases x with
    | loc n => exact .inl (done (fun x => ∃ n, x = .loc n) _ (fun x h2 e2 => by rw [q] at e2; cases e2; exact ⟨_, rfl⟩) fun ρ1 H1 h1 x v hr1 rv ⟨n, ex⟩ p => by
        subst ex
        have p : Po _ _ _ _ _ _ (match (match h1[n]? with | some (.lst xs) => some (srcL n, xs.length) | _ => none) with | some s => .ok s h1 | none => .bad) := p
        split at p
        · rename_i s hs'
          split at hs'
          · rename_i xs hn
            cases hs'
            obtain ⟨a, vs, rfl, ha, hl, rl⟩ := hr1.ls_ hn rv
            exact ⟨a, rfl, ⟨vs, SqL.of hl⟩, p ρ1 H1 _ .refl hr1 (srcL_of ha)⟩
          · cases hs'
        · exact p.elim)
    | ros xs => exact .inl (done (fun x => ∃ n, x = .ros n) _ (fun x h2 e2 => by rw [q] at e2; cases e2; exact ⟨_, rfl⟩) fun ρ1 H1 h1 x v hr1 rv ⟨n, ex⟩ p => by
        subst ex
        cases rv with
        | ros hq rl => exact ⟨_, rfl, ⟨_, hq.sq⟩, p ρ1 H1 _ .refl hr1 (srcR_of hq rl)⟩)
    | tup xs => exact .inr (.inl (done (fun x => ∃ n, x = .tup n) _ (fun x h2 e2 => by rw [q] at e2; cases e2; exact ⟨_, rfl⟩) fun ρ1 H1 h1 x v hr1 rv ⟨n, ex⟩ p => by
        subst ex
        cases rv with
        | tup hq rl => exact ⟨_, rfl, ⟨_, hq.sq⟩, p ρ1 H1 _ .refl hr1 (srcT_of hq.sq rl)⟩))
    | tpw xs => exact .inr (.inl (done (fun x => ∃ n, x = .tpw n) _ (fun x h2 e2 => by rw [q] at e2; cases e2; exact ⟨_, rfl⟩) fun ρ1 H1 h1 x v hr1 rv ⟨n, ex⟩ p => by
        subst ex
        cases rv with
        | tpw hq rl => exact ⟨_, rfl, ⟨_, hq⟩, p ρ1 H1 _ .refl hr1 (srcT_of hq rl)⟩))
    | str xs => exact .inr (.inr (done (fun x => ∃ n, x = .str n) _ (fun x h2 e2 => by rw [q] at e2; cases e2; exact ⟨_, rfl⟩) fun ρ1 H1 h1 x v hr1 rv ⟨n, ex⟩ p => by
        subst ex
        cases rv
        exact ⟨_, rfl, p ρ1 H1 _ .refl hr1 srcS_of⟩))
    | _ =>
      unfold sItr bnd at p
      rw [q] at p
      exact p.elim
  | ex x h' =>
    refine .inl ⟨ρ, e, h, hs, hr, ?_⟩
    unfold sItr bnd at p
    rw [q] at p ⊢
    exact p
  | bad =>
    unfold sItr bnd at p
    rw [q] at p
    exact p.elim
theorem si_enum {elts : List Expr} {kk : Nat} {tpos : Pos} (hg : Gl X "enumerate") (hm : X.mg "enumerate" = none) (ha : PA X [a] (tAr (ctOf X) W fa)) (hs : starEach [a] X.env = [(false, eval a X.env)] := by rfl) : PI X (.Tuple elts kk tpos) (.Call (.Name "enumerate" p) [a] [] pos) (tIt (ctOf X) W (sEnu fa)) :=
  pi_of (pi_enum hg hm ha hs) fun σ H Q h => tX_bnd h fun ρ H1 e h1 xs vs hs hr rv p => by
  split at p
  · rename_i x
    cases rv with
    | cons r1 r2 =>
    cases r2
    cases x with
    | loc n =>
      have p : Po _ _ _ _ _ _ (match (match h1[n]? with | some (.lst xs) => some (srcEL n, xs.length) | _ => none) with | some s => .ok s h1 | none => .bad) := p
      split at p
      · rename_i s hs'
        split at hs'
        · rename_i xs hn
          cases hs'
          obtain ⟨a, vs, rfl, ha, hl, rl⟩ := hr.ls_ hn r1
          refine ⟨a, vs, rfl, SqL.of hl, p ρ H1 _ .refl hr (enum_of (srcL_of ha) fun i h => ?_)⟩
          show srcEL n i h = _
          unfold srcEL srcL
          split
          · rfl
          · rfl
        · cases hs'
      · exact p.elim
    | ros xs =>
      cases r1 with
      | ros hq rl => exact ⟨_, _, rfl, hq.sq, p ρ H1 _ .refl hr (enum_of (srcR_of hq rl) fun i h => rfl)⟩
    | _ => exact p.elim
  · exact p.elim
end

/-! ### for, while -/
def aft (r : Rt) (k : Ss) : Rt := match r with
  | .nx e h => k e h
  | .ct e h => k e h
  | .bk e h => .nx e h
  | .rt x h => .rt x h
  | .ex x e h => .ex x e h
  | .bad => .bad
def stp (g : Tg) (b : Ss) (x : Va) : Ss := fun e h => match g x e h with
  | .ok e' h' => b e' h'
  | _ => .bad
def loop (s : Src) (b : Va → Ss) : Nat → Nat → Ss
  | 0, i => fun e h => match s i h with
    | some none => .nx e h
    | _ => .bad
  | k + 1, i => fun e h => match s i h with
    | some (some x) => aft (b x e h) (loop s b k (i + 1))
    | _ => .bad
def sFor (f : Sit) (g : Tg) (b : Ss) : Ss := bnS f fun s => loop s.1 (stp g b) s.2 0
def whl (t : Sm Bool) (b : Ss) : Nat → Ss
  | 0 => fun _ _ => .bad
  | k + 1 => fun e h => match t e h with
    | .ok true h' => aft (b e h') (whl t b k)
    | .ok false h' => .nx e h'
    | .ex x h' => .ex x e h'
    | .bad => .bad
section
variable {X : Cx} {W : WX} {tg iter c : Expr} {body : List Stmt} {f : Sit} {g : Tg} {b : Ss} {t : Sm Bool} {pos : Pos}
theorem PoS_aft {D : Ends} {ρ : List Addr} {H : Hp} {k : Ss} {N : L2.St → Hp → Prop} (hN : ∀ ρ' H' σ' e h, Ext (ctOf X) ρ H ρ' H' → HR (ctOf X) ρ' h H' → SR (ctOf X) ρ' H' e σ' → PoS (ctOf X) W D ρ' H' (k e h) → N σ' H') : ∀ {r : Rt}, PoS (ctOf X) W D ρ H (aft r k) → PoS (ctOf X) W { D with nx := N, ct := N, bk := D.nx } ρ H r
  | .nx e' h', p => fun ρ' H' σ' ex hr hs => hN ρ' H' σ' e' h' ex hr hs (PoS.mono ex p)
  | .ct e' h', p => fun ρ' H' σ' ex hr hs => hN ρ' H' σ' e' h' ex hr hs (PoS.mono ex p)
  | .bk _ _, p => p
  | .rt _ _, p => p
  | .ex _ _ _, p => p
  | .bad, p => p
theorem sp_for (hp : PassesOwn (model X.prog X.w) X.A X.env X.xe) (hc : X.calm = true) (hi : PI X tg iter (tIt (ctOf X) W f)) (hg : PG X tg (tTg (ctOf X) g)) (hb : PSs X body (tS_ X W b)) (hs : ∀ x, foldedSetIterable iter X.env x = pure x := by intro _; rfl) :
    PS X (.For tg iter body [] pos) (tS_ X W (sFor f g b)) := ps_of (ps_for hp hc hi hg hb hs) fun D σ H h => tSt_bnS h fun ρ H1 e h1 s J hs hr sr p => by
  refine ⟨fun i m σ H => ∃ ρ1 e h, SR (ctOf X) ρ1 H e σ ∧ HR (ctOf X) ρ1 h H ∧ Ext (ctOf X) ρ H1 ρ1 H ∧ PoS (ctOf X) W D ρ1 H (loop s.1 (stp g b) m i e h), ⟨s.2, ρ, e, h1, hs, hr, .refl, p⟩, ?_⟩
  rintro i m σ2 H2 ⟨ρ2, e2, h2, hs2, hr2, ex2, p2⟩
  cases m with
  | zero =>
    unfold loop at p2
    split at p2
    · rename_i q
      exact .inl ⟨sr.stp ρ2 H2 h2 i ex2 hr2 q, p2 ρ2 H2 σ2 .refl hr2 hs2⟩
    · exact p2.elim
  | succ m =>
    unfold loop at p2
    split at p2
    · rename_i x q
      obtain ⟨go, gy⟩ := sr.go ρ2 H2 h2 i x ex2 hr2 q
      refine .inr ⟨go, fun σ' H' => ∃ ρ1 e h, SR (ctOf X) ρ1 H' e σ' ∧ HR (ctOf X) ρ1 h H' ∧ Ext (ctOf X) ρ H1 ρ1 H' ∧ PoS (ctOf X) W D ρ1 H' (loop s.1 (stp g b) m (i + 1) e h), fun σ' H' w => ⟨m, Nat.lt_succ_self m, w⟩, fun v H3 y => ?_⟩
      obtain ⟨ex3, hr3, rx⟩ := gy v H3 y
      refine ⟨ρ2, e2, h2, x, hs2.mono ex3, hr3, rx, ?_⟩
      have p3 := PoS.mono ex3 p2
      unfold stp at p3
      cases q2 : g x e2 h2 with
      | ok e' h' =>
        rw [q2] at p3
        exact fun ρ' H' σ' ex hr' hs' => ⟨ρ', e', h', hs', hr', PoS_aft (fun ρ5 H5 σ5 e5 h5 ex5 hr5 hs5 p5 => ⟨ρ5, e5, h5, hs5, hr5, ((ex2.trans ex3).trans ex).trans ex5, p5⟩) (PoS.mono ex p3)⟩
      | ex _ _ => rw [q2] at p3; exact p3.elim
      | bad => rw [q2] at p3; exact p3.elim
    · exact p2.elim
theorem sp_while (n : Nat) (hp : PassesOwn (model X.prog X.w) X.A X.env X.xe) (hc : PT X c (tB_ X W t)) (hb : PSs X body (tS_ X W b)) : PS X (.While c body [] pos) (tS_ X W (whl t b n)) := ps_of (ps_while hp hc hb) fun D σ H ⟨ρ, e, h, hs, hr, p⟩ => by
  refine ⟨fun m σ H => ∃ ρ1 e h, SR (ctOf X) ρ1 H e σ ∧ HR (ctOf X) ρ1 h H ∧ PoS (ctOf X) W D ρ1 H (whl t b m e h), ⟨n, ρ, e, h, hs, hr, p⟩, ?_⟩
  rintro m σ2 H2 ⟨ρ2, e2, h2, hs2, hr2, p2⟩
  cases m with
  | zero => exact p2.elim
  | succ m =>
    unfold whl at p2
    refine ⟨ρ2, e2, h2, hs2, hr2, ?_⟩
    cases q : t e2 h2 with
    | ok k h3 =>
      rw [q] at p2
      intro ρ3 H3 v ex3 hr3 rv
      have rv : k = v := rv
      subst rv
      cases k with
      | true =>
        refine iteT ⟨fun σ' H' => ∃ ρ1 e h, SR (ctOf X) ρ1 H' e σ' ∧ HR (ctOf X) ρ1 h H' ∧ PoS (ctOf X) W D ρ1 H' (whl t b m e h), fun σ' H' w => ⟨m, Nat.lt_succ_self m, w⟩, ρ3, e2, h3, hs2.mono ex3, hr3, ?_⟩
        exact PoS_aft (fun ρ5 H5 σ5 e5 h5 ex5 hr5 hs5 p5 => ⟨ρ5, e5, h5, hs5, hr5, p5⟩) (PoS.mono ex3 p2)
      | false => exact iteF (p2 ρ3 H3 σ2 ex3 hr3 (hs2.mono ex3))
    | ex x h3 => rw [q] at p2; exact fun ρ' H' cls d a b c => p2 ρ' H' σ2 cls d a b (hs2.mono a) c
    | bad => rw [q] at p2; exact p2.elim
end
end Fw

set_option Elab.async false
set_option linter.all false
set_option maxRecDepth 100000
set_option maxHeartbeats 2000000
set_option autoImplicit false
namespace Fw
open PySem PySem.Spec L2

/-! ### keeping, without the frame -/
structure Ex0 (C : Ct) (ρ : List Addr) (H : Hp) (ρ' : List Addr) (H' : Hp) : Prop where
  pre : ∀ (n : Nat) (a : Addr), ρ[n]? = some a → ρ'[n]? = some a
  tup : ∀ a vs, SqT C.K H a vs → SqT C.K H' a vs
  frz : ∀ a o u, H a = some (.frz o u) → H' a = some (.frz o u)
theorem SqD.keep {C : Ct} {ρ ρ' : List Addr} {H H' : Hp} (x : Ex0 C ρ H ρ' H') {a : Addr} {vs : List V} (h : SqD C.K H a vs) : SqD C.K H' a vs := ⟨x.tup _ _ h.sq, let ⟨o, u, e, t⟩ := h.dn; ⟨o, u, x.frz _ _ _ e, t⟩⟩
mutual
theorem Rp.keep {C : Ct} {ρ ρ' : List Addr} {H H' : Hp} (x : Ex0 C ρ H ρ' H') : ∀ {y : Va} {v : V}, Rp C ρ H y v → Rp C ρ' H' y v
  | _, _, .non => .non
  | _, _, .bl b => .bl b
  | _, _, .int i => .int i
  | _, _, .str s => .str s
  | _, _, .tup h r => .tup (h.keep x) (RpL.keep x r)
  | _, _, .tpw h r => .tpw (x.tup _ _ h) (RpL.keep x r)
  | _, _, .ros h r => .ros (h.elim (fun ⟨o, q⟩ => .inl ⟨o, x.frz _ _ _ q⟩) .inr) (RpL.keep x r)
  | _, _, .loc h => .loc (x.pre _ _ h)
  | _, _, .fn h => .fn h
  | _, _, .ty n => .ty n
  | _, _, .rg h => .rg (x.frz _ _ _ h)
theorem RpL.keep {C : Ct} {ρ ρ' : List Addr} {H H' : Hp} (x : Ex0 C ρ H ρ' H') : ∀ {y : List Va} {v : List V}, RpL C ρ H y v → RpL C ρ' H' y v
  | _, _, .nil => .nil
  | _, _, .cons h r => .cons (Rp.keep x h) (RpL.keep x r)
end
theorem RpK.keep {C : Ct} {ρ ρ' : List Addr} {H H' : Hp} {xs : List (Va × Va)} {vs : List (Key × V)} (r : RpK C ρ H xs vs) (x : Ex0 C ρ H ρ' H') : RpK C ρ' H' xs vs := r.map fun q => q.keep x
section
variable {C : Ct} {ρ ρ1 : List Addr} {H H1 : Hp} {h : Hs} {D : Addr} {w w' : List V}
/-- a list that stands apart from ours is written -/
theorem ex0_away (hD : H D = some (.lst w)) : Ex0 C ρ H ρ (upd H D (.lst w')) where
  pre := fun _ _ h => h
  tup := fun a vs q => by
    have na : ∀ u, H a = some u → (∀ z, u ≠ .lst z) → a ≠ D := fun u e nz z => by
      rw [z, hD] at e
      exact nz w (Option.some.inj e).symm
    rcases q with (q | ⟨o, q⟩) | q
    · exact .inl (.inl (by rw [upd_ne (na _ q fun z e => by cases e)]; exact q))
    · exact .inl (.inr ⟨o, by rw [upd_ne (na _ q fun z e => by cases e)]; exact q⟩)
    · exact .inr q
  frz := fun a o u q => by
    rw [upd_ne (fun z => by rw [z, hD] at q; cases q)]
    exact q
theorem HR.away (hr : HR C ρ h H) (hD : H D = some (.lst w)) (hn : ∀ n : Nat, ρ[n]? ≠ some D) : HR C ρ h (upd H D (.lst w')) := by
  refine ⟨hr.len, hr.nd, fun n o a hn' ha => ?_⟩
  have q := hr.ob n o a hn' ha
  revert q
  cases o with
  | lst xs => rintro ⟨vs, e1, e2⟩; exact ⟨vs, by rw [upd_ne (fun z => hn n (by rw [← z]; exact ha))]; exact e1, e2.keep (ex0_away hD)⟩
  | dct k => rintro ⟨vs, e1, e2⟩; exact ⟨vs, by rw [upd_ne (fun z => hn n (by rw [← z]; exact ha))]; exact e1, e2.keep (ex0_away hD)⟩
theorem Ext.mut_ (e : Ext C ρ H ρ1 H1) (h0 : H D = none) (hD : H1 D = some (.lst w)) : Ext C ρ H ρ1 (upd H1 D (.lst w')) where
  pre := e.pre
  tup := fun a vs q => (ex0_away (C := C) (ρ := ρ1) hD).tup a vs (e.tup a vs q)
  frz := fun a o u q => (ex0_away (C := C) (ρ := ρ1) hD).frz a o u (e.frz a o u q)
  new := e.new
  frm := fun a o q hn => by
    rw [upd_ne (ne_of_none q h0)]
    exact e.frm a o q hn
  liv := fun a o q => by
    obtain ⟨o', q'⟩ := e.liv a o q
    exact ⟨o', by rw [upd_ne (ne_of_none q h0)]; exact q'⟩
/-- it becomes ours -/
theorem HR.adopt (hr : HR C ρ1 h H1) (e : Ext C ρ H ρ1 H1) (h0 : H D = none) (hD : H1 D = some (.lst w)) (hn : ∀ n : Nat, ρ1[n]? ≠ some D) {xs : List Va} (r : RpL C ρ1 H1 xs w) :
    Ext C ρ H (ρ1 ++ [D]) H1 ∧ HR C (ρ1 ++ [D]) (h ++ [.lst xs]) H1 ∧ Rp C (ρ1 ++ [D]) H1 (.loc h.length) (.ref D) := by
  have x0 : Ex0 C ρ1 H1 (ρ1 ++ [D]) H1 := ⟨fun n a q => by rw [List.getElem?_append_left (List.getElem?_eq_some_iff.mp q).1]; exact q, fun _ _ q => q, fun _ _ _ q => q⟩
  have last : ∀ (n : Nat) (a : Addr), (ρ1 ++ [D])[n]? = some a → (n < ρ1.length ∧ ρ1[n]? = some a) ∨ (n = ρ1.length ∧ a = D) := fun n a q => by
    by_cases hl : n < ρ1.length
    · rw [List.getElem?_append_left hl] at q
      exact .inl ⟨hl, q⟩
    · have l := (List.getElem?_eq_some_iff.mp q).1
      simp at l
      have en : n = ρ1.length := by omega
      subst en
      simp at q
      exact .inr ⟨rfl, q.symm⟩
  refine ⟨⟨fun n a q => x0.pre n a (e.pre n a q), e.tup, e.frz, fun n a q => ?_, e.frm, e.liv⟩, ⟨by simp [hr.len], fun i j a hi hj => ?_, fun n o a ho ha => ?_⟩, .loc (by rw [← hr.len]; simp)⟩
  · rcases last n a q with ⟨_, q⟩ | ⟨_, rfl⟩
    · exact e.new n a q
    · exact .inr h0
  · rcases last i a hi with ⟨_, q1⟩ | ⟨rfl, rfl⟩ <;> rcases last j _ hj with ⟨_, q2⟩ | ⟨e2, e3⟩
    · exact hr.nd i j a q1 q2
    · subst e3; exact absurd q1 (hn i)
    · exact absurd q2 (hn j)
    · exact e2.symm
  · rcases last n a ha with ⟨l, q⟩ | ⟨rfl, rfl⟩
    · rw [List.getElem?_append_left (by rw [← hr.len]; exact l)] at ho
      have z := hr.ob n o a ho q
      revert z
      cases o with
      | lst ys => rintro ⟨vs, e1, e2⟩; exact ⟨vs, e1, e2.keep x0⟩
      | dct k => rintro ⟨vs, e1, e2⟩; exact ⟨vs, e1, e2.keep x0⟩
    · rw [hr.len] at ho
      simp at ho
      subst ho
      exact ⟨w, hD, r.keep x0⟩
end

/-! ### comprehensions -/
def wipeE (e : En) : List Nat → En
  | [] => e
  | v :: vs => (wipeE e vs).set v none
theorem SR.setN {C : Ct} {ρ : List Addr} {H : Hp} {e : En} {σ : L2.St} (h : SR C ρ H e σ) (i : Nat) : SR C ρ H (e.set i none) (σ.set i none) := by
  refine ⟨by simp [h.1], fun j y q => ?_⟩
  by_cases hij : i = j
  · subst hij
    rw [List.getElem?_set] at q
    by_cases hl : i < e.length
    · simp [hl] at q
    · simp [hl] at q
  · rw [List.getElem?_set_ne hij] at q ⊢
    exact h.2 j y q
theorem SR.wipe {C : Ct} {ρ : List Addr} {H : Hp} {e : En} {σ : L2.St} (h : SR C ρ H e σ) : ∀ vs, SR C ρ H (wipeE e vs) (L2.wipe σ vs)
  | [] => h
  | v :: vs => (SR.wipe h vs).setN v
theorem SR.keep {C : Ct} {ρ ρ' : List Addr} {H H' : Hp} {e : En} {σ : L2.St} (x : Ex0 C ρ H ρ' H') (h : SR C ρ H e σ) : SR C ρ' H' e σ :=
  ⟨h.1, fun i y q => let ⟨v, e1, r⟩ := h.2 i y q; ⟨v, e1, r.keep x⟩⟩
/-- a target of names alone -/
def NT (C : Ct) (vs : List Nat) (g : TG) (f : Tg) : Prop := ∀ (ρ : List Addr) (H : Hp) (e : En) (h : Hs) (x : Va) (v : V) (σ : L2.St) (Q : L2.St → Hp → Prop) (e' : En) (h' : Hs), SR C ρ H e σ → HR C ρ h H → Rp C ρ H x v → f x e h = .ok e' h' →
  (∀ σ', h' = h → SR C ρ H e' σ' → L2.wipe σ' vs = L2.wipe σ vs → Q σ' H) → g v σ H Q
def NTs (C : Ct) (vs : List Nat) (g : TGs) (f : Tgs) : Prop := ∀ (ρ : List Addr) (H : Hp) (e : En) (h : Hs) (x : List Va) (v : List V) (σ : L2.St) (Q : L2.St → Hp → Prop) (e' : En) (h' : Hs), SR C ρ H e σ → HR C ρ h H → RpL C ρ H x v → f x e h = .ok e' h' →
  (∀ σ', h' = h → SR C ρ H e' σ' → L2.wipe σ' vs = L2.wipe σ vs → Q σ' H) → g v σ H Q
theorem wipe_set {i : Nat} {o : Option V} : ∀ {vs : List Nat} {σ : L2.St}, i ∈ vs → L2.wipe (σ.set i o) vs = L2.wipe σ vs := by
  have comm : ∀ (vs : List Nat) (σ : L2.St), i ∉ vs → L2.wipe (σ.set i o) vs = (L2.wipe σ vs).set i o := by
    intro vs
    induction vs with
    | nil => intro σ _; rfl
    | cons v vs ih =>
      intro σ hi
      show (L2.wipe (σ.set i o) vs).set v none = ((L2.wipe σ vs).set v none).set i o
      rw [ih σ (fun z => hi (List.mem_cons_of_mem _ z)), List.set_comm]
      exact fun z => hi (by rw [z]; exact List.mem_cons_self)
  intro vs
  induction vs with
  | nil => intro σ h; cases h
  | cons v vs ih =>
    intro σ h
    show (L2.wipe (σ.set i o) vs).set v none = (L2.wipe σ vs).set v none
    by_cases hm : i ∈ vs
    · rw [ih hm]
    · have e : i = v := (List.mem_cons.mp h).resolve_right hm
      subst e
      rw [comm vs σ hm, List.set_set]
section
variable {C : Ct} {vs : List Nat}
theorem nt_name (i : Nat) (hi : i ∈ vs := by decide) : NT C vs (gName i) (gNm i) := fun ρ H e h x v σ Q e' h' hs hr rv q hQ => by
  cases q
  exact hQ _ rfl (hs.set i rv) (wipe_set hi)
theorem nts_nil : NTs C vs gNil gsNil := fun ρ H e h x v σ Q e' h' hs hr rv q hQ => by
  cases rv with
  | nil => cases q; exact ⟨rfl, hQ σ rfl hs rfl⟩
  | cons _ _ => cases q
theorem nts_cons {g : TG} {f : Tg} {gs : TGs} {fs : Tgs} (h1 : NT C vs g f) (h2 : NTs C vs gs fs) : NTs C vs (gCons g gs) (gsCons f fs) := fun ρ H e h x v σ Q e' h' hs hr rv q hQ => by
  cases rv with
  | nil => cases q
  | cons r1 r2 =>
    refine ⟨_, _, rfl, ?_⟩
    unfold gsCons at q
    dsimp only at q
    split at q
    · rename_i e1 hh1 q1
      exact h1 ρ H e h _ _ σ _ e1 hh1 hs hr r1 q1 fun σ1 eh hs1 w1 => by
        subst eh
        exact h2 ρ H e1 hh1 _ _ σ1 Q e' h' hs1 hr r2 q fun σ2 eh2 hs2 w2 => hQ σ2 eh2 hs2 (w2.trans w1)
    · cases q
theorem nt_tup {n : Nat} {gs : TGs} {fs : Tgs} (h1 : NTs C vs gs fs) : NT C vs (fun v σ H Q => gTup C.K n gs v σ H Q ∨ gUnl C.K n gs v σ H Q) (gTp n fs) := fun ρ H e h x v σ Q e' h' hs hr rv q hQ => by
  cases x with
  | tup xs =>
    have q : (if xs.length = n then fs xs e h else .bad) = Rs.ok e' h' := q
    split at q
    · rename_i hl
      cases rv with
      | tup hq rl => exact .inl ⟨_, _, rfl, hq.sq, by rw [← rl.length]; exact hl, h1 ρ H e h xs _ σ Q e' h' hs hr rl q hQ⟩
    · cases q
  | tpw xs =>
    have q : (if xs.length = n then fs xs e h else .bad) = Rs.ok e' h' := q
    split at q
    · rename_i hl
      cases rv with
      | tpw hq rl => exact .inl ⟨_, _, rfl, hq, by rw [← rl.length]; exact hl, h1 ρ H e h xs _ σ Q e' h' hs hr rl q hQ⟩
    · cases q
  | loc m =>
    have q : (match h[m]? with | some (.lst xs) => if xs.length = n then fs xs e h else .bad | _ => .bad) = Rs.ok e' h' := q
    split at q
    · rename_i xs hm
      obtain ⟨a, ws, rfl, ha, hl, rl⟩ := hr.ls_ hm rv
      split at q
      · rename_i hl2
        exact .inr ⟨_, _, rfl, SqL.of hl, by rw [← rl.length]; exact hl2, h1 ρ H e h xs _ σ Q e' h' hs hr rl q hQ⟩
      · cases q
    · cases q
  | _ => cases q
end
section
variable {X : Cx} {pos : Pos} {e : Expr} {es : List Expr}
theorem pg_or {t t' : TG} (h : PG X e t) (h' : PG X e t') : PG X e (fun v σ H Q => t v σ H Q ∨ t' v σ H Q) := ⟨fun pins s σ H v u Q I r q => q.elim (h.run pins s σ H v u Q I r) (h'.run pins s σ H v u Q I r)⟩
theorem pg_tl {k n : Nat} {t : TGs} (hc : X.calm = true) (h : PGs X es t) (hn : (assignEach es X.env).length = n := by rfl) (hst : (assignEach es X.env).findIdx? (·.1) = none := by rfl) : PG X (.Tuple es k pos) (fun v σ H Q => gTup X.K n t v σ H Q ∨ gUnl X.K n t v σ H Q) := pg_or (pg_tup hc h hn hst) (pg_unl hc h hn hst)
end

def lcl (s : Src) (g : Tg) (t : Sm Bool) (el : Sx) : Nat → Nat → En → Hs → Rs (List Va)
  | 0, i, _, h => match s i h with
    | some none => .ok [] h
    | _ => .bad
  | k + 1, i, e, h => match s i h with
    | some (some x) => match g x e h with
      | .ok e' h1 => match t e' h1 with
        | .ok true h2 => match el e' h2 with
          | .ok y h3 => match lcl s g t el k (i + 1) e h3 with
            | .ok ys h4 => .ok (y :: ys) h4
            | r => r
          | _ => .bad
        | .ok false h2 => lcl s g t el k (i + 1) e h2
        | _ => .bad
      | _ => .bad
    | _ => .bad
def tru : Sm Bool := fun _ h => .ok true h
def lst_ (acc : List Va) : Rs (List Va) → Rs Va
  | .ok ys h => newL (acc ++ ys) h
  | _ => .bad
def sLc (f : Sit) (g : Tg) (t : Sm Bool) (el : Sx) (own : List Nat) : Sx := bnd f fun s e h => lst_ [] (lcl s.1 g t el s.2 0 (wipeE e own) h)
abbrev W0 : WX := fun _ _ _ _ => False
section
variable {X : Cx} {W : WX} {f : Sit} {g : Tg} {t : Sm Bool} {el : Sx} {own : List Nat} {gg : TG} {pos : Pos} {c : Expr}
theorem sts_nil {W : WX} : PTs X [] (tB_ X W tru) := ⟨fun pins s σ H Q I ⟨ρ, e, h, hs, hr, p⟩ => pts_nil.run pins s σ H Q I (p ρ H true .refl hr rfl)⟩
theorem sts_one {W : WX} (h : PT X c (tB_ X W t)) : PTs X [c] (tB_ X W t) := pts_one h
theorem tLc_of (hg : NT (ctOf X) own gg g) : ∀ σ H Q, tE (ctOf X) W (sLc f g t el own) σ H Q → tLc (tIt (ctOf X) W f) gg (tB_ X W0 t) (tE (ctOf X) W0 el) own σ H Q := fun σ H Q h => tX_bnd h fun ρ H1 e h1 s J hs hr sr p D hD => by
  have small : ∀ {acc : List Va} {r : Rs (List Va)}, Po (ctOf X) (Rp (ctOf X)) (fun c d H' => W c d σ H') Q ρ H1 (lst_ acc r) → ∃ ys h', r = .ok ys h' ∧ acc.length + ys.length ≤ 16777216 := fun {acc r} p => by
    cases r with
    | ok ys h' =>
      have p : Po (ctOf X) (Rp (ctOf X)) (fun c d H' => W c d σ H') Q ρ H1 (newL (acc ++ ys) h') := p
      unfold newL at p
      split at p
      · rename_i hl
        exact ⟨ys, h', rfl, by rw [List.length_append] at hl; exact hl⟩
      · exact p.elim
    | ex _ _ => exact p.elim
    | bad => exact p.elim
  have nD : ∀ n : Nat, ρ[n]? ≠ some D := fun n q => by
    obtain ⟨o, ho⟩ := hr.sm_ q
    rw [hD] at ho; cases ho
  refine ⟨fun i m H => ∃ (ρ1 : List Addr) (h : Hs) (acc : List Va) (accV : List V), Ext (ctOf X) ρ H1 ρ1 H ∧ HR (ctOf X) ρ1 h H ∧ (∀ n : Nat, ρ1[n]? ≠ some D) ∧ H D = some (.lst accV) ∧ RpL (ctOf X) ρ1 H acc accV ∧ SR (ctOf X) ρ1 H (wipeE e own) (L2.wipe σ own) ∧
    Po (ctOf X) (Rp (ctOf X)) (fun c d H' => W c d σ H') Q ρ H1 (lst_ acc (lcl s.1 g t el m i (wipeE e own) h)), ⟨s.2, ρ, h1, [], [], ext_new hD, hr.tup_ hD, nD, upd_same, .nil, (hs.mono (ext_new hD)).wipe own, p⟩, ?_⟩
  rintro i m H2 ⟨ρ2, h2, acc, accV, ex2, hr2, nD2, hD2, ra, hs2, p2⟩
  cases m with
  | zero =>
    obtain ⟨ys, h', q, hl⟩ := small p2
    rw [q] at p2
    unfold lcl at q
    split at q
    · rename_i q1
      cases q
      refine .inl ⟨sr.stp ρ2 H2 h2 i ex2 hr2 q1, ?_⟩
      have p2 : Po (ctOf X) (Rp (ctOf X)) (fun c d H' => W c d σ H') Q ρ H1 (newL (acc ++ []) h2) := p2
      rw [List.append_nil] at p2
      unfold newL at p2
      split at p2
      · obtain ⟨a1, a2, a3⟩ := hr2.adopt ex2 hD hD2 nD2 ra
        exact p2 _ _ _ a1 a2 a3
      · exact p2.elim
    · cases q
  | succ m =>
    obtain ⟨ys, h', q, hl⟩ := small p2
    have p0 := p2
    rw [q] at p2
    unfold lcl at q
    split at q
    · rename_i x q1
      obtain ⟨go, gy⟩ := sr.go ρ2 H2 h2 i x ex2 hr2 q1
      refine .inr ⟨go, fun H' => ∃ (ρ1 : List Addr) (h : Hs) (acc : List Va) (accV : List V), Ext (ctOf X) ρ H1 ρ1 H' ∧ HR (ctOf X) ρ1 h H' ∧ (∀ n : Nat, ρ1[n]? ≠ some D) ∧ H' D = some (.lst accV) ∧ RpL (ctOf X) ρ1 H' acc accV ∧ SR (ctOf X) ρ1 H' (wipeE e own) (L2.wipe σ own) ∧
        Po (ctOf X) (Rp (ctOf X)) (fun c d H' => W c d σ H') Q ρ H1 (lst_ acc (lcl s.1 g t el m (i + 1) (wipeE e own) h)), fun H' w => ⟨m, Nat.lt_succ_self m, w⟩, fun v H3 y => ?_⟩
      obtain ⟨ex3, hr3, rx⟩ := gy v H3 y
      have hD3 : H3 D = some (.lst accV) := ex3.frm D _ hD2 nD2
      split at q
      · rename_i e' h3 q2
        refine hg ρ2 H3 _ h2 x v _ _ e' h3 (hs2.mono ex3) hr3 rx q2 fun σ' eh hs3 hw => ?_
        subst eh
        refine ⟨hw.trans ?_, ρ2, e', h3, hs3, hr3, ?_⟩
        · -- wiped twice
          have tw : ∀ vs : List Nat, ∀ σ : L2.St, (∀ i ∈ vs, i ∈ own) → L2.wipe (L2.wipe σ vs) own = L2.wipe σ own := by
            intro vs
            induction vs with
            | nil => intro σ _; rfl
            | cons v vs ih =>
              intro σ hv
              show L2.wipe ((L2.wipe σ vs).set v none) own = _
              rw [wipe_set (hv v List.mem_cons_self)]
              exact ih σ fun i hi => hv i (List.mem_cons_of_mem _ hi)
          exact tw own σ fun _ hi => hi
        · split at q
          · rename_i h4 q3
            rw [q3]
            intro ρ4 H4 k ex4 hr4 ek
            have ek : true = k := ek
            subst ek
            refine iteT ⟨ρ4, e', h4, hs3.mono ex4, hr4, ?_⟩
            have nD4 : ∀ n : Nat, ρ4[n]? ≠ some D := fun n z => by
              rcases ex4.new n D z with z | z
              · exact nD2 n z
              · rw [hD3] at z; cases z
            have hD4 : H4 D = some (.lst accV) := ex4.frm D _ hD3 nD2
            split at q
            · rename_i y h5 q4
              rw [q4]
              intro ρ5 H5 w ex5 hr5 rw_
              have nD5 : ∀ n : Nat, ρ5[n]? ≠ some D := fun n z => by
                rcases ex5.new n D z with z | z
                · exact nD4 n z
                · rw [hD4] at z; cases z
              have hD5 : H5 D = some (.lst accV) := ex5.frm D _ hD4 nD4
              have exs : Ext (ctOf X) ρ H1 ρ5 H5 := ((ex2.trans ex3).trans ex4).trans ex5
              have ra5 : RpL (ctOf X) ρ5 H5 acc accV := ((ra.mono ex3).mono ex4).mono ex5
              have x0 := ex0_away (C := ctOf X) (ρ := ρ5) (w' := accV ++ [w]) hD5
              refine ⟨accV, hD5, ?_, ρ5, h5, acc ++ [y], accV ++ [w], exs.mut_ hD hD5, hr5.away hD5 nD5, nD5, upd_same, (ra5.append (.cons rw_ .nil)).keep x0, (((hs2.mono ex3).mono ex4).mono ex5).keep x0, ?_⟩
              · rw [← ra5.length, line_eq]
                split at q
                · cases q
                  have : acc.length + (_ :: _ : List Va).length ≤ 16777216 := hl
                  simp at this
                  omega
                · rename_i hx
                  exact (hx _ _ q).elim
              · unfold lcl at p0
                rw [q1] at p0
                simp only [q2, q3, q4] at p0
                cases q5 : lcl s.1 g t el m (i + 1) (wipeE e own) h5 with
                | ok zs h6 =>
                  rw [q5] at p0
                  show Po (ctOf X) (Rp (ctOf X)) (fun c d H' => W c d σ H') Q ρ H1 (newL ((acc ++ [y]) ++ zs) h6)
                  rw [List.append_assoc]
                  exact p0
                | ex _ _ => rw [q5] at p0; exact p0.elim
                | bad => rw [q5] at p0; exact p0.elim
            · cases q
          · rename_i h4 q3
            rw [q3]
            intro ρ4 H4 k ex4 hr4 ek
            have ek : false = k := ek
            subst ek
            have nD4 : ∀ n : Nat, ρ4[n]? ≠ some D := fun n z => by
              rcases ex4.new n D z with z | z
              · exact nD2 n z
              · rw [hD3] at z; cases z
            refine iteF ⟨ρ4, h4, acc, accV, (ex2.trans ex3).trans ex4, hr4, nD4, ex4.frm D _ hD3 nD2, (ra.mono ex3).mono ex4, (hs2.mono ex3).mono ex4, ?_⟩
            unfold lcl at p0
            rw [q1] at p0
            simp only [q2, q3] at p0
            exact p0
          · cases q
      · cases q
    · cases q
theorem se_lc {elt tg iter : Expr} {ifs : List Expr} {scope : Scope} {ow : List (Str × Nat)} (hc : X.calm = true) (hN : X.N.Nodup) (hi : PI X tg iter (tIt (ctOf X) W f)) (ok : BlkOk X.N X.env.scope scope ow) (hg : NT (ctOf X) own gg g)
    (hp : ∀ (s : Shared) (H : Hp) (C : Addr) (cl : List (Str × Addr)) (fp : List Addr), PG (X.blk s H scope (compEnvC scope cl C X.env) fp) tg gg) (ht : ∀ (s : Shared) (H : Hp) (C : Addr) (cl : List (Str × Addr)) (fp : List Addr), PTs (X.blk s H scope (compEnvC scope cl C X.env) fp) ifs (tB_ X W0 t))
    (he : ∀ (s : Shared) (H : Hp) (C : Addr) (cl : List (Str × Addr)) (fp : List Addr), PE (X.blk s H scope (compEnvC scope cl C X.env) fp) elt (tE (ctOf X) W0 el)) (hs : ∀ x, foldedSetIterable iter X.env x = pure x := by intro _; rfl) (ho : ow.map (·.2) = own := by rfl) :
    PE X (.ListComp elt [⟨tg, iter, ifs, 0⟩] scope pos) (tE (ctOf X) W (sLc f g t el own)) := by
  subst ho
  exact pe_of (pe_lc hc hN hi ok hp ht he hs) (tLc_of hg)
theorem sp_setLc (i : Nat) {y : Str} {py spos : Pos} {elt tg iter : Expr} {ifs : List Expr} {scope : Scope} {ow : List (Str × Nat)} (hc : X.calm = true) (hN : X.N.Nodup) (hy : X.N[i]? = some y) (hyl : X.env.scope.names.lookup y = some .local) (hsw : swapsWith (.ListComp elt [⟨tg, iter, ifs, 0⟩] scope pos) (some (.Name y py)) spos.line X.env = pure true)
    (hi : PI X tg iter (tIt (ctOf X) W f)) (ok : BlkOk X.N X.env.scope scope ow) (hg : NT (ctOf X) own gg g)
    (hp : ∀ (s : Shared) (H : Hp) (C : Addr) (cl : List (Str × Addr)) (fp : List Addr), PG (X.blk s H scope (compEnvC scope cl C X.env) fp) tg gg) (ht : ∀ (s : Shared) (H : Hp) (C : Addr) (cl : List (Str × Addr)) (fp : List Addr), PTs (X.blk s H scope (compEnvC scope cl C X.env) fp) ifs (tB_ X W0 t))
    (he : ∀ (s : Shared) (H : Hp) (C : Addr) (cl : List (Str × Addr)) (fp : List Addr), PE (X.blk s H scope (compEnvC scope cl C X.env) fp) elt (tE (ctOf X) W0 el)) (hs : ∀ x, foldedSetIterable iter X.env x = pure x := by intro _; rfl) (ho : ow.map (·.2) = own := by rfl) :
    PS X (.Assign [.Name y py] (.ListComp elt [⟨tg, iter, ifs, 0⟩] scope pos) spos) (tS_ X W (sSet i (sLc f g t el own))) := by
  subst ho
  refine ps_of (ps_setLc hc hN hy hyl hsw hi ok hp ht he hs) fun D σ H h => ?_
  refine tLc_of hg σ H _ ?_
  exact tSt_bnS h fun ρ H1 e h1 x v hs hr rv p => p ρ H1 _ .refl hr (hs.set i rv)
end
end Fw

set_option Elab.async false
set_option linter.all false
set_option maxRecDepth 100000
set_option maxHeartbeats 2000000
set_option autoImplicit false
namespace Fw
open PySem PySem.Spec L2
open PyProof.Rows hiding St

/-! ### defs -/
/-- a call's run by plain data: the bound arguments, the heap -/
abbrev Fn := List Va → Hs → Rs Va
def SpF (C : Ct) (F : Fn) (n : Nat) : Sp := fun vs H Q E => vs.length = n ∧ ∃ ρ h xs, RpL C ρ H xs vs ∧ HR C ρ h H ∧ Po C (Rp C) E Q ρ H (F xs h)
structure DefOk (P : Program) (w : World) (C : Ct) (base : Heap) (k : Nat) (f : Addr) (fd : FuncData) (ps : List Str) (F : Fn) : Prop where
  run : ∀ (A : Around) (outer : List Env) (s : Shared) (H : Hp) (args : Args) (us : List Value) (vs : List V) (Q : VK) (E : XK), Room k A → A.guards = some [] → Env0 P w C.K C.mg base A outer s H → BindsTo s fd args (ps.zip us) → Vals vs us → SpF C F ps.length vs H Q E →
    codeAny (model P w) A (.call (.ref f) args) (CR (L2.CX P w) outer P w H s Q E) s
theorem DefOk.mono {P : Program} {w : World} {C : Ct} {base : Heap} {j k : Nat} {f : Addr} {fd : FuncData} {ps : List Str} {F : Fn} (d : DefOk P w C base j f fd ps F) (h : j ≤ k) : DefOk P w C base k f fd ps F :=
  ⟨fun A outer s H args us vs Q E hr hg e0 hb r q => d.run A outer s H args us vs Q E (hr.mono h) hg e0 hb r q⟩
/-- a body run from its arguments; n: how many names -/
def runB (n : Nat) (b : Ss) : Fn := fun xs h => match b (xs.map some ++ List.replicate (n - xs.length) none) h with
  | .nx _ h' => .ok .non h'
  | .rt v h' => .ok v h'
  | .ex x _ h' => .ex x h'
  | _ => .bad
theorem sr_start {C : Ct} {ρ : List Addr} {H : Hp} {xs : List Va} {vs : List V} {N : List Str} (r : RpL C ρ H xs vs) : SR C ρ H (xs.map some ++ List.replicate (N.length - xs.length) none) (L2.start N vs) := by
  unfold L2.start
  refine ⟨by simp [r.length], fun i x q => ?_⟩
  by_cases hl : i < xs.length
  · rw [List.getElem?_append_left (by simpa using hl), List.getElem?_map] at q
    cases e : xs[i]? with
    | none => rw [e] at q; cases q
    | some y =>
      rw [e] at q
      cases q
      obtain ⟨v, h1, h2⟩ := r.get e
      refine ⟨v, ?_, h2⟩
      rw [List.getElem?_append_left (by rw [List.length_map, ← r.length]; exact hl), List.getElem?_map, h1]
      rfl
  · rw [List.getElem?_append_right (by simpa using hl), List.getElem?_replicate] at q
    split at q <;> cases q
section
variable {P : Program} {w : World} {K : PySem.W.Frag} {mg : Str → Option Value} {base : Heap}
/-- the context of a body -/
abbrev bodyX (P : Program) (w : World) (K : PySem.W.Frag) (mg : Str → Option Value) (base : Heap) (N : List Str) (qual : Str) (sc : Scope) (f : Addr) (cd : Value) (A : Around) (outer : List Env) (s : Shared) (H : Hp) (E : XK) : Cx := cxOf (L2.CX P w) P w K mg base N qual sc f cd A outer s H E
abbrev WB (E : XK) : WX := fun c d _ H => E c d H
theorem read_body {N : List Str} {X : Cx} {B : Ss} {body : List Stmt} {E : XK} {xs : List Va} {vs : List V} {Q : VK} {H : Hp} {ρ : List Addr} {h : Hs} {C : Ct} (r : RpL C ρ H xs vs) (hr : HR C ρ h H) (p : Po C (Rp C) E Q ρ H (runB N.length B xs h)) : tSt C (WB E) B { nx := fun _ H' => Q .non H', rt := Q } (L2.start N vs) H := by
  refine ⟨ρ, _, h, sr_start r, hr, ?_⟩
  unfold runB at p
  cases q : B (xs.map some ++ List.replicate (N.length - xs.length) none) h with
  | nx e h' => rw [q] at p; exact fun ρ' H' σ' ex hr' hs' => p ρ' H' .non ex hr' .non
  | rt v h' => rw [q] at p; exact p
  | bk e h' => rw [q] at p; exact p.elim
  | ct e h' => rw [q] at p; exact p.elim
  | ex x e h' => rw [q] at p; exact fun ρ' H' σ' c d ex hr' _ xr => p ρ' H' c d ex hr' xr
  | bad => rw [q] at p; exact p
theorem defOk_of {k : Nat} {f : Addr} {name qual : Str} {params : Arguments} {body : List Stmt} {sc : Scope} {dV kV doc pm cdv ct oc : Value} {an od : Option Addr} {osl : Array (Option Value)} {N ps : List Str} {B : Ss}
    (lk : K.lookup f = some ⟨oc, od, .func (PySem.W.fnOf name qual params body sc dV kV doc pm an cdv ct), osl⟩) (hcd : PySem.W.codeIn K cdv qual = true) (S : FnScope N ps sc)
    (hbody : ∀ (A : Around) (outer : List Env) (s : Shared) (H : Hp) (E : XK), Room k (A.deeper (envOfC qual sc s.heap.objs.size f cdv)) → A.guards = some [] → PSs (bodyX P w K mg base N qual sc f cdv A outer s H E) body (tSt ⟨K, mg⟩ (WB E) B)) :
    DefOk P w ⟨K, mg⟩ base (k + 1) f (PySem.W.fnOf name qual params body sc dV kV doc pm an cdv ct) ps (runB N.length B) := by
  constructor
  intro A outer s H args us vs Q E hr hg e0 hb r ⟨hl, ρ, h, xs, rx, hh, hp⟩
  have inK : K.In s.heap := e0.mod.kin.keeps fun b o e => (e0.bs b o e).1
  have nl : s.heap.NoLimit := e0.mod.nolimit.keeps fun b o e => (e0.bs b o e).1
  have kinds : ∀ y ∈ ps.zip us, sc.names.lookup y.1 = some .local ∨ (sc.names.lookup y.1 = some .cell ∧ ((cellsFrom (s.heap.objs.size + 1) sc.names []).lookup y.1).isSome = true) := by
    rintro ⟨n, v⟩ hy
    cases S.par n (List.of_mem_zip hy).1 with
    | inl q => exact Or.inl q
    | inr q => exact Or.inr ⟨q, PySem.W.cellsFrom_some _ _ _ (Or.inl q)⟩
  apply codeAny_call_function hr.depth (inK _ _ lk) rfl S.co S.gen rfl (PySem.W.codeRec_of inK hcd)
  apply hb
  apply wpAny_newFunctionEnv_cells S.kind kinds
  intro env he s1 x
  subst he
  refine ⟨nl.keeps x.toInCall.keep, codeAny_func ?_⟩
  have ht := hbody A outer s H E (hr.deeper _) hg
  have I : Inv (bodyX P w K mg base N qual sc f cdv A outer s H E) [] (L2.start N vs) H s1 := inv_start S hr.hd e0 hl r x
  have hq : tSt ⟨K, mg⟩ (WB E) B { nx := fun _ H' => Q .non H', rt := Q } (L2.start N vs) H := read_body (X := bodyX P w K mg base N qual sc f cdv A outer s H E) (body := body) rx hh hp
  have fin : ∀ {s' : Shared} {σ' : L2.St} {H' : Hp} {v : V} {u : Value}, Inv (bodyX P w K mg base N qual sc f cdv A outer s H E) [] σ' H' s' → RelV v u → Q v H' → CE outer P w H s Q u s' := by
    intro s' σ' H' v u J rv q
    exact ⟨v, H', J.os, J.bare, J.base, J.hok, rv, q⟩
  apply wpAny_mono (ht.run [] s1 (L2.start N vs) H _ I hq)
  · intro fl s' hs
    cases fl with
    | next =>
      obtain ⟨σ', H', J, q⟩ := hs
      exact fin (v := V.non) (u := Value.none) J rfl q
    | ret u =>
      obtain ⟨v, σ', H', J, rv, q⟩ := hs
      exact fin J rv q
    | brk => exact hs.elim fun _ z => z.elim fun _ y => False.elim y.2
    | cont => exact hs.elim fun _ z => z.elim fun _ y => False.elim y.2
  · intro e s' hs
    exact hs
end

/-! ### calls -/
/-- a def that stands under a name -/
structure Gfn (P : Program) (w : World) (C : Ct) (base : Heap) (k : Nat) (x : Str) (st : Stmt) (ps : List Str) (F : Fn) : Prop where
  ex : ∃ (f : Addr) (fd : FuncData), C.mg x = some (.ref f) ∧ PySem.W.keepIn C.K (.ref f) = true ∧ DefOk P w C base k f fd ps F ∧
    ∀ (us : List Value) (kw : List (Str × Value)) (r : List Value), (∀ (kV doc pm : Value) (an : Option Addr) (cdv ct : Value), bindArgs (PySem.W.fnOf x x (defArgs st) (defBody st) (defScope st) .none kV doc pm an cdv ct) ⟨us, kw⟩ = pure (ps.zip r)) → ∀ s, BindsTo s fd ⟨us, kw⟩ (ps.zip r)
theorem Gfn.mono {P : Program} {w : World} {C : Ct} {base : Heap} {j k : Nat} {x : Str} {st : Stmt} {ps : List Str} {F : Fn} (g : Gfn P w C base j x st ps F) (h : j ≤ k) : Gfn P w C base k x st ps F := by
  obtain ⟨f, fd, h1, h2, h3, h4⟩ := g.ex
  exact ⟨f, fd, h1, h2, h3.mono h, h4⟩
/-- how a call's values come to the parameters: n by place, m by name -/
def KwB (x : Str) (st : Stmt) (ps ks : List Str) (n m : Nat) (π : List Nat) : Prop := π.length = ps.length ∧ (∀ j ∈ π, j < n + m) ∧ ∀ (us ws : List Value), us.length = n → ws.length = m → ∀ (kV doc pm : Value) (an : Option Addr) (cdv ct : Value),
  bindArgs (PySem.W.fnOf x x (defArgs st) (defBody st) (defScope st) .none kV doc pm an cdv ct) ⟨us, ks.zip ws⟩ = pure (ps.zip (π.filterMap fun j => (us ++ ws)[j]?))
def sCall (F : Fn) (n : Nat) (π : List Nat) (f : Sm (List Va)) : Sx := bnd f fun xs => if xs.length = n then vl (F (π.filterMap fun j => xs[j]?)) else fun _ _ => .bad
def sCallK (F : Fn) (n m : Nat) (π : List Nat) (f g : Sm (List Va)) : Sx := bnd f fun xs => bnd g fun zs => if xs.length = n ∧ zs.length = m then vl (F (π.filterMap fun j => (xs ++ zs)[j]?)) else fun _ _ => .bad
theorem vals_pick {vs : List V} {us : List Value} (r : Vals vs us) : ∀ π : List Nat, Vals (π.filterMap fun j => vs[j]?) (π.filterMap fun j => us[j]?)
  | [] => .nil
  | j :: π => by
    have ih := vals_pick r π
    cases e : vs[j]? with
    | none => simp only [List.filterMap_cons, e, r.none_of e]; exact ih
    | some v =>
      obtain ⟨u, h1, h2⟩ := r.get e
      simp only [List.filterMap_cons, e, h1]
      exact .cons h2 ih
theorem rp_pick {C : Ct} {ρ : List Addr} {H : Hp} {vs : List Va} {us : List V} (r : RpL C ρ H vs us) : ∀ π : List Nat, RpL C ρ H (π.filterMap fun j => vs[j]?) (π.filterMap fun j => us[j]?)
  | [] => .nil
  | j :: π => by
    have ih := rp_pick r π
    cases e : vs[j]? with
    | none =>
      have e2 : us[j]? = none := by
        have := List.getElem?_eq_none_iff.mp e
        exact List.getElem?_eq_none_iff.mpr (by rw [← r.length]; exact this)
      simp only [List.filterMap_cons, e, e2]; exact ih
    | some v =>
      obtain ⟨u, h1, h2⟩ := r.get e
      simp only [List.filterMap_cons, e, h1]
      exact .cons h2 ih
theorem pick_len {α : Type} {xs : List α} {n : Nat} (hx : xs.length = n) : ∀ {π : List Nat}, (∀ j ∈ π, j < n) → (π.filterMap fun j => xs[j]?).length = π.length
  | [], _ => rfl
  | j :: π, h => by
    have hj : j < xs.length := by rw [hx]; exact h j List.mem_cons_self
    simp only [List.filterMap_cons, List.getElem?_eq_getElem hj, List.length_cons]
    rw [pick_len hx fun i hi => h i (List.mem_cons_of_mem _ hi)]
section
variable {X : Cx} {W : WX} {k j : Nat} {x : Str} {st : Stmt} {ps ks : List Str} {F : Fn} {π : List Nat} {fa : Sm (List Va)} {p pos : Pos} {e : Expr} {es : List Expr} {kws : List Keyword}
/-- the callee runs -/
theorem run_def {f : Addr} {fd : FuncData} (D : DefOk X.prog X.w (ctOf X) X.base j f fd ps F) (hr : Room k X.A) (hj : j ≤ k) (hg : X.A.guards = some []) (tk : Takes X W) {pins : List (Addr × Obj)} {s : Shared} {σ : L2.St} {H : Hp} {Q : VK} {us : List Value} {kw : List (Str × Value)} {r : List Value} {vs : List V}
    (I : Inv X pins σ H s) (hb : BindsTo s fd ⟨us, kw⟩ (ps.zip r)) (rv : Vals vs r) (h : SpF (ctOf X) F ps.length vs H Q (WE W σ)) : wpAny (model X.prog X.w) X.A (call (.ref f) us kw) (EP X pins σ Q) X.xe s := by
  refine wpAny_call (codeAny_mono (D.run X.A X.stack s H ⟨us, kw⟩ r vs Q (WE W σ) (hr.mono hj) hg I.env0 hb rv h) fun res s' hq => ?_)
  cases res with
  | error e => exact passAt tk σ pins H s e s' I hq
  | ok fl => cases fl with
    | ret u => exact I.after hq
    | _ => exact False.elim hq
/-- f(a, b, .., x = c, ..): every value first, then the callee -/
theorem po_call {σ : L2.St} {Q : VK} {ρ : List Addr} {H : Hp} {h : Hs} {xs : List Va} {vs : List V} {n : Nat} (hr : HR (ctOf X) ρ h H) (r : RpL (ctOf X) ρ H xs vs) (hn : vs.length = n) (hπ : π.length = ps.length) (hj : ∀ j ∈ π, j < n) (p : Po (ctOf X) (Rp (ctOf X)) (fun c d H' => W c d σ H') Q ρ H (F (π.filterMap fun j => xs[j]?) h)) :
    SpF (ctOf X) F ps.length (π.filterMap fun j => vs[j]?) H Q (WE W σ) := ⟨by rw [pick_len hn hj, hπ], ρ, h, _, rp_pick r π, hr, p⟩
theorem se_call (n : Nat) (G : Gfn X.prog X.w (ctOf X) X.base j x st ps F) (hr : Room k X.A) (hj : j ≤ k) (hg : X.A.guards = some []) (tk : Takes X W) (hx : Gl X x) (B : KwB x st ps [] n 0 π) (ha : PA X (e :: es) (tAr (ctOf X) W fa))
    (hdb : (x == ("__debug__" : Str)) = false := by decide) (he : starEach (e :: es) X.env = (false, eval e X.env) :: starEach es X.env := by rfl) (hpl : (backTo pos (starEach es X.env)).any (·.1) = false := by rfl) :
    PE X (.Call (.Name x p) (e :: es) [] pos) (tE (ctOf X) W (sCall F n π fa)) := by
  obtain ⟨f, fd, hm, hk, D, hb⟩ := G.ex
  refine ⟨fun pins s σ H Q I h => wpAny_Call_Name_kw (ld_glob I hx hm ?_ hdb)⟩
  have h2 : tAr (ctOf X) W fa σ H fun vs H1 => vs.length = n ∧ SpF (ctOf X) F ps.length (π.filterMap fun j => vs[j]?) H1 Q (WE W σ) := tX_bnd h fun ρ H1 e1 h1 xs vs hs hh rv pp => by
    split at pp
    · rename_i hl
      have hl2 : vs.length = n + 0 := by rw [← rv.length]; exact hl
      exact ⟨hl2, po_call hh rv hl2 B.1 B.2.1 pp⟩
    · exact pp.elim
  refine PySem.W.callWith_K (h₀ := X.base) I.ok.mod.kin hk (thn (ha.run pos pins s σ H _ I h2) fun us s1 ⟨vs, H1, I1, r, hl, q⟩ => ⟨I1.kIn, ?_⟩) he hpl
  have hlu : us.length = n := by rw [← r.length]; exact hl
  have q2 := hb us [] _ (fun a b c d e f => by have := B.2.2 us [] hlu rfl a b c d e f; simpa using this) s1
  exact run_def D hr hj hg tk I1 q2 (vals_pick r π) q
theorem sk_nil : PK X [] (tAr (ctOf X) W sNil) := pk_of pk_nil tNil_of
theorem sk_cons {nm : Option Str} {a : Expr} {fa : Sx} {fr : Sm (List Va)} {kpos : Pos} (ha : PE X a (tE (ctOf X) W fa)) (hr : PK X kws (tAr (ctOf X) W fr)) : PK X (⟨nm, a, kpos⟩ :: kws) (tAr (ctOf X) W (sCons fa fr)) := pk_of (pk_cons ha hr) tCons_of
theorem two_reads {n m : Nat} {fk : Sm (List Va)} {σ : L2.St} {H : Hp} {Q : VK} (B : KwB x st ps ks n m π) (h : tE (ctOf X) W (sCallK F n m π fa fk) σ H Q) :
    tAr (ctOf X) W fa σ H fun vs H1 => tAr (ctOf X) W fk σ H1 fun zs H2 => (vs.length = n ∧ zs.length = m) ∧ SpF (ctOf X) F ps.length (π.filterMap fun j => (vs ++ zs)[j]?) H2 Q (WE W σ) :=
  tX_bnd h fun ρ H1 e1 h1 xs vs hs hh rv pp => Po_bnd hs hh pp fun ρ2 H2 h2 zs us e2 hs2 hh2 ru p2 => by
    split at p2
    · rename_i hl
      have r := (rv.mono e2).append ru
      have l1 := rv.length
      have l2 := ru.length
      exact ⟨⟨by omega, by omega⟩, po_call hh2 r (by rw [List.length_append]; omega) B.1 B.2.1 p2⟩
    · exact p2.elim
/-- f(x = c, ..) -/
theorem se_callK0 (m : Nat) {fk : Sm (List Va)} (G : Gfn X.prog X.w (ctOf X) X.base j x st ps F) (hr : Room k X.A) (hj : j ≤ k) (hg : X.A.guards = some []) (tk : Takes X W) (hx : Gl X x) (B : KwB x st ps ks 0 m π) (hkw : PK X kws (tAr (ctOf X) W fk))
    (hal : (backToKw pos (keywordEach kws X.env)).all (·.1.isSome) = true := by rfl) (hks : (backToKw pos (keywordEach kws X.env)).filterMap (·.1) = ks := by rfl)
    (hdb : (x == ("__debug__" : Str)) = false := by decide) (hpl : ((backTo pos (starEach [] X.env)).any (·.1) || (backToKw pos (keywordEach kws X.env)).any (·.1.isNone)) = false := by rfl) :
    PE X (.Call (.Name x p) [] kws pos) (tE (ctOf X) W (sCallK F 0 m π sNil fk)) := by
  obtain ⟨f, fd, hm, hk, D, hb⟩ := G.ex
  refine ⟨fun pins s σ H Q I h => wpAny_Call_Name_kw (ld_glob I hx hm ?_ hdb)⟩
  have h2 := two_reads B h
  obtain ⟨ρ, e, hh, hs, hr', pp⟩ := h2
  have q := pp ρ H [] .refl hr' .nil
  refine PySem.W.callWith_KW0 (h₀ := X.base) I.ok.mod.kin hk hal (thn (hkw.run pos pins s σ H _ I q) fun ws s2 ⟨zs, H2, I2, rz, ⟨hl1, hl2⟩, q2⟩ => ⟨I2.kIn, ?_⟩) hpl
  rw [hks]
  have q3 := hb [] (ks.zip ws) _ (B.2.2 [] ws rfl (by rw [← rz.length]; exact hl2)) s2
  exact run_def D hr hj hg tk I2 q3 (vals_pick (Vals.append .nil rz) π) q2
end
end Fw

set_option Elab.async false
set_option linter.all false
set_option maxRecDepth 100000
set_option maxHeartbeats 2000000
set_option autoImplicit false
namespace Fw
open PySem PySem.Spec L2
open PyProof.Rows hiding St

/-! ### values without places; a callee in a heap of its own -/
mutual
def lf : Va → Bool
  | .tup xs => lfL xs
  | .ros xs => lfL xs
  | .loc _ => false
  | .non => true
  | .bl _ => true
  | .int _ => true
  | .str _ => true
  | .fn _ => true
  | .ty _ => true
  | .rg _ _ _ => true
  | .tpw xs => lfL xs
def lfL : List Va → Bool
  | [] => true
  | x :: xs => lf x && lfL xs
end
mutual
def shf (k : Nat) : Va → Va
  | .tup xs => .tup (shfL k xs)
  | .ros xs => .ros (shfL k xs)
  | .loc n => .loc (k + n)
  | .non => .non
  | .bl b => .bl b
  | .int i => .int i
  | .str s => .str s
  | .fn x => .fn x
  | .ty x => .ty x
  | .rg i j c => .rg i j c
  | .tpw xs => .tpw (shfL k xs)
def shfL (k : Nat) : List Va → List Va
  | [] => []
  | x :: xs => shf k x :: shfL k xs
end
def shfK (k : Nat) : List (Va × Va) → List (Va × Va)
  | [] => []
  | (a, x) :: r => (a, shf k x) :: shfK k r
def shfO (k : Nat) : Ob → Ob
  | .lst xs => .lst (shfL k xs)
  | .dct kvs => .dct (shfK k kvs)
section
variable {C : Ct} {ρ ρ' : List Addr} {H : Hp}
mutual
theorem Rp.lf_ : ∀ {x : Va} {v : V}, Rp C ρ H x v → lf x = true → Rp C ρ' H x v
  | _, _, .non, _ => .non
  | _, _, .bl b, _ => .bl b
  | _, _, .int i, _ => .int i
  | _, _, .str s, _ => .str s
  | _, _, .tup h r, e => .tup h (RpL.lf_ r (by simpa [lf] using e))
  | _, _, .ros h r, e => .ros h (RpL.lf_ r (by simpa [lf] using e))
  | _, _, .loc _, e => by simp [lf] at e
  | _, _, .fn h, _ => .fn h
  | _, _, .ty n, _ => .ty n
  | _, _, .rg h, _ => .rg h
  | _, _, .tpw h r, e => .tpw h (RpL.lf_ r (by simpa [lf] using e))
theorem RpL.lf_ : ∀ {x : List Va} {v : List V}, RpL C ρ H x v → lfL x = true → RpL C ρ' H x v
  | _, _, .nil, _ => .nil
  | _, _, .cons h r, e => .cons (Rp.lf_ h (by simp only [lfL, Bool.and_eq_true] at e; exact e.1)) (RpL.lf_ r (by simp only [lfL, Bool.and_eq_true] at e; exact e.2))
end
mutual
theorem Rp.shf_ : ∀ {x : Va} {v : V}, Rp C ρ' H x v → Rp C (ρ ++ ρ') H (shf ρ.length x) v
  | _, _, .non => by simp only [shf]; exact .non
  | _, _, .bl b => by simp only [shf]; exact .bl b
  | _, _, .int i => by simp only [shf]; exact .int i
  | _, _, .str s => by simp only [shf]; exact .str s
  | _, _, .tup h r => by simp only [shf]; exact .tup h (RpL.shf_ r)
  | _, _, .ros h r => by simp only [shf]; exact .ros h (RpL.shf_ r)
  | _, _, .loc h => by simp only [shf]; exact .loc (by rw [List.getElem?_append_right (Nat.le_add_right _ _), Nat.add_sub_cancel_left]; exact h)
  | _, _, .fn h => by simp only [shf]; exact .fn h
  | _, _, .ty n => by simp only [shf]; exact .ty n
  | _, _, .rg h => by simp only [shf]; exact .rg h
  | _, _, .tpw h r => by simp only [shf]; exact .tpw h (RpL.shf_ r)
theorem RpL.shf_ : ∀ {x : List Va} {v : List V}, RpL C ρ' H x v → RpL C (ρ ++ ρ') H (shfL ρ.length x) v
  | _, _, .nil => by simp only [shfL]; exact .nil
  | _, _, .cons h r => by simp only [shfL]; exact .cons (Rp.shf_ h) (RpL.shf_ r)
end
end
section
variable {C : Ct} {ρ ρ' : List Addr} {H : Hp}
theorem RpK.shf_ : ∀ {xs : List (Va × Va)} {vs : List (Key × V)}, RpK C ρ' H xs vs → RpK C (ρ ++ ρ') H (shfK ρ.length xs) vs
  | _, _, .nil => by simp only [shfK]; exact .nil
  | _, _, .cons e r rs => by simp only [shfK]; exact .cons e (Rp.shf_ r) (RpK.shf_ rs)
end
/-- the answer of a callee that ran by itself, over the heap h -/
def graft (h : Hs) : Rs Va → Rs Va
  | .ok x h' => if lf x = true then .ok x h else match x with
    | .loc m => match h'[m]? with
      | some (.lst ys) => if lfL ys = true then .ok (.loc h.length) (h ++ [.lst ys]) else .ok (.loc (h.length + m)) (h ++ h'.map (shfO h.length))
      | some (.dct _) => .ok (.loc (h.length + m)) (h ++ h'.map (shfO h.length))
      | none => .bad
    | x => .ok (shf h.length x) (h ++ h'.map (shfO h.length))
  | .ex x h' => if lfL (x.fs.map (·.2)) = true then .ex x h else .bad
  | .bad => .bad
def pureF (F : Fn) : Fn := fun xs h => if lfL xs = true then graft h (F xs []) else .bad
section
variable {C : Ct} {ρ ρ' : List Addr} {H H' : Hp} {h h' : Hs}
theorem Ext.weak (e : Ext C [] H ρ' H') : Ext C ρ H ρ H' := ⟨fun _ _ q => q, e.tup, e.frz, fun _ _ q => .inl q, fun a o q _ => e.frm a o q (fun n z => by simp at z), e.liv⟩
theorem HR.stay_ (hr : HR C ρ h H) (e : Ext C [] H ρ' H') : HR C ρ h H' := by
  refine ⟨hr.len, hr.nd, fun n o a hn ha => ?_⟩
  have q := hr.ob n o a hn ha
  revert q
  cases o with
  | lst xs => rintro ⟨vs, e1, e2⟩; exact ⟨vs, e.frm a _ e1 (fun n z => by simp at z), e2.mono (e.weak)⟩
  | dct k => rintro ⟨vs, e1, e2⟩; exact ⟨vs, e.frm a _ e1 (fun n z => by simp at z), e2.mono (e.weak)⟩
theorem HR.join (hr : HR C ρ h H) (e : Ext C [] H ρ' H') (hr' : HR C ρ' h' H') : Ext C ρ H (ρ ++ ρ') H' ∧ HR C (ρ ++ ρ') (h ++ h'.map (shfO h.length)) H' := by
  have hs := hr.stay_ e
  have x0 : Ex0 C ρ H' (ρ ++ ρ') H' := ⟨fun n a q => by rw [List.getElem?_append_left (List.getElem?_eq_some_iff.mp q).1]; exact q, fun _ _ q => q, fun _ _ _ q => q⟩
  have fresh : ∀ (n : Nat) (a : Addr), ρ'[n]? = some a → H a = none := fun n a q => by
    rcases e.new n a q with z | z
    · simp at z
    · exact z
  have cs : ∀ (n : Nat) (a : Addr), (ρ ++ ρ')[n]? = some a → (n < ρ.length ∧ ρ[n]? = some a) ∨ (ρ.length ≤ n ∧ ρ'[n - ρ.length]? = some a) := fun n a q => by
    by_cases hl : n < ρ.length
    · rw [List.getElem?_append_left hl] at q; exact .inl ⟨hl, q⟩
    · rw [List.getElem?_append_right (by omega)] at q; exact .inr ⟨by omega, q⟩
  refine ⟨⟨fun n a q => x0.pre n a q, e.tup, e.frz, fun n a q => ?_, fun a o q _ => e.frm a o q (fun n z => by simp at z), e.liv⟩, ⟨by simp [hr.len, hr'.len], fun i j a hi hj => ?_, fun n o a ho ha => ?_⟩⟩
  · rcases cs n a q with ⟨_, q⟩ | ⟨_, q⟩
    · exact .inl q
    · exact .inr (fresh _ a q)
  · rcases cs i a hi with ⟨l1, q1⟩ | ⟨l1, q1⟩ <;> rcases cs j a hj with ⟨l2, q2⟩ | ⟨l2, q2⟩
    · exact hr.nd i j a q1 q2
    · obtain ⟨o, ho⟩ := hr.sm_ q1
      rw [fresh _ a q2] at ho; cases ho
    · obtain ⟨o, ho⟩ := hr.sm_ q2
      rw [fresh _ a q1] at ho; cases ho
    · have := hr'.nd _ _ a q1 q2
      omega
  · rcases cs n a ha with ⟨l, q⟩ | ⟨l, q⟩
    · rw [List.getElem?_append_left (by rw [← hr.len]; exact l)] at ho
      have z := hs.ob n o a ho q
      revert z
      cases o with
      | lst ys => rintro ⟨vs, e1, e2⟩; exact ⟨vs, e1, e2.keep x0⟩
      | dct k => rintro ⟨vs, e1, e2⟩; exact ⟨vs, e1, e2.keep x0⟩
    · rw [List.getElem?_append_right (by rw [← hr.len]; exact l), List.getElem?_map, ← hr.len] at ho
      cases z : h'[n - ρ.length]? with
      | none => rw [z] at ho; cases ho
      | some o' =>
        rw [z] at ho
        cases ho
        have w := hr'.ob _ o' a z q
        revert w
        cases o' with
        | lst ys => rintro ⟨vs, e1, e2⟩; exact ⟨vs, e1, by exact e2.shf_⟩
        | dct k => rintro ⟨vs, e1, e2⟩; exact ⟨vs, e1, by exact e2.shf_⟩
theorem graft_of {F : Fn} {xs : List Va} {W : XK} {Q : VK} (hr : HR C ρ h H) (p : Po C (Rp C) W Q ρ H (graft h (F xs []))) : Po C (Rp C) W Q [] H (F xs []) := by
  cases q : F xs [] with
  | ok x h' =>
    rw [q] at p
    intro ρ' H' v e hr' rv
    have p : Po C (Rp C) W Q ρ H (if lf x = true then .ok x h else _) := p
    split at p
    · rename_i hl
      exact p ρ H' v e.weak (hr.stay_ e) (rv.lf_ hl)
    · cases x with
      | loc m =>
        have p : Po C (Rp C) W Q ρ H (match h'[m]? with | some (.lst ys) => if lfL ys = true then .ok (.loc h.length) (h ++ [.lst ys]) else .ok (.loc (h.length + m)) (h ++ h'.map (shfO h.length)) | some (.dct _) => .ok (.loc (h.length + m)) (h ++ h'.map (shfO h.length)) | none => .bad) := p
        split at p
        · rename_i ys hm
          split at p
          · rename_i hl
            obtain ⟨a, vs, rfl, ha, hv, rl⟩ := hr'.ls_ hm rv
            have h0 : H a = none := by
              rcases e.new m a ha with z | z
              · simp at z
              · exact z
            have nn : ∀ n : Nat, ρ[n]? ≠ some a := fun n z => by
              obtain ⟨o, ho⟩ := hr.sm_ z
              rw [h0] at ho; cases ho
            obtain ⟨a1, a2, a3⟩ := (hr.stay_ e).adopt (e.weak (ρ := ρ)) h0 hv nn (rl.lf_ hl)
            exact p _ _ _ a1 a2 a3
          · obtain ⟨j1, j2⟩ := hr.join e hr'
            have := rv.shf_ (ρ := ρ)
            simp only [shf] at this
            rw [hr.len] at this
            exact p _ _ _ j1 j2 this
        · obtain ⟨j1, j2⟩ := hr.join e hr'
          have := rv.shf_ (ρ := ρ)
          simp only [shf] at this
          rw [hr.len] at this
          exact p _ _ _ j1 j2 this
        · exact p.elim
      | tup ys =>
        obtain ⟨j1, j2⟩ := hr.join e hr'
        have := rv.shf_ (ρ := ρ)
        rw [hr.len] at this
        exact p _ _ _ j1 j2 this
      | ros ys =>
        obtain ⟨j1, j2⟩ := hr.join e hr'
        have := rv.shf_ (ρ := ρ)
        rw [hr.len] at this
        exact p _ _ _ j1 j2 this
      | tpw ys =>
        obtain ⟨j1, j2⟩ := hr.join e hr'
        have := rv.shf_ (ρ := ρ)
        rw [hr.len] at this
        exact p _ _ _ j1 j2 this
      | _ => rename_i hl; exact absurd (by simp [lf]) hl
  | ex x h' =>
    rw [q] at p
    intro ρ' H' cls d e hr' xr
    have p : Po C (Rp C) W Q ρ H (if lfL (x.fs.map (·.2)) = true then .ex x h else .bad) := p
    split at p
    · rename_i hl
      refine p ρ H' cls d e.weak (hr.stay_ e) ?_
      obtain ⟨Cl, m1, m2, dd, vs, m3, m4, m5, m6⟩ := xr
      exact ⟨Cl, m1, m2, dd, vs, m3, m4, m5, m6.lf_ hl⟩
    · exact p.elim
  | bad => rw [q] at p; exact p
end
theorem DefOk.pure {P : Program} {w : World} {C : Ct} {base : Heap} {k : Nat} {f : Addr} {fd : FuncData} {ps : List Str} {F : Fn} (d : DefOk P w C base k f fd ps F) : DefOk P w C base k f fd ps (pureF F) := ⟨fun A outer s H args us vs Q E hr hg e0 hb r ⟨hl, ρ, h, xs, rx, hh, p⟩ => by
  unfold pureF at p
  split at p
  · rename_i hx
    exact d.run A outer s H args us vs Q E hr hg e0 hb r ⟨hl, [], [], xs, rx.lf_ hx, ⟨rfl, fun i j a h1 => by simp at h1, fun n o a h1 => by simp at h1⟩, graft_of hh p⟩
  · exact p.elim⟩
/-- another run with the same answers -/
theorem DefOk.to {P : Program} {w : World} {C : Ct} {base : Heap} {k : Nat} {f : Addr} {fd : FuncData} {ps : List Str} {F G : Fn} (d : DefOk P w C base k f fd ps F) (e : ∀ xs h, xs.length = ps.length → G xs h ≠ .bad → F xs h = G xs h) : DefOk P w C base k f fd ps G := ⟨fun A outer s H args us vs Q E hr hg e0 hb r ⟨hl, ρ, h, xs, rx, hh, p⟩ => by
  refine d.run A outer s H args us vs Q E hr hg e0 hb r ⟨hl, ρ, h, xs, rx, hh, ?_⟩
  by_cases hG : G xs h = .bad
  · rw [hG] at p; exact p.elim
  · rw [e xs h (by rw [rx.length, hl]) hG]; exact p⟩
theorem Gfn.pure {P : Program} {w : World} {C : Ct} {base : Heap} {k : Nat} {x : Str} {st : Stmt} {ps : List Str} {F : Fn} (g : Gfn P w C base k x st ps F) : Gfn P w C base k x st ps (pureF F) := by
  obtain ⟨f, fd, h1, h2, h3, h4⟩ := g.ex
  exact ⟨f, fd, h1, h2, h3.pure, h4⟩
theorem Gfn.to {P : Program} {w : World} {C : Ct} {base : Heap} {k : Nat} {x : Str} {st : Stmt} {ps : List Str} {F G : Fn} (g : Gfn P w C base k x st ps F) (e : ∀ xs h, xs.length = ps.length → G xs h ≠ .bad → F xs h = G xs h) : Gfn P w C base k x st ps G := by
  obtain ⟨f, fd, h1, h2, h3, h4⟩ := g.ex
  exact ⟨f, fd, h1, h2, h3.to e, h4⟩
end Fw

set_option Elab.async false
set_option linter.all false
set_option maxRecDepth 100000
set_option maxHeartbeats 2000000
set_option autoImplicit false
namespace Fw
open PySem PySem.Spec L2
open PyProof.Rows hiding St

/-! ### math.comb -/
namespace Cb
open PySem.Calls PySem.W
end Cb
end Fw

set_option Elab.async false
set_option linter.all false
set_option maxRecDepth 100000
set_option maxHeartbeats 2000000
set_option autoImplicit false
namespace Fw
open PySem PySem.Spec L2
open PyProof.Rows hiding St

def asI : Va → Option Int
  | .int i => some i
  | _ => none
def asS : Va → Option (List Nat)
  | .str x => some x
  | _ => none
section
variable {C : Ct} {ρ : List Addr} {H : Hp} {h : Hs}
theorem ints_of : ∀ {xs : List Va} {vs : List V} {ns : List Int}, RpL C ρ H xs vs → mapO asI xs = some ns → vs = ns.map V.int
  | _, _, _, .nil, e => by cases e; rfl
  | _, _, _, .cons (x := x) (xs := xs) r rs, e => by
    unfold mapO at e
    split at e
    · rename_i y ys h1 h2
      cases e
      cases x <;> first | (cases h1; cases r; rw [ints_of rs h2]; rfl) | cases h1
    · cases e
theorem bools_of : ∀ {xs : List Va} {vs : List V} {ns : List Bool}, RpL C ρ H xs vs → mapO asB xs = some ns → vs = ns.map V.bl
  | _, _, _, .nil, e => by cases e; rfl
  | _, _, _, .cons (x := x) (xs := xs) r rs, e => by
    unfold mapO at e
    split at e
    · rename_i y ys h1 h2
      cases e
      cases x <;> first | (cases h1; cases r; rw [bools_of rs h2]; rfl) | cases h1
    · cases e
theorem strs_of : ∀ {xs : List Va} {vs : List V} {ns : List (List Nat)}, RpL C ρ H xs vs → mapO asS xs = some ns → vs = (ns.map fun x => (⟨x.toArray⟩ : Str)).map V.str
  | _, _, _, .nil, e => by cases e; rfl
  | _, _, _, .cons (x := x) (xs := xs) r rs, e => by
    unfold mapO at e
    split at e
    · rename_i y ys h1 h2
      cases e
      cases x <;> first | (cases h1; cases r; rw [strs_of rs h2]; rfl) | cases h1
    · cases e
/-- a list, however it lies -/
def lsA : Va → Hs → Option (List Va)
  | .loc n, h => match h[n]? with
    | some (.lst xs) => some xs
    | _ => none
  | .ros xs, _ => some xs
  | _, _ => none
theorem lsA_of (hr : HR C ρ h H) {x : Va} {v : V} (r : Rp C ρ H x v) {xs : List Va} (e : lsA x h = some xs) : ∃ a vs, v = .ref a ∧ SqL C.K H a vs ∧ RpL C ρ H xs vs := by
  cases x with
  | loc n =>
    have e : (match h[n]? with | some (.lst xs) => some xs | _ => none) = some xs := e
    split at e
    · rename_i ys hn
      cases e
      obtain ⟨a, vs, rfl, ha, hl, rl⟩ := hr.ls_ hn r
      exact ⟨a, vs, rfl, SqL.of hl, rl⟩
    · cases e
  | ros ys =>
    cases e
    cases r with
    | ros hq rl => exact ⟨_, _, rfl, hq.sq, rl⟩
  | _ => cases e
end
/-! ### built-ins by name -/
@[simp] def kLen : List Va → Hs → Rs Va
  | [.str x] => fun h => if x.length ≤ 16777216 then .ok (.int (x.length : Nat)) h else .bad
  | [.tup xs] => okI (xs.length : Nat)
  | [x] => fun h => match lsA x h with
    | some xs => .ok (.int (xs.length : Nat)) h
    | none => .bad
  | _ => fun _ => .bad
@[simp] def kInt : List Va → Hs → Rs Va
  | [.int i] => okI i
  | [.bl b] => okI (if b then 1 else 0)
  | _ => fun _ => .bad
@[simp] def kAbs : List Va → Hs → Rs Va
  | [.int i] => okI (if i < 0 then -i else i)
  | _ => fun _ => .bad
def kDvm : List Va → Hs → Rs Va
  | [.int i, .int j] => fun h => if 0 < j ∧ j < 1073741824 then .ok (.tup [.int (i / j), .int (i % j)]) h else .bad
  | _ => fun _ => .bad
def kMax : List Va → Hs → Rs Va
  | [.int i, .int j] => okI (if j > i then j else i)
  | _ => fun _ => .bad
def kMin : List Va → Hs → Rs Va
  | [.int i, .int j] => okI (if j < i then j else i)
  | _ => fun _ => .bad
def k1L {α : Type} (f : Va → Option α) (g : List α → Rs Va → Rs Va) : List Va → Hs → Rs Va := fun xs h => match xs with
  | [x] => match (lsA x h).bind (mapO f) with
    | some ns => g ns (.ok .non h)
    | none => .bad
  | _ => .bad
def on1 {α : Type} (f : Va → Option α) (g : List α → Va) : List Va → Hs → Rs Va := fun xs h => match xs with
  | [x] => match (lsA x h).bind (mapO f) with
    | some ns => .ok (g ns) h
    | none => .bad
  | _ => .bad
def kAll : List Va → Hs → Rs Va := on1 asB fun bs => .bl (bs.all id)
def kTpl : List Va → Hs → Rs Va
  | [.tup xs] => fun h => .ok (.tup xs) h
  | [x] => fun h => match lsA x h with
    | some xs => .ok (.tup xs) h
    | none => .bad
  | _ => fun _ => .bad
def kRpr : List Va → Hs → Rs Va
  | [x] => fun h => match rdV h 24 x with
    | some d => if d.depth ≤ 60 ∧ d.hasDict = false ∧ d.showable = true ∧ d.shown.length ≤ 16777216 then .ok (.str d.shown.cps.toList) h else .bad
    | none => .bad
  | _ => fun _ => .bad
@[simp] def kTyp : List Va → Hs → Rs Va
  | [.non] => fun h => .ok (.ty "NoneType") h
  | [.bl _] => fun h => .ok (.ty "bool") h
  | [.int _] => fun h => .ok (.ty "int") h
  | [.str _] => fun h => .ok (.ty "str") h
  | [.tup _] => fun h => .ok (.ty "tuple") h
  | [x] => fun h => match lsA x h with
    | some _ => .ok (.ty "list") h
    | none => .bad
  | _ => fun _ => .bad
def insI (x : Int) : List Int → List Int
  | [] => [x]
  | y :: ys => if x ≤ y then x :: y :: ys else y :: insI x ys
def srtI : List Int → List Int
  | [] => []
  | x :: xs => insI x (srtI xs)
def kSrtI : List Va → Hs → Rs Va := fun xs h => match xs with
  | [x] => match (lsA x h).bind (mapO asI) with
    | some ns => newL ((srtI ns).map Va.int) h
    | none => .bad
  | _ => .bad
section
variable {X : Cx}
theorem rpInts {C : Ct} {ρ : List Addr} {H : Hp} : ∀ ns : List Int, RpL C ρ H (ns.map Va.int) (ns.map V.int)
  | [] => .nil
  | n :: ns => .cons (.int n) (rpInts ns)
theorem one_arg {C : Ct} {ρ : List Addr} {H : Hp} {xs : List Va} {vs : List V} (r : RpL C ρ H xs vs) {x : Va} (e : xs = [x]) : ∃ v, vs = [v] ∧ Rp C ρ H x v := by
  subst e
  cases r with
  | cons r1 r2 => cases r2; exact ⟨_, rfl, r1⟩
theorem on1_of {α : Type} {f : Va → Option α} {g : List α → Va} {xs : List Va} {h : Hs} {W : XK} {Q : VK} {C : Ct} {ρ : List Addr} {H : Hp} {vs : List V} (hr : HR C ρ h H) (r : RpL C ρ H xs vs) (p : Po C (Rp C) W Q ρ H (on1 f g xs h)) : ∃ a ys ns us, vs = [.ref a] ∧ SqL C.K H a us ∧ RpL C ρ H ys us ∧ mapO f ys = some ns ∧ Po C (Rp C) W Q ρ H (.ok (g ns) h) := by
  unfold on1 at p
  split at p
  · rename_i x
    obtain ⟨v, rfl, rv⟩ := one_arg r rfl
    cases e : lsA x h with
    | none => rw [e] at p; exact p.elim
    | some ys =>
      obtain ⟨a, us, rfl, hq, rl⟩ := lsA_of hr rv e
      rw [e] at p
      cases e2 : mapO f ys with
      | none => simp only [Option.bind_some, e2] at p; exact p.elim
      | some ns =>
        simp only [Option.bind_some, e2] at p
        exact ⟨a, ys, ns, us, rfl, hq, rl, e2, p⟩
  · exact p.elim
theorem cs_len : CaK X (.builtin "len") kLen := ⟨_, CallR.or call_len_str call_len_seq, by
  intro ρ H h xs vs W Q hr r p
  unfold kLen at p
  split at p
  · obtain ⟨v, rfl, rv⟩ := one_arg r rfl
    cases rv
    split at p
    · rename_i hl
      exact .inl ⟨_, rfl, by rw [str_len, line_eq]; exact hl, by rw [str_len]; exact Po_ok p hr (.int _)⟩
    · exact p.elim
  · obtain ⟨v, rfl, rv⟩ := one_arg r rfl
    cases rv with
    | tup hq rl => exact .inr ⟨_, _, rfl, .inr hq.sq, by rw [← rl.length]; exact Po_ok p hr (.int _)⟩
  · obtain ⟨v, rfl, rv⟩ := one_arg r rfl
    dsimp only at p
    split at p
    · rename_i ys e
      obtain ⟨a, us, rfl, hq, rl⟩ := lsA_of hr rv e
      exact .inr ⟨_, _, rfl, .inl hq, by rw [← rl.length]; exact Po_ok p hr (.int _)⟩
    · exact p.elim
  · exact p.elim⟩
theorem cs_int : CaK X (.type "int") kInt := ⟨_, call_int1, by
  intro ρ H h xs vs W Q hr r p
  unfold kInt at p
  split at p
  · obtain ⟨v, rfl, rv⟩ := one_arg r rfl
    cases rv
    exact .inl ⟨_, rfl, Po_ok p hr (.int _)⟩
  · obtain ⟨v, rfl, rv⟩ := one_arg r rfl
    cases rv
    exact .inr ⟨_, rfl, Po_ok p hr (.int _)⟩
  · exact p.elim⟩
theorem cs_abs : CaK X (.builtin "abs") kAbs := ⟨_, call_abs, by
  intro ρ H h xs vs W Q hr r p
  unfold kAbs at p
  split at p
  · obtain ⟨v, rfl, rv⟩ := one_arg r rfl
    cases rv
    exact ⟨_, rfl, Po_ok p hr (.int _)⟩
  · exact p.elim⟩
theorem two_args {C : Ct} {ρ : List Addr} {H : Hp} {i j : Int} {vs : List V} (r : RpL C ρ H [.int i, .int j] vs) : vs = [.int i, .int j] := by
  cases r with
  | cons r1 r2 => cases r1; cases r2 with | cons r2 r3 => cases r2; cases r3; rfl
theorem cs_dvm : CaK X (.builtin "divmod") kDvm := ⟨_, call_dvmD, by
  intro ρ H h xs vs W Q hr r p
  unfold kDvm at p
  split at p
  · have e := two_args r
    subst e
    split at p
    · rename_i c
      exact ⟨_, _, rfl, c, Po_tup hr (.cons (.int _) (.cons (.int _) .nil)) p⟩
    · exact p.elim
  · exact p.elim⟩
theorem cs_max (hc : X.calm = true) : CaK X (.builtin "max") kMax := ⟨_, call_max2 hc, by
  intro ρ H h xs vs W Q hr r p
  unfold kMax at p
  split at p
  · have e := two_args r
    subst e
    exact ⟨_, _, rfl, Po_ok p hr (.int _)⟩
  · exact p.elim⟩
theorem cs_min (hc : X.calm = true) : CaK X (.builtin "min") kMin := ⟨_, call_min2 hc, by
  intro ρ H h xs vs W Q hr r p
  unfold kMin at p
  split at p
  · have e := two_args r
    subst e
    exact ⟨_, _, rfl, Po_ok p hr (.int _)⟩
  · exact p.elim⟩
theorem cs_all (hc : X.calm = true) : CaK X (.builtin "all") kAll := ⟨_, cr_all hc, by
  intro ρ H h xs vs W Q hr r p
  obtain ⟨a, ys, ns, us, rfl, hq, rl, e, p⟩ := on1_of hr r p
  have := bools_of rl e
  subst this
  exact ⟨a, ns, rfl, hq, Po_ok p hr (.bl _)⟩⟩
theorem cs_tpl : CaK X (.type "tuple") kTpl := ⟨_, call_tplD, by
  intro ρ H h xs vs W Q hr r p
  unfold kTpl at p
  split at p
  · obtain ⟨v, rfl, rv⟩ := one_arg r rfl
    cases rv with
    | tup hq rl => exact ⟨_, _, rfl, .inr ⟨hq.sq, Po_ok p hr (.tup hq rl)⟩⟩
  · obtain ⟨v, rfl, rv⟩ := one_arg r rfl
    dsimp only at p
    split at p
    · rename_i ys e
      obtain ⟨a, us, rfl, hq, rl⟩ := lsA_of hr rv e
      exact ⟨_, _, rfl, .inl ⟨hq, Po_tup hr rl p⟩⟩
    · exact p.elim
  · exact p.elim⟩
theorem cs_typ : CaK X (.type "type") kTyp := ⟨_, call_type1, by
  intro ρ H h xs vs W Q hr r p
  unfold kTyp at p
  split at p <;> first
    | exact p.elim
    | (obtain ⟨v, rfl, rv⟩ := one_arg r rfl
       cases rv
       first
         | exact ⟨_, _, rfl, .non, Po_ok p hr (.ty _)⟩
         | exact ⟨_, _, rfl, .bl _, Po_ok p hr (.ty _)⟩
         | exact ⟨_, _, rfl, .int _, Po_ok p hr (.ty _)⟩
         | exact ⟨_, _, rfl, .str _, Po_ok p hr (.ty _)⟩
         | exact ⟨_, _, rfl, .tup (SqD.sq (by assumption)), Po_ok p hr (.ty _)⟩)
    | (obtain ⟨v, rfl, rv⟩ := one_arg r rfl
       dsimp only at p
       split at p
       · rename_i ys e
         obtain ⟨a, us, rfl, hq, rl⟩ := lsA_of hr rv e
         exact ⟨_, _, rfl, .lst hq, Po_ok p hr (.ty _)⟩
       · exact p.elim)⟩
end
/-! ### the calls -/
def sBlt (k : List Va → Hs → Rs Va) (f : Sm (List Va)) : Sx := bnd f fun xs => vl (k xs)
section
variable {X : Cx} {W : WX} {x : Str} {id T : String} {k : List Va → Hs → Rs Va} {fa : Sm (List Va)} {p pos : Pos} {e : Expr} {es : List Expr}
theorem se_blt (hk : CaK X (.builtin id) k) (hg : Gl X x) (hm : X.mg x = none) (ha : PA X (e :: es) (tAr (ctOf X) W fa)) (hv : bootBuiltins x = some (.builtin id) := by decide +kernel) (hn : x ≠ "__name__" := by decide) (hdb : (x == ("__debug__" : Str)) = false := by decide)
    (he : starEach (e :: es) X.env = (false, eval e X.env) :: starEach es X.env := by rfl) (hpl : (backTo pos (starEach es X.env)).any (·.1) = false := by rfl) : PE X (.Call (.Name x p) (e :: es) [] pos) (tE (ctOf X) W (sBlt k fa)) := by
  obtain ⟨r, h1, h2⟩ := hk
  exact pe_of (pe_callB h1 hg hm hv ha hn hdb he hpl) (tC_call h2)
theorem se_bty (hk : CaK X (.type T) k) (hg : Gl X x) (hm : X.mg x = none) (ha : PA X (e :: es) (tAr (ctOf X) W fa)) (hv : bootBuiltins x = some (.type T) := by decide +kernel) (hn : x ≠ "__name__" := by decide) (hdb : (x == ("__debug__" : Str)) = false := by decide)
    (he : starEach (e :: es) X.env = (false, eval e X.env) :: starEach es X.env := by rfl) (hpl : (backTo pos (starEach es X.env)).any (·.1) = false := by rfl) : PE X (.Call (.Name x p) (e :: es) [] pos) (tE (ctOf X) W (sBlt k fa)) := by
  obtain ⟨r, h1, h2⟩ := hk
  exact pe_of (pe_callTy h1 hg hm hv ha hn hdb he hpl) (tC_call h2)
end
end Fw

set_option Elab.async false
set_option linter.all false
set_option maxRecDepth 100000
set_option maxHeartbeats 2000000
set_option autoImplicit false
namespace Fw
open PySem PySem.Spec L2
open PyProof.Rows hiding St

/-! ### methods of built-in types -/
def tyA (T : String) : Va → Hs → Bool
  | .str _, _ => T == "str"
  | .loc n, h => T == "list" && (match h[n]? with
    | some (.lst _) => true
    | _ => false)
  | .ros _, _ => T == "list"
  | _, _ => false
def sMth (T : String) (k : Va → List Va → Hs → Rs Va) (o : Sx) (f : Sm (List Va)) : Sx := bnd o fun x e h => if tyA T x h = true then bnd f (fun xs => vl (k x xs)) e h else .bad
def MtK (X : Cx) (id : String) (k : Va → List Va → Hs → Rs Va) : Prop := ∃ r, MtR X id r ∧ ∀ (ρ : List Addr) (H : Hp) (h : Hs) (x : Va) (xs : List Va) (v : V) (vs : List V) (W : XK) (Q : VK), HR (ctOf X) ρ h H → Rp (ctOf X) ρ H x v → RpL (ctOf X) ρ H xs vs → Po (ctOf X) (Rp (ctOf X)) W Q ρ H (k x xs h) → r v vs H Q
theorem tyA_of {C : Ct} {ρ : List Addr} {H : Hp} {h : Hs} (hr : HR C ρ h H) {x : Va} {v : V} (r : Rp C ρ H x v) {T : String} (e : tyA T x h = true) : tyV C.K T v H := by
  cases r with
  | str s => exact eq_of_beq e
  | loc hq =>
    rename_i n a
    have e : (T == "list" && (match h[n]? with | some (.lst _) => true | _ => false)) = true := e
    rw [Bool.and_eq_true] at e
    refine .inl ⟨eq_of_beq e.1, ?_⟩
    have e2 := e.2
    split at e2
    · rename_i xs hn
      obtain ⟨vs, e3, _⟩ := hr.ob n _ _ hn hq
      exact ⟨vs, SqL.of e3⟩
    · cases e2
  | ros hq rl => exact .inl ⟨eq_of_beq e, _, hq.sq⟩
  | _ => cases e
section
variable {X : Cx} {W : WX} {o e : Expr} {es : List Expr} {fo : Sx} {fa : Sm (List Va)} {name : Str} {apos cpos : Pos} {T id : String} {k : Va → List Va → Hs → Rs Va}
theorem se_mth (pa : PlainAttrs T) (slot : Slot T name id) (hty : typeOf (.builtin id) = pure (.type "method_descriptor")) (hm : MtK X id k) (ho : PE X o (tE (ctOf X) W fo)) (ha : PA X (e :: es) (tAr (ctOf X) W fa))
    (hbase : attributeBase o name X.env (eval o X.env) = eval o X.env := by rfl)
    (hfew : ((backTo cpos (starEach (e :: es) X.env)).all (fun x => !x.1) && (backToKw cpos (keywordEach [] X.env)).all (fun x => x.1.isSome) && decide ((e :: es).length + ([] : List Keyword).length + (if ([] : List Keyword).isEmpty then 0 else 1) < 30)) = true := by rfl)
    (hline : (apos.endLine == cpos.line) = true := by rfl) (hs : starEach (e :: es) X.env = (false, eval e X.env) :: starEach es X.env := by rfl) (hpl : (backTo cpos (starEach es X.env)).any (·.1) = false := by rfl) :
    PE X (.Call (.Attribute o name apos) (e :: es) [] cpos) (tE (ctOf X) W (sMth T k fo fa)) := by
  obtain ⟨r, h1, h2⟩ := hm
  exact pe_of (pe_bm pa slot hty h1 ho ha hbase hfew hline hs hpl) fun σ H Q h => tX_bnd h fun ρ H1 e1 hh x v hs hr rv p => by
    split at p
    · rename_i ht
      exact ⟨tyA_of hr rv ht, Po_bnd (k := fun xs => vl (k x xs)) hs hr p fun ρ2 H2 h3 xs vs e2 hs2 hr2 rvs p2 => h2 ρ2 H2 h3 x xs v vs _ Q hr2 (rv.mono e2) rvs p2⟩
    · exact p.elim
theorem se_mth0 (pa : PlainAttrs T) (slot : Slot T name id) (hty : typeOf (.builtin id) = pure (.type "method_descriptor")) (hm : MtK X id k) (ho : PE X o (tE (ctOf X) W fo)) (hbase : attributeBase o name X.env (eval o X.env) = eval o X.env := by rfl) (hline : (apos.endLine == cpos.line) = true := by rfl) :
    PE X (.Call (.Attribute o name apos) [] [] cpos) (tE (ctOf X) W (sMth T k fo sNil)) := by
  obtain ⟨r, h1, h2⟩ := hm
  exact pe_of (pe_bm0 pa slot hty h1 ho hbase hline) fun σ H Q h => tX_bnd h fun ρ H1 e1 hh x v hs hr rv p => by
    split at p
    · rename_i ht
      exact ⟨tyA_of hr rv ht, h2 ρ H1 hh x [] v [] _ Q hr rv .nil p⟩
    · exact p.elim
end
def kApp : Va → List Va → Hs → Rs Va
  | .loc n, [y] => fun h => match h[n]? with
    | some (.lst xs) => if xs.length < 16777216 then .ok .non (h.set n (.lst (xs ++ [y]))) else .bad
    | _ => .bad
  | _, _ => fun _ => .bad
def kPop : Va → List Va → Hs → Rs Va
  | .loc n, [] => fun h => match h[n]? with
    | some (.lst xs) => match xs[xs.length - 1]? with
      | some y => .ok y (h.set n (.lst xs.dropLast))
      | none => .bad
    | _ => .bad
  | _, _ => fun _ => .bad
def joinL (a : List Nat) : List (List Nat) → List Nat
  | [] => []
  | [x] => x
  | x :: y :: r => x ++ a ++ joinL a (y :: r)
def kJoin : Va → List Va → Hs → Rs Va
  | .str a, [x] => fun h => match x with
    | .tup xs => match mapO asS xs with
      | some ys => if (ys.map (·.length)).sum + ys.length * a.length ≤ 16777216 then .ok (.str (joinL a ys)) h else .bad
      | none => .bad
    | x => match (lsA x h).bind (mapO asS) with
      | some ys => if (ys.map (·.length)).sum + ys.length * a.length ≤ 16777216 then .ok (.str (joinL a ys)) h else .bad
      | none => .bad
  | _, _ => fun _ => .bad
def kCnt : Va → List Va → Hs → Rs Va
  | .str x, [.str y] => okI (Txt.count ⟨x.toArray⟩ ⟨y.toArray⟩)
  | _, _ => fun _ => .bad
section
variable {X : Cx}
theorem ms_app : MtK X "list.append" kApp := ⟨rAppend, mt_append, by
  intro ρ H h x xs v vs W Q hr rv rs p
  unfold kApp at p
  split at p
  · rename_i n y
    obtain ⟨w, rfl, rw_⟩ := one_arg rs rfl
    split at p
    · rename_i ys hn
      obtain ⟨a, us, rfl, ha, hl, rl⟩ := hr.ls_ hn rv
      split at p
      · rename_i c
        obtain ⟨e1, e2⟩ := hr.write hn ha hl (rl.append (.cons rw_ .nil))
        exact ⟨a, us, w, rfl, rfl, hl, by rw [← rl.length, line_eq]; exact c, p ρ _ .non e1 e2 .non⟩
      · exact p.elim
    · exact p.elim
  · exact p.elim⟩
theorem dropLast_rp {C : Ct} {ρ : List Addr} {H : Hp} {xs : List Va} {vs : List V} (r : RpL C ρ H xs vs) : RpL C ρ H xs.dropLast vs.dropLast := by
  rw [List.dropLast_eq_take, List.dropLast_eq_take, ← r.length]
  exact r.take _
theorem ms_pop : MtK X "list.pop" kPop := ⟨rPop, mt_pop, by
  intro ρ H h x xs v vs W Q hr rv rs p
  unfold kPop at p
  split at p
  · rename_i n
    cases rs
    split at p
    · rename_i ys hn
      obtain ⟨a, us, rfl, ha, hl, rl⟩ := hr.ls_ hn rv
      split at p
      · rename_i y hy
        obtain ⟨w, q1, q2⟩ := rl.get hy
        obtain ⟨e1, e2⟩ := hr.write hn ha hl (dropLast_rp rl)
        exact ⟨a, us, w, rfl, rfl, hl, by rw [← rl.length]; exact q1, p ρ _ w e1 e2 (q2.mono e1)⟩
      · exact p.elim
    · exact p.elim
  · exact p.elim⟩
theorem glued_eq (a : List Nat) : ∀ ys : List (List Nat), Txt.join ⟨a.toArray⟩ (ys.map fun x => (⟨x.toArray⟩ : Str)) = ⟨(joinL a ys).toArray⟩ := by
  have go : ∀ (ys : List (List Nat)) (acc : List Nat), (ys.map fun x => (⟨x.toArray⟩ : Str)).foldl (fun acc p => acc ++ (⟨a.toArray⟩ : Str).cps ++ p.cps) acc.toArray = (acc ++ (ys.map fun x => a ++ x).flatten).toArray := by
    intro ys
    induction ys with
    | nil => intro acc; simp
    | cons y ys ih =>
      intro acc
      simp only [List.map_cons, List.foldl_cons, List.flatten_cons]
      have e : acc.toArray ++ a.toArray ++ y.toArray = (acc ++ (a ++ y)).toArray := by simp
      rw [e, ih]
      simp
  have jn : ∀ (ys : List (List Nat)) (x : List Nat), joinL a (x :: ys) = x ++ (ys.map fun x => a ++ x).flatten := by
    intro ys
    induction ys with
    | nil => intro x; simp [joinL]
    | cons y ys ih =>
      intro x
      simp only [joinL, ih, List.map_cons, List.flatten_cons, List.append_assoc]
  intro ys
  cases ys with
  | nil => rfl
  | cons y ys =>
    rw [jn]
    show (⟨((ys.map fun x => (⟨x.toArray⟩ : Str))).foldl (fun acc p => acc ++ (⟨a.toArray⟩ : Str).cps ++ p.cps) y.toArray⟩ : Str) = _
    rw [go]
theorem join_len (ys : List (List Nat)) : ((ys.map fun x => (⟨x.toArray⟩ : Str)).map (·.length)).sum = (ys.map (·.length)).sum := by
  rw [List.map_map]
  congr 1
theorem ms_join : MtK X "str.join" kJoin := ⟨_, mt_join, by
  intro ρ H h x xs v vs W Q hr rv rs p
  unfold kJoin at p
  split at p
  · rename_i a y
    obtain ⟨w, rfl, rw_⟩ := one_arg rs rfl
    cases rv
    have fin : ∀ (ys : List (List Nat)), (ys.map (·.length)).sum + ys.length * a.length ≤ 16777216 → Po (ctOf X) (Rp (ctOf X)) W Q ρ H (.ok (.str (joinL a ys)) h) →
        (((ys.map fun x => (⟨x.toArray⟩ : Str)).map (·.length)).sum + (ys.map fun x => (⟨x.toArray⟩ : Str)).length * (⟨a.toArray⟩ : Str).length ≤ 16777216 ∧ Q (.str (Txt.join ⟨a.toArray⟩ (ys.map fun x => (⟨x.toArray⟩ : Str)))) H) := fun ys hl p => by
      rw [join_len, List.length_map, str_len, glued_eq]
      exact ⟨hl, Po_ok p hr (.str _)⟩
    split at p
    · rename_i zs
      cases rw_ with
      | tup hq rl =>
      split at p
      · rename_i ys e
        split at p
        · rename_i c
          have e2 := strs_of rl e
          subst e2
          obtain ⟨f1, f2⟩ := fin ys c p
          exact ⟨_, _, _, rfl, rfl, .inr hq.sq, f1, f2⟩
        · exact p.elim
      · exact p.elim
    · cases e : lsA y h with
      | none => rw [e] at p; exact p.elim
      | some zs =>
        obtain ⟨b, us, rfl, hq, rl⟩ := lsA_of hr rw_ e
        rw [e] at p
        cases e2 : mapO asS zs with
        | none => simp only [Option.bind_some, e2] at p; exact p.elim
        | some ys =>
          simp only [Option.bind_some, e2] at p
          split at p
          · rename_i c
            have e3 := strs_of rl e2
            subst e3
            obtain ⟨f1, f2⟩ := fin ys c p
            exact ⟨_, _, _, rfl, rfl, .inl hq, f1, f2⟩
          · exact p.elim
  · exact p.elim⟩
end
/-! ### the end: the law's def, called with the script -/
section
variable {P : Program} {w : World} {K : PySem.W.Frag} {mg mb : Str → Option Value} {k : Nat} {fa a : Addr} {fd : FuncData} {x : Str} {F : Fn} {s : Shared} {us : List Value} {ns : List Int}
theorem law_run (KX : K.In s.heap) (hns : s.heap.Ns mainGlobals mg) (hb : s.heap.Ns builtinsNs mb) (hbb : ∀ x : Str, x ≠ "__name__" → mb x = bootBuiltins x) (hlim : s.heap.NoLimit) (hg : s.gens = #[])
    (ha : s.heap.get? a = some { cls := .type "list", data := .seq us.toArray }) (hi : IntsAre us ns) (hl : ns.length ≤ sizeLine) (hr : Room k callerA) (D : ∀ base : Heap, K.In base → base.Ns mainGlobals mg → DefOk P w ⟨K, mg⟩ base k fa fd [x] F)
    (hbind : ∀ (s : Shared) (u : Value), BindsTo s fd ⟨[u], []⟩ [(x, u)]) (hF : ∃ h', F [.ros (ns.map Va.int)] [] = .ok (.bl true) h') :
    codeAny (model P w) callerA (.call (.ref fa) ⟨[.ref a], []⟩) (fun r s' => r = .ok (.ret (.bool true)) ∧ OldK s.heap s'.heap ∧ s'.os = s.os ∧ AllBare s'.gens) s := by
  obtain ⟨hf, hF⟩ := hF
  have rl := vals_ints hi
  have ln := hi.length
  suffices all : ∀ H : Hp, Only H → RoL K H a (ns.map V.int) → HOk P w H s.heap → (∀ b u, H b = some u → b = a) → ((∃ u, H a = some u) → K.lookup a = none) → codeAny (model P w) callerA (.call (.ref fa) ⟨[.ref a], []⟩) (fun r s' => r = .ok (.ret (.bool true)) ∧ OldK s.heap s'.heap ∧ s'.os = s.os ∧ AllBare s'.gens) s by
    cases hk : K.lookup a with
    | some o =>
      have e := KX a o hk
      rw [ha] at e
      have e := Option.some.inj e
      subst e
      refine all (fun _ => none) (fun _ => Or.inl rfl) (Or.inr fun H' => Or.inr ⟨_, us.toArray, _, hk, rfl, rfl, rfl, ?_, ?_⟩) (fun b u z => by cases z) (fun b u z => by cases z) fun ⟨u, z⟩ => by cases z
      · rw [List.size_toArray, ln]; exact hl
      · simpa using rl
    | none =>
      let ob : Obj := { cls := .type "list", data := .seq us.toArray }
      let HH : Hp := fun b => if b = a then some (.frz ob (.lst (ns.map V.int))) else none
      have at_a : HH a = some (.frz ob (.lst (ns.map V.int))) := if_pos rfl
      have off : ∀ b, b ≠ a → HH b = none := fun b hb => if_neg hb
      refine all HH (fun b => ?_) (Or.inl ⟨ob, at_a⟩) (fun b u z => ?_) (fun b u z => ?_) fun _ => hk
      · by_cases e : b = a
        · subst e; exact Or.inr ⟨_, _, at_a⟩
        · exact Or.inl (off b e)
      · by_cases e : b = a
        · subst e
          rw [at_a] at z
          cases z
          exact ⟨ha, by rw [List.length_map]; exact hl, us, _, rl, ha⟩
        · rw [off b e] at z; cases z
      · by_cases e : b = a
        · exact e
        · rw [off b e] at z; cases z
  intro H hO hS hok hA hKa
  have keepB : ∀ {b : Addr} {o : Obj}, s.heap.get? b = some o → H b = none → (hidT s.heap H).get? b = some o := fun e n => hidT_get e n
  have dictN : ∀ {b : Addr} {o : Obj} {es : Array DictEntry} {ep : Nat}, s.heap.get? b = some o → o.data = .dict es ep → H b = none := by
    intro b o es ep e d
    cases q : H b with
    | none => rfl
    | some u =>
      have eb := hA b u q
      subst eb
      rw [ha] at e
      cases e
      exact absurd d (by intro z; cases z)
  have nsB : ∀ {b : Addr} {m : Str → Option Value}, s.heap.Ns b m → (hidT s.heap H).Ns b m := by
    rintro b m ⟨o, es, ep, e, d, r⟩
    exact ⟨o, es, ep, keepB e (dictN e d), d, r⟩
  have inB : K.In (hidT s.heap H) := by
    intro b o e
    refine keepB (KX b o e) ?_
    cases q : H b with
    | none => rfl
    | some u =>
      have eb := hA b u q
      subst eb
      rw [hKa ⟨u, q⟩] at e
      cases e
  have md : Mod K mg (hidT s.heap H) := by
    refine ⟨inB, nsB hns, ⟨mb, nsB hb, hbb⟩, ?_⟩
    obtain ⟨mc, z1, z2⟩ := hlim
    exact ⟨mc, nsB z1, z2⟩
  have e0 : Env0 P w K mg (hidT s.heap H) callerA [] s H := ⟨rfl, md, fun b o e => of_hidT e, Nat.le_of_eq (hidT_size _ _), trivial, fun b hb => (by cases hb), hok, .of_eq hg⟩
  have hsp : SpF ⟨K, mg⟩ F [x].length [.ref a] H (fun v _ => v = .bl true) (fun _ _ _ => False) := by
    refine ⟨rfl, [], [], [.ros (ns.map Va.int)], .cons (.ros hS (rpInts ns)) .nil, ⟨rfl, fun i j b z => by simp at z, fun n o b z => by simp at z⟩, ?_⟩
    rw [hF]
    intro ρ' H' v _ _ rv
    cases rv
    rfl
  refine codeAny_mono ((D _ inB (nsB hns)).run callerA [] s H ⟨[.ref a], []⟩ [.ref a] [.ref a] _ _ hr rfl e0 (hbind s (.ref a)) (.cons rfl .nil) hsp) fun r s' q => ?_
  cases r with
  | error e =>
    obtain ⟨_, _, _, _, _, _, _, _, _, _, _, _, z⟩ := q
    exact z.elim
  | ok fl => cases fl with
    | ret u =>
      obtain ⟨v, H', os, bare, un, hok', rv, qv⟩ := q
      have qv : v = .bl true := qv
      subst qv
      have rv : u = Value.bool true := rv
      subst rv
      refine ⟨rfl, OldK.of_keep fun b o e => ?_, os, bare⟩
      cases z : H b with
      | none => exact un.keep b o e z (by intro y; cases y) (by simp)
      | some u =>
        rcases hO b with y | ⟨ob, xs, y⟩
        · rw [z] at y; cases y
        · obtain ⟨e1, _⟩ := hok b _ y
          obtain ⟨e2, _⟩ := hok' b _ (un.frzs b ob _ y)
          rw [e] at e1
          cases e1
          exact e2
    | _ => exact False.elim q
end
/-- the goal that the head leaves, from the law's def -/
theorem law_end {l : PySem.W.OpenLaw} {n k : Nat} {q : Program} {loose : List Str} {XP : (Str → Option Value) → Heap → Prop} {YP : World → Heap → Prop} {d : DefRec} {K : Params → PySem.W.Frag} {x : Str} {F : Fn}
    (hn : l.most = some n) (hn2 : n ≤ sizeLine) (hdf : d.params.defaults = []) (hr : Room k callerA) (hY : ∀ (w : World) (h : Heap), YP w h → (K w.params).In h)
    (D : ∀ (w : World) (mg : Str → Option Value) (fa : Addr) (h : Heap), (K w.params).In h → h.Ns mainGlobals mg → mg d.name = some (.ref fa) →
      ∃ fd : FuncData, (∀ (s : Shared) (u : Value), BindsTo s fd ⟨[u], []⟩ [(x, u)]) ∧ ∀ base : Heap, (K w.params).In base → base.Ns mainGlobals mg → DefOk l.prog w ⟨K w.params, mg⟩ base k fa fd [x] F)
    (hF : ∀ ns : List Int, ns.length ≤ n → ∃ h', F [.ros (ns.map Va.int)] [] = .ok (.bl true) h') : PySem.W.WalkO q loose XP YP l.row.toRowW d [] (fun f vs => PySem.call f vs) := by
  refine Att.attach_call hn hdf fun w s₀ s₁ mg mb fa o pm cd doc a vs ns G Y ho hd hcd hmg hobj hints hlen hg => ?_
  obtain ⟨fd, hb, hD⟩ := D w mg fa _ (hY w _ Y) G.T.g hmg
  exact law_run (hY w _ Y) G.T.g G.T.b G.T.builtins G.T.nolimit hg hobj hints (Nat.le_trans hlen hn2) hr hD hb (hF ns hlen)
end Fw
namespace Fw
open PySem PySem.Spec L2
theorem se_gintE {X : Cx} {W : WX} {x : Str} {i : Int} {pos : Pos} (hg : Gl X x) (h : ∃ t, X.mg x = some (.int i t)) (hd : (x == ("__debug__" : Str)) = false := by decide) : PE X (.Name x pos) (tE (ctOf X) W (sK (.int i))) := by
  obtain ⟨t, h⟩ := h
  exact se_gint hg h hd
end Fw

set_option Elab.async false
set_option linter.all false
set_option maxRecDepth 100000
set_option maxHeartbeats 2000000
set_option autoImplicit false
namespace Fw
open PySem PySem.Spec L2
open PyProof.Rows hiding St
/-! ### a text read backward -/
@[simp] def kRev : Va → Hs → Rs Va
  | .str x => fun h => if x.length ≤ 16777216 then .ok (.str x.reverse) h else .bad
  | .loc n => fun h => match h[n]? with
    | some (.lst xs) => newL xs.reverse h
    | _ => .bad
  | .ros xs => newL xs.reverse
  | _ => fun _ => .bad
theorem rev_pick (z : Str) : (Builtin.Str.strSliceIndices none none (-1) z.length).filterMap (z.cps[·]?) = z.cps.toList.reverse := by
  have e : Builtin.Str.strSliceIndices none none (-1) z.length = sliceRange ((z.length : Int) - 1) (-1) (-1) := by
    unfold Builtin.Str.strSliceIndices
    rfl
  rw [e, PySem.W.krv_sliceRange, PySem.W.krv_range, List.filterMap_reverse]
  congr 1
  exact PySem.W.krv_all z.cps
def tRevS (te : TE) : TE := fun σ H Q => te σ H fun x H1 => ∃ z, x = .str z ∧ z.length ≤ sizeLine ∧ Q (.str ⟨z.cps.toList.reverse.toArray⟩) H1
theorem pe_revS {X : Cx} {e : Expr} {te : TE} {k : Nat} {p1 p2 p3 pos : Pos} (he : PE X e te) : PE X (.Subscript e (.Slice none none (some (.UnaryOp .USub (.Constant (.int 1) k p1) p2)) p3) pos) (tRevS te) := by
  refine ⟨fun pins s σ H Q I h => ?_⟩
  refine Subscript_ (thn (he.run pins s σ H _ I h) fun v s1 ⟨x, H1, I1, r1, q1⟩ => ?_)
  obtain ⟨z, ex, hz, q⟩ := q1
  subst ex
  obtain ⟨t, rfl⟩ := r1
  have hst : PO X (some (.UnaryOp .USub (.Constant (.int 1) k p1) p2)) (tPart (tUn (rU fun i => .int (-i)) (tC (.int 1)))) := po_some (pe_un un_neg pe_int)
  refine wpAny_Slice (thn (po_none.run pins s1 σ H1 (fun o H2 => o = none ∧ H2 = H1) I1 ⟨rfl, rfl⟩) fun vl s2 ⟨l, H2, I2, pl, el, e2⟩ => ?_)
  subst el e2
  refine thn (po_none.run pins s2 σ H2 (fun o H3 => o = none ∧ H3 = H2) I2 ⟨rfl, rfl⟩) fun vu s3 ⟨u, H3, I3, pu, eu, e3⟩ => ?_
  subst eu e3
  refine thn (hst.run pins s3 σ H3 (fun o H4 => o = some (-1) ∧ H4 = H3) I3 ⟨1, rfl, -1, rfl, rfl, rfl⟩) fun vs s4 ⟨o, H4, I4, ps, eo, e4⟩ => ?_
  subst eo e4
  have I5 : Inv X pins σ H4 { s4 with heap := s4.heap.push { cls := .type "slice", data := .fields #[vl, vu, vs] } } := I4.kept (t' := s4.toks) fun b ob q => Heap.get?_push_of_some _ q
  obtain ⟨l1, e1, e2⟩ := IsPart.raw pl
  obtain ⟨u1, f1, f2⟩ := IsPart.raw pu
  obtain ⟨w1, g1, g2⟩ := IsPart.raw ps
  subst e1 f1 g1
  show wpAny (model X.prog X.w) X.A (subscriptTail e (.Slice none none (some (.UnaryOp .USub (.Constant (.int 1) k p1) p2)) p3) (.str z t) (.ref s4.heap.objs.size)) (EP X pins σ Q) X.xe _
  refine tail_any (ops := [.str z t, .ref s4.heap.objs.size]) (typeIs_str _ _ _) (F.slot_str_getitem.lookup) ?_ (by with_unfolding_all rfl)
  refine wpAny_getItem_str_slice (l := l1) (u := u1) (st := w1) ⟨_, Heap.get?_push_size _ rfl, rfl, rfl⟩ (by rw [g2]; rfl) ?_
  unfold sliceMade slicePicked
  rw [e2, f2, g2]
  show Made.post (.str ⟨((Builtin.Str.strSliceIndices none none (-1) z.length).filterMap (z.cps[·]?)).toArray⟩) (EP X pins σ Q) _
  rw [rev_pick]
  refine ⟨?_, .str _, H4, I5.tok _, ⟨_, rfl⟩, q⟩
  simp only [Str.length, List.size_toArray, List.length_reverse, Array.length_toList]
  exact hz
theorem RpL.app {C : Ct} {ρ : List Addr} {H : Hp} : ∀ {xs ys : List Va} {vs us : List V}, RpL C ρ H xs vs → RpL C ρ H ys us → RpL C ρ H (xs ++ ys) (vs ++ us)
  | _, _, _, _, .nil, b => b
  | _, _, _, _, .cons r a, b => .cons r (RpL.app a b)
theorem RpL.rev {C : Ct} {ρ : List Addr} {H : Hp} : ∀ {xs : List Va} {vs : List V}, RpL C ρ H xs vs → RpL C ρ H xs.reverse vs.reverse
  | _, _, .nil => .nil
  | _, _, .cons r a => by
    rw [List.reverse_cons, List.reverse_cons]
    exact RpL.app (RpL.rev a) (.cons r .nil)
theorem pe_or {X : Cx} {e : Expr} {t t' : TE} (h : PE X e t) (h' : PE X e t') : PE X e (fun σ H Q => t σ H Q ∨ t' σ H Q) := ⟨fun pins s σ H Q I q => q.elim (h.run pins s σ H Q I) (h'.run pins s σ H Q I)⟩
theorem se_rev {X : Cx} {W : WX} {e : Expr} {fe : Sx} {k : Nat} {p1 p2 p3 pos : Pos} (he : PE X e (tE (ctOf X) W fe)) : PE X (.Subscript e (.Slice none none (some (.UnaryOp .USub (.Constant (.int 1) k p1) p2)) p3) pos) (tE (ctOf X) W (s1 kRev fe)) :=
  pe_of (pe_or (pe_revS he) (pe_revL he)) fun σ H Q h => by
    obtain ⟨ρ, e, hh, hs, hr, p⟩ := h
    unfold s1 bnd at p
    cases q : fe e hh with
    | ok x h1 =>
      rw [q] at p
      cases x with
      | str z =>
        refine .inl ⟨ρ, e, hh, hs, hr, ?_⟩
        rw [q]
        intro ρ' H' v ex hr' rv
        cases rv
        have p : Po _ _ _ _ ρ' H' (if z.length ≤ 16777216 then _ else _) := Po.mono ex p
        split at p
        · rename_i c
          exact ⟨_, rfl, by rw [line_eq]; simpa [Str.length] using c, by simpa using Po_ok p hr' (.str _)⟩
        · exact p.elim
      | loc n =>
        refine .inr ⟨ρ, e, hh, hs, hr, ?_⟩
        rw [q]
        intro ρ' H' v ex hr' rv
        have p : Po _ _ _ _ ρ' H' (match h1[n]? with | some (.lst xs) => newL xs.reverse h1 | _ => .bad) := Po.mono ex p
        split at p
        · rename_i xs hn
          obtain ⟨a, vs, rfl, ha, hl, rl⟩ := hr'.ls_ hn rv
          exact ⟨a, vs, rfl, SqL.of hl, (newL_of hr' (RpL.rev rl) p).2⟩
        · exact p.elim
      | ros xs =>
        refine .inr ⟨ρ, e, hh, hs, hr, ?_⟩
        rw [q]
        intro ρ' H' v ex hr' rv
        have p : Po _ _ _ _ ρ' H' (newL xs.reverse h1) := Po.mono ex p
        cases rv with
        | ros hq rl => exact ⟨_, _, rfl, hq.sq, (newL_of hr' (RpL.rev rl) p).2⟩
      | _ => exact p.elim
    | ex x h1 =>
      rw [q] at p
      refine .inl ⟨ρ, e, hh, hs, hr, ?_⟩
      rw [q]
      exact p
    | bad => rw [q] at p; exact p.elim
end Fw

set_option Elab.async false
set_option linter.all false
set_option maxRecDepth 100000
set_option maxHeartbeats 2000000
set_option autoImplicit false
namespace Fw
open PySem PySem.Spec L2
open PyProof.Rows hiding St
/-! ### enumerate over a text -/
def Iten (x : Str) : It :=
  ⟨fun i _ => i < x.cps.size, fun i H v H' => ∃ T c, v = .ref T ∧ H T = none ∧ H' = upd H T (.tup [.int (i : Nat), .str ⟨#[c]⟩]) ∧ x.cps[i]? = some c, fun i _ => x.cps.size ≤ i⟩
theorem turn_enumS {P : Program} {w : World} {K : PySem.W.Frag} {elts : List Expr} {kk : Nat} {tpos : Pos} (x : Str) (t : Tok) (e it : Addr) :
    Turn P w K (.Tuple elts kk tpos) (Iten x) [e, it] e (fun i h => (∃ old, IsEnum h e it ((i : Nat) : Int) old) ∧ h.IsStrIter it (strIterType x) x t i ∧ e ≠ it) where
  mem := by simp
  obj := fun i h st b hb => by
    obtain ⟨⟨old, he⟩, ⟨o, ho, hc, hd⟩, _⟩ := st
    have e' : b = e ∨ b = it := by simpa using hb
    rcases e' with z | z
    · rw [z]; exact ⟨_, he, fun v q => nomatch q⟩
    · rw [z]; exact ⟨o, ho, fun v q => by rw [hd] at q; cases q⟩
  keep := fun i h h' st k => let ⟨⟨old, he⟩, ⟨o, ho, r⟩, hne⟩ := st; ⟨⟨old, k e (by simp) _ he⟩, ⟨o, k it (by simp) o ho, r⟩, hne⟩
  item := by
    intro X hP hw hK hc i pins s σ H E I hf st hg
    subst hP hw hK
    obtain ⟨⟨old, he⟩, hit, hne⟩ := st
    have hel : e < s.heap.objs.size := Heap.lt_size he
    have hil : it < s.heap.objs.size := by obtain ⟨_, q, _⟩ := hit; exact Heap.lt_size q
    have D := Draws.text (prog := X.prog) (w := X.w) (A := X.A.in1) (I.ok.hd hc) it x t
    refine wpAny_pyNext_enum_itemD D he hit hg hne (by simpa using hne) fun u h' tk hP ho hit' hT hsz hk => ?_
    obtain ⟨c, tu, hcx, rfl⟩ := hP
    refine ⟨_, rfl, wpAny_letOwnedTupleGo_enum (s := { s with heap := h', toks := tk + 1 }) ho fun h'' he' sb => ?_⟩
    have hT2 : h''.get? s.heap.objs.size = some { cls := .type "tuple", data := .seq #[.int i tk, .str ⟨#[c]⟩ tu] } := (sb.2 _ (Nat.ne_of_gt hel)).trans hT
    have new : ObjOk X.prog X.w (upd H s.heap.objs.size (.tup [.int (i : Nat), .str ⟨#[c]⟩])) h'' s.heap.objs.size (.tup [.int (i : Nat), .str ⟨#[c]⟩]) :=
      ⟨by show 2 ≤ sizeLine; decide, [.int i tk, .str ⟨#[c]⟩ tu], .cons ⟨_, rfl⟩ (.cons ⟨_, rfl⟩ .nil), ⟨_, hT2, rfl, _, rfl⟩⟩
    have I1 : Inv X pins σ (upd H s.heap.objs.size (.tup [.int (i : Nat), .str ⟨#[c]⟩])) { s with heap := h'', toks := tk + 1 } :=
      I.turnedNew (ch := [e, it]) (fun b ob hb q => (sb.2 b (fun z => hb (by simp [z]))).trans (hk b ob (fun z => hb (by simp [z])) (fun z => hb (by simp [z])) q)) hf (Nat.le_refl _) new
    refine ⟨.ref s.heap.objs.size, _, I1, rfl, ⟨_, c, rfl, I.hok.fresh (Nat.le_refl _), rfl, hcx⟩, ⟨⟨.str ⟨#[c]⟩ tu, ?_⟩, ?_, hne⟩, fun b hb => ?_⟩
    · have e1 : ((i + 1 : Nat) : Int) = (i : Int) + 1 := by omega
      rw [e1]; exact he'
    · obtain ⟨o, q1, q2⟩ := hit'
      exact ⟨o, (sb.2 it (Ne.symm hne)).trans q1, q2⟩
    · have hb' : b < s.heap.objs.size := by
        have e' : b = e ∨ b = it := by simpa using hb
        rcases e' with z | z
        · rw [z]; exact hel
        · rw [z]; exact hil
      rw [upd_ne (Nat.ne_of_lt hb')]
      exact (hf b hb).1
  done := by
    intro X hP hw hK hc i pins s σ H E I hf st hg
    subst hP hw hK
    obtain ⟨⟨old, he⟩, hit, hne⟩ := st
    obtain ⟨f0, f1, f2, f3, f4, f5⟩ := hf it (by simp)
    have hx : x.cps[i]? = none := Array.getElem?_eq_none hg
    have D : Draws X.prog X.w X.A.in1 it [it] 0 (fun _ _ => False) (fun _ h => h.IsStrIter it (strIterType x) x t i) :=
      ⟨fun _ _ st => let ⟨o, ho, _⟩ := st; ⟨o, ho⟩, fun _ _ _ st hk => let ⟨o, ho, r⟩ := st; ⟨o, hk it (by simp) o ho, r⟩, fun j s Q E hj => absurd hj (Nat.not_lt_zero _), fun s Q E st hE => by
        cases ha : x.cps.all (· < 128)
        · simp only [strIterType, ha, Bool.false_eq_true, if_false] at st
          exact wpAny_nextOf_wide_end (I.ok.hd hc) st hx hE
        · simp only [strIterType, ha, if_true] at st
          exact wpAny_nextOf_ascii_end (I.ok.hd hc) st hx hE⟩
    exact wpAny_pyNext_enum_endD D he hit fun h' eb => ⟨rfl, I.turned (t' := s.toks) (fun b o hb q => eb b o hb q) f0 f1 f3 f4 f5⟩
  self := fun A i s Q E st h => let ⟨⟨_, he⟩, _⟩ := st; wpAny_pyIter_enum he h
def iEnumS (ta : TA) : TI := fun σ H R => ta σ H fun vs H1 => ∃ x, vs = [.str x] ∧ R (Iten x) H1
theorem pi_enumS {X : Cx} {e : Expr} {ta : TA} {p pos tpos : Pos} {elts : List Expr} {kk : Nat} (hg : Gl X "enumerate") (hm : X.mg "enumerate" = none) (ha : PA X [e] ta) (hs : starEach [e] X.env = [(false, eval e X.env)] := by rfl) :
    PI X (.Tuple elts kk tpos) (.Call (.Name "enumerate" p) [e] [] pos) (iEnumS ta) := by
  refine ⟨fun pins s σ H R I h => ?_⟩
  refine Call_ (ld_blt I hg hm boot_enumerate (PyProof.Rows.callWith_type1 (thn (ha.run pos pins s σ H _ I h) fun us s1 ⟨vs, H1, I1, r1, q1⟩ => ?_) hs rfl))
  obtain ⟨x, ex, q⟩ := q1
  subst ex
  cases r1 with
  | cons r rr =>
    cases rr
    obtain ⟨t, rfl⟩ := r
    refine call_enumerate_str fun h' he hit hsz hk => wpAny_pyIter_enum he ?_
    have I2 : Inv X pins σ H1 { s1 with heap := h' } := I1.kept (t' := s1.toks) hk
    refine ⟨s1.heap.objs.size + 1, [s1.heap.objs.size + 1, s1.heap.objs.size], _, _, H1, rfl, I2, turn_enumS x t (s1.heap.objs.size + 1) s1.heap.objs.size, ⟨⟨.none, he⟩, hit, Nat.succ_ne_self _⟩, fun b hb => ?_, q⟩
    have e' : b = s1.heap.objs.size + 1 ∨ b = s1.heap.objs.size := by simpa using hb
    have hle : s1.heap.objs.size ≤ b := by
      rcases e' with z | z
      · rw [z]; exact Nat.le_add_right _ _
      · rw [z]; exact Nat.le_refl _
    exact I1.fpOk hle (I1.hok.fresh hle)
def enT (x : Va) (h : Hs) : Option (Src × Nat) := match x with
  | .str s => some (srcEV (s.map fun c => .str [c]), s.length)
  | x => enV x h
def sEnuT (f : Sm (List Va)) : Sit := bnd f fun xs _ h => match xs with
  | [x] => match enT x h with
    | some s => .ok s h
    | none => .bad
  | _ => .bad
theorem srcEn_of {C : Ct} {ρ : List Addr} {H : Hp} (s : List Nat) : SrcR C ρ H (srcEV (s.map fun c => .str [c])) (Iten ⟨s.toArray⟩) := by
  refine ⟨fun ρ1 H1 h1 i ex hr e => ?_, fun ρ1 H1 h1 i y ex hr e => ?_⟩
  · unfold srcEV at e
    cases q : s[i]? with
    | none => show (⟨s.toArray⟩ : Str).cps.size ≤ i; simpa using List.getElem?_eq_none_iff.mp q
    | some c => rw [List.getElem?_map, q] at e; cases e
  · unfold srcEV at e
    cases q : s[i]? with
    | none => rw [List.getElem?_map, q] at e; cases e
    | some c =>
      rw [List.getElem?_map, q] at e
      cases e
      have hl := (List.getElem?_eq_some_iff.mp q).1
      refine ⟨by show i < (⟨s.toArray⟩ : Str).cps.size; simpa using hl, fun w H2 ⟨T, c', e1, e2, e3, e4⟩ => ?_⟩
      have : c' = c := by simpa [q] using e4.symm
      subst this e1 e3
      have en := ext_new (C := C) (ρ := ρ1) (o := .tup [.int (i : Nat), .str ⟨#[c']⟩]) e2
      exact ⟨en, hr.tup_ e2, .tpw (SqT.of upd_same) (.cons (.int _) (.cons (.str [c']) .nil))⟩
theorem si_enumT {X : Cx} {W : WX} {a : Expr} {fa : Sm (List Va)} {p pos : Pos} {elts : List Expr} {kk : Nat} {tpos : Pos} (hg : Gl X "enumerate") (hm : X.mg "enumerate" = none) (ha : PA X [a] (tAr (ctOf X) W fa)) (hs : starEach [a] X.env = [(false, eval a X.env)] := by rfl) : PI X (.Tuple elts kk tpos) (.Call (.Name "enumerate" p) [a] [] pos) (tIt (ctOf X) W (sEnuT fa)) :=
  pi_of (pi_or (pi_enumS hg hm ha hs) (si_enum hg hm ha hs)) fun σ H Q h => by
    obtain ⟨ρ, e, hh, hs', hr, p⟩ := h
    unfold sEnuT bnd at p
    cases q : fa e hh with
    | ok xs h1 =>
      rw [q] at p
      match xs, q, p with
      | [], q, p => exact p.elim
      | [.str s], q, p =>
        refine .inl ⟨ρ, e, hh, hs', hr, ?_⟩
        rw [q]
        intro ρ' H' v ex hr' rv
        cases rv with
        | cons r1 r2 =>
          cases r2
          cases r1
          exact ⟨_, rfl, (Po.mono ex p) ρ' H' _ .refl hr' (srcEn_of s)⟩
      | [.non], q, p => exact .inr ⟨ρ, e, hh, hs', hr, by unfold sEnu bnd; rw [q]; exact p⟩
      | [.bl _], q, p => exact .inr ⟨ρ, e, hh, hs', hr, by unfold sEnu bnd; rw [q]; exact p⟩
      | [.int _], q, p => exact .inr ⟨ρ, e, hh, hs', hr, by unfold sEnu bnd; rw [q]; exact p⟩
      | [.tup _], q, p => exact .inr ⟨ρ, e, hh, hs', hr, by unfold sEnu bnd; rw [q]; exact p⟩
      | [.ros _], q, p => exact .inr ⟨ρ, e, hh, hs', hr, by unfold sEnu bnd; rw [q]; exact p⟩
      | [.loc _], q, p => exact .inr ⟨ρ, e, hh, hs', hr, by unfold sEnu bnd; rw [q]; exact p⟩
      | [.fn _], q, p => exact .inr ⟨ρ, e, hh, hs', hr, by unfold sEnu bnd; rw [q]; exact p⟩
      | [.ty _], q, p => exact .inr ⟨ρ, e, hh, hs', hr, by unfold sEnu bnd; rw [q]; exact p⟩
      | [.rg _ _ _], q, p => exact .inr ⟨ρ, e, hh, hs', hr, by unfold sEnu bnd; rw [q]; exact p⟩
      | [.tpw _], q, p => exact .inr ⟨ρ, e, hh, hs', hr, by unfold sEnu bnd; rw [q]; exact p⟩
      | _ :: _ :: _, q, p => exact p.elim
    | ex x h1 =>
      rw [q] at p
      refine .inl ⟨ρ, e, hh, hs', hr, ?_⟩
      rw [q]
      exact p
    | bad => rw [q] at p; exact p.elim
end Fw

set_option Elab.async false
set_option linter.all false
set_option maxRecDepth 100000
set_option maxHeartbeats 2000000
set_option autoImplicit false
namespace Fw
open PySem PySem.Spec L2
open PyProof.Rows hiding St
/-! ### dicts whose keys are ints and texts -/
def dGet : List (Va × Va) → Key → Option Va
  | [], _ => none
  | (a, x) :: r, k => if keyA a = some k then some x else dGet r k
def dPut (xs : List (Va × Va)) (k : Key) (y x : Va) : List (Va × Va) :=
  if (xs.any fun p => decide (keyA p.1 = some k)) = true then xs.map (fun p => if keyA p.1 = some k then (p.1, x) else p) else xs ++ [(y, x)]
theorem RpK.length {C : Ct} {ρ : List Addr} {H : Hp} : ∀ {xs : List (Va × Va)} {vs : List (Key × V)}, RpK C ρ H xs vs → xs.length = vs.length
  | _, _, .nil => rfl
  | _, _, .cons e r rs => by simp [RpK.length rs]
/-! ### a new dict, an item read, an item stored -/
def sDn : Sx := fun _ h => .ok (.loc h.length) (h ++ [.dct []])
@[simp] def kIxD (x y : Va) (h : Hs) : Rs Va := match x with
  | .loc n => match h[n]? with
    | some (.dct kvs) => match (keyA y).bind (dGet kvs) with
      | some v => .ok v h
      | none => .bad
    | _ => kIx x y h
  | _ => kIx x y h
def kSetD (o i x : Va) (h : Hs) : Option Hs := match o with
  | .loc n => match h[n]? with
    | some (.dct kvs) => match keyA i with
      | some k => if kvs.length < 16777216 then some (h.set n (.dct (dPut kvs k i x))) else none
      | none => none
    | _ => kSet o i x h
  | _ => kSet o i x h
theorem PSet.or {X : Cx} {t t' : TSet} (a : PSet X t) (b : PSet X t') : PSet X (fun o i v H Q => t o i v H Q ∨ t' o i v H Q) := by
  intro pins s σ H o i v ov iv u Q I ro ri rv h
  rcases h with h | h
  · exact a pins s σ H o i v ov iv u Q I ro ri rv h
  · exact b pins s σ H o i v ov iv u Q I ro ri rv h
def gSbD (fo fi : Sx) : Tg := fun x e h => match bnd fo (fun o => bnd fi fun i => fun _ h => match kSetD o i x h with
  | some h' => Rs.ok () h'
  | none => .bad) e h with
  | .ok _ h' => .ok e h'
  | _ => .bad
end Fw

set_option Elab.async false
set_option linter.all false
set_option maxRecDepth 100000
set_option maxHeartbeats 2000000
set_option autoImplicit false
namespace Fw
open PySem PySem.Spec L2
open PyProof.Rows hiding St
/-! ### sorted, a list of pairs of ints -/
def leP (a b : Int × Int) : Prop := a.1 < b.1 ∨ (a.1 = b.1 ∧ a.2 ≤ b.2)
instance (a b : Int × Int) : Decidable (leP a b) := by unfold leP; infer_instance
def insP (x : Int × Int) : List (Int × Int) → List (Int × Int)
  | [] => [x]
  | y :: ys => if leP x y then x :: y :: ys else y :: insP x ys
def srtP : List (Int × Int) → List (Int × Int)
  | [] => []
  | x :: xs => insP x (srtP xs)
theorem insP_perm (x : Int × Int) : ∀ ys, (insP x ys).Perm (x :: ys)
  | [] => .refl _
  | y :: ys => by
    unfold insP
    split
    · exact .refl _
    · exact ((insP_perm x ys).cons y).trans (.swap x y ys)
theorem srtP_perm : ∀ xs, (srtP xs).Perm xs
  | [] => .refl _
  | x :: xs => (insP_perm x _).trans ((srtP_perm xs).cons x)
theorem leP_trans {a b c : Int × Int} (h : leP a b) (h2 : leP b c) : leP a c := by unfold leP at *; omega
theorem insP_sorted (x : Int × Int) : ∀ ys : List (Int × Int), ys.Pairwise leP → (insP x ys).Pairwise leP
  | [], _ => .cons (by simp) .nil
  | y :: ys, h => by
    unfold insP
    split
    · rename_i c
      refine .cons (fun z hz => ?_) h
      rcases List.mem_cons.mp hz with rfl | hz
      · exact c
      · exact leP_trans c ((List.pairwise_cons.mp h).1 z hz)
    · rename_i c
      refine .cons (fun z hz => ?_) (insP_sorted x ys (List.pairwise_cons.mp h).2)
      have hz' := (insP_perm x ys).mem_iff.mp hz
      rcases List.mem_cons.mp hz' with rfl | hz'
      · unfold leP at *; omega
      · exact (List.pairwise_cons.mp h).1 z hz'
theorem srtP_sorted : ∀ xs : List (Int × Int), (srtP xs).Pairwise leP
  | [] => .nil
  | x :: xs => insP_sorted x _ (srtP_sorted xs)
theorem sortedP_one {a b : List (Int × Int)} (p : a.Perm b) (ha : a.Pairwise leP) (hb : b.Pairwise leP) : a = b := p.eq_of_pairwise (fun x y _ _ h1 h2 => by
  unfold leP at *
  exact Prod.ext (by omega) (by omega)) ha hb
/-- these values are these pairs -/
inductive Prs (K : PySem.W.Frag) (H : Hp) : List V → List (Int × Int) → Prop
  | nil : Prs K H [] []
  | cons {t : Addr} {i j : Int} {xs : List V} {ps : List (Int × Int)} : SqD K H t [.int i, .int j] → Prs K H xs ps → Prs K H (.ref t :: xs) ((i, j) :: ps)
theorem Prs.mem {K : PySem.W.Frag} {H : Hp} : ∀ {xs : List V} {ps : List (Int × Int)}, Prs K H xs ps → ∀ x ∈ xs, ∃ t i j, x = V.ref t ∧ SqD K H t [.int i, .int j]
  | _, _, .nil, x, m => by simp at m
  | _, _, .cons h r, x, m => by
    rcases List.mem_cons.mp m with rfl | m
    · exact ⟨_, _, _, rfl, h⟩
    · exact Prs.mem r x m
theorem Prs.key {K : PySem.W.Frag} {H : Hp} {k : V → Int × Int} (hk : ∀ t i j, SqD K H t [.int i, .int j] → k (.ref t) = (i, j)) : ∀ {xs : List V} {ps : List (Int × Int)}, Prs K H xs ps → ps = xs.map k
  | _, _, .nil => rfl
  | _, _, .cons h r => by rw [List.map_cons, hk _ _ _ h, ← Prs.key hk r]
theorem Prs.of_key {K : PySem.W.Frag} {H : Hp} {k : V → Int × Int} (hk : ∀ t i j, SqD K H t [.int i, .int j] → k (.ref t) = (i, j)) : ∀ {xs : List V}, (∀ x ∈ xs, ∃ t i j, x = V.ref t ∧ SqD K H t [.int i, .int j]) → Prs K H xs (xs.map k)
  | [], _ => .nil
  | x :: xs, h => by
    obtain ⟨t, i, j, rfl, q⟩ := h x List.mem_cons_self
    rw [List.map_cons, hk t i j q]
    exact .cons q (Prs.of_key hk fun y m => h y (List.mem_cons_of_mem _ m))
def rSortedPT (K : PySem.W.Frag) : List V → Hp → VK → Prop := fun vs H Q => ∃ (a : Addr) (xs : List V) (ps : List (Int × Int)), vs = [V.ref a] ∧ SqL K H a xs ∧ Prs K H xs ps ∧
  ∀ ys p, Prs K H ys (srtP ps) → ys.length = xs.length → H p = none → Q (.ref p) (upd H p (.lst ys))
theorem cr_sortedPT {X : Cx} : CallR X (.builtin "sorted") (rSortedPT X.K) := by
  intro pins s σ H vs us Q I r h
  obtain ⟨a, xs, ps, rfl, hs, hx, q⟩ := h
  obtain ⟨its, rv, hl, hz⟩ := I.list hs
  obtain ⟨u, rfl, ru⟩ := vals1 r
  obtain rfl : u = Value.ref a := ru
  have hm := hx.mem
  let k : V → Int × Int := fun x => Classical.epsilon fun ij => ∃ t, x = V.ref t ∧ SqD X.K H t [.int ij.1, .int ij.2]
  have hk : ∀ t i j, SqD X.K H t [.int i, .int j] → k (.ref t) = (i, j) := fun t i j h => by
    have e : ∃ t', V.ref t = V.ref t' ∧ SqD X.K H t' [.int (k (.ref t)).1, .int (k (.ref t)).2] := Classical.epsilon_spec (p := fun ij : Int × Int => ∃ t', V.ref t = V.ref t' ∧ SqD X.K H t' [.int ij.1, .int ij.2]) ⟨(i, j), t, rfl, h⟩
    obtain ⟨t', e1, e2⟩ := e
    cases e1
    have := I.tuple_inj e2.sq h.sq
    simp at this
    exact Prod.ext this.1 this.2
  obtain ⟨e1, e2⟩ := refs_back rv fun x m => by
    obtain ⟨t, i, j, e, _⟩ := hm x m
    exact ⟨t, e⟩
  refine SrtO.sorted_pairsO (k := fun u => k (backV u)) hl.isList (by rw [← rv.length]; exact hz) (fun v hv => ?_) fun h' d out h1 h2 kp hd hn => ?_
  · obtain ⟨t, rfl⟩ := e2 v hv
    have hmm : V.ref t ∈ xs := by rw [e1]; exact List.mem_map.mpr ⟨_, hv, rfl⟩
    obtain ⟨t', i, j, e, ht⟩ := hm _ hmm
    cases e
    obtain ⟨its2, r2, ⟨o, ho, hc, n, hd⟩, _⟩ := I.tuple ht.sq
    obtain ⟨u1, u2, rfl, ri, rj⟩ := vals2 r2
    obtain ⟨t1, rfl⟩ := ri
    obtain ⟨t2, rfl⟩ := rj
    have kk : k (backV (Value.ref t)) = (i, j) := hk t i j ht
    refine ⟨t, o, t1, t2, n, rfl, ho, hc, ?_⟩
    rw [kk]
    exact hd
  · have h3 : ∀ u ∈ out, ∃ a, u = Value.ref a := fun u hu => e2 u (h2.perm.mem_iff.mp hu)
    obtain ⟨n, hn⟩ := hn
    have hb : SrtO.Stb (ltP k) (out.map backV) xs := by
      rw [e1]
      exact SrtO.Stb.map (ltP_swo k) backV h2
    have so := SrtO.srtd_map h1
    have hy : ∀ x ∈ out.map backV, ∃ t i j, x = V.ref t ∧ SqD X.K H t [.int i, .int j] := fun x m => hm x (hb.perm.mem_iff.mp m)
    have pk := Prs.of_key hk hy
    have ek : (out.map backV).map k = srtP ps := by
      refine sortedP_one ?_ ?_ (srtP_sorted ps)
      · rw [hx.key hk]
        exact (hb.perm.map k).trans (srtP_perm _).symm
      · refine List.pairwise_map.mpr (List.pairwise_map.mpr ?_)
        refine List.Pairwise.imp (R := fun x y => SrtO.lexB (k (backV y)) (k (backV x)) = false) (fun {x y} h => ?_) h1
        have := SrtO.lexB_no.mp h
        show leP (k (backV x)) (k (backV y))
        unfold leP
        omega
    rw [ek] at pk
    refine ⟨.ref d, upd H d (.lst (out.map backV)), I.laid (t' := s.toks) kp hd ⟨?_, out, n, vals_back h3, hn⟩, rfl, q _ d pk hb.len (I.hok.fresh hd)⟩
    rw [hb.len]
    exact hz
def pairA : Va → Option (Int × Int)
  | .tup [.int i, .int j] => some (i, j)
  | _ => none
def pairV (p : Int × Int) : Va := .tup [.int p.1, .int p.2]
theorem pairA_of {x : Va} {p : Int × Int} (e : pairA x = some p) : x = pairV p := by
  unfold pairA at e
  split at e
  · cases e; rfl
  · cases e
theorem prs_of {C : Ct} {ρ : List Addr} {H : Hp} : ∀ {xs : List Va} {vs : List V} {ps : List (Int × Int)}, RpL C ρ H xs vs → mapO pairA xs = some ps → Prs C.K H vs ps
  | _, _, _, .nil, e => by cases e; exact .nil
  | _, _, _, .cons (x := x) (xs := xs) r rs, e => by
    unfold mapO at e
    split at e
    · rename_i y ys h1 h2
      cases e
      have := pairA_of h1
      subst this
      cases r with
      | tup hq rl =>
        cases rl with
        | cons r1 r2 => cases r2 with
          | cons r3 r4 =>
            cases r4; cases r1; cases r3
            exact .cons hq (prs_of rs h2)
    · cases e
theorem rp_prs {C : Ct} {ρ : List Addr} {H : Hp} : ∀ {vs : List V} {ps : List (Int × Int)}, Prs C.K H vs ps → RpL C ρ H (ps.map pairV) vs
  | _, _, .nil => .nil
  | _, _, .cons h r => .cons (.tup h (.cons (.int _) (.cons (.int _) .nil))) (rp_prs r)
def kSrtP : List Va → Hs → Rs Va := fun xs h => match xs with
  | [x] => match (lsA x h).bind (mapO pairA) with
    | some ps => newL ((srtP ps).map pairV) h
    | none => .bad
  | _ => .bad
theorem cs_srtP {X : Cx} : CaK X (.builtin "sorted") kSrtP := ⟨_, cr_sortedPT, by
  intro ρ H h xs vs W Q hr r p
  unfold kSrtP at p
  split at p
  · rename_i x
    obtain ⟨v, rfl, rv⟩ := one_arg r rfl
    cases e : lsA x h with
    | none => rw [e] at p; exact p.elim
    | some ys =>
      obtain ⟨a, us, rfl, hq, rl⟩ := lsA_of hr rv e
      rw [e] at p
      cases e2 : mapO pairA ys with
      | none => simp only [Option.bind_some, e2] at p; exact p.elim
      | some ps =>
        simp only [Option.bind_some, e2] at p
        exact ⟨a, us, ps, rfl, hq, prs_of rl e2, fun zs q pz _ hq' => (newL_of hr (rp_prs pz) p).2 q hq'⟩
  · exact p.elim⟩
end Fw

set_option Elab.async false
set_option linter.all false
set_option maxRecDepth 100000
set_option maxHeartbeats 2000000
set_option autoImplicit false
namespace Fw
open PySem PySem.Spec L2
open PyProof.Rows hiding St
/-! ### x in s -/
def flA : Va → Bool
  | .non => true
  | .bl _ => true
  | .int _ => true
  | .str _ => true
  | _ => false
def eqA : Va → Va → Bool
  | .non, .non => true
  | .bl a, .bl b => a == b
  | .bl a, .int b => (if a then 1 else 0) == b
  | .int a, .bl b => a == (if b then 1 else 0)
  | .int a, .int b => a == b
  | .str a, .str b => decide (a = b)
  | _, _ => false
def inA (x : Va) (xs : List Va) : Bool := xs.any fun y => eqA y x
def inS (x z : List Nat) : Bool := match x with
  | [c] => decide (c ∈ z)
  | x => !(Builtin.Str.occurrences ⟨z.toArray⟩ ⟨x.toArray⟩ 0 (⟨z.toArray⟩ : Str).length 1).isEmpty
def ngB (neg b : Bool) : Bool := if neg then !b else b
def kInQ (neg : Bool) (x : Va) (xs : List Va) (h : Hs) : Rs Va := if flA x = true ∧ xs.all flA = true then .ok (.bl (ngB neg (inA x xs))) h else .bad
def kInD (neg : Bool) (x y : Va) (h : Hs) : Rs Va := match rdV h 24 x, rdV h 24 y with
  | some d, some (.list ds) => if SeqAt.shaped d = true ∧ SeqAt.shaped (.list ds) = true then .ok (.bl (ngB neg (ds.any fun z => PyData.eqv z d))) h else .bad
  | _, _ => .bad
def kIn (neg : Bool) : Va → Va → Hs → Rs Va
  | .str x, .str z => fun h => .ok (.bl (ngB neg (inS x z))) h
  | x, .tup xs => kInQ neg x xs
  | x, .tpw xs => kInQ neg x xs
  | x, .ros xs => kInQ neg x xs
  | x, .loc n => fun h => match h[n]? with
    | some (.lst xs) => if flA x = true ∧ xs.all flA = true then kInQ neg x xs h else kInD neg x (.loc n) h
    | _ => .bad
  | _, _ => fun _ => .bad
section
variable {C : Ct} {ρ : List Addr} {H : Hp}
theorem flA_V {x : Va} {v : V} (r : Rp C ρ H x v) (f : flA x = true) : flatV v = true := by cases r <;> first | rfl | cases f
theorem flA_all : ∀ {xs : List Va} {vs : List V}, RpL C ρ H xs vs → xs.all flA = true → vs.all flatV = true
  | _, _, .nil, _ => rfl
  | _, _, .cons r rs, f => by
    rw [List.all_cons, Bool.and_eq_true] at f ⊢
    exact ⟨flA_V r f.1, flA_all rs f.2⟩
theorem strEqV (a b : List Nat) : ((⟨a.toArray⟩ : Str) == ⟨b.toArray⟩) = decide (a = b) := by
  by_cases e : a = b
  · subst e; simp
  · rw [decide_eq_false e]
    rw [beq_eq_false_iff_ne]
    intro q
    injection q with q
    exact e (by simpa using congrArg Array.toList q)
theorem eqA_V {x y : Va} {v u : V} (rx : Rp C ρ H x v) (ry : Rp C ρ H y u) (fx : flA x = true) (fy : flA y = true) : eqV v u = eqA x y := by
  cases rx <;> cases ry <;> first
    | rfl
    | exact strEqV _ _
    | cases fx
    | cases fy
theorem inA_V {x : Va} {v : V} (rx : Rp C ρ H x v) (fx : flA x = true) : ∀ {xs : List Va} {vs : List V}, RpL C ρ H xs vs → xs.all flA = true → inV v vs = inA x xs
  | _, _, .nil, _ => rfl
  | _, _, .cons r rs, f => by
    rw [List.all_cons, Bool.and_eq_true] at f
    have ih := inA_V rx fx rs f.2
    unfold inV at ih ⊢
    unfold inA at ih ⊢
    rw [List.any_cons, List.any_cons, eqA_V r rx f.1 fx, ih]
end
theorem units5 {k : Nat} {A : Around} (r : Room k A) : A.units + 65 < cLine := by have := r.un; omega
section
variable {X : Cx}
def rInAll (K : PySem.W.Frag) (neg : Bool) : R2 := fun x y H Q =>
  (∃ (c : Nat) (z : Str), x = .str ⟨#[c]⟩ ∧ y = .str z ∧ Q (.bl (ngB neg (decide (c ∈ z.cps.toList)))) H) ∨
  (∃ i j, x = .str i ∧ y = .str j ∧ Q (.bl (ngB neg (!(Builtin.Str.occurrences j i 0 j.length 1).isEmpty))) H) ∨ rIn K neg x y H Q ∨
  (∃ d ds, Dp K H x d ∧ Dp K H y (.list ds) ∧ SeqAt.shaped d = true ∧ SeqAt.shaped (.list ds) = true ∧ Q (.bl (ngB neg (ds.any fun z => PyData.eqv z d))) H)
theorem vIn {neg : Bool} : VOp (ctOf X) (rInAll X.K neg) (kIn neg) := by
  intro ρ H h x y v u W Q hr rx ry p
  have qq : ∀ {xs : List Va} {vs : List V} {q : Addr}, (SqL X.K H q vs ∨ SqT X.K H q vs) → RpL (ctOf X) ρ H xs vs → u = .ref q → Po (ctOf X) (Rp (ctOf X)) W Q ρ H (kInQ neg x xs h) → rInAll X.K neg v u H Q := by
    intro xs vs q hq rl hu p
    unfold kInQ at p
    split at p
    · rename_i c
      refine .inr (.inr (.inl ⟨q, vs, hu, hq, flA_V rx c.1, flA_all rl c.2, ?_⟩))
      rw [inA_V rx c.1 rl c.2]
      exact Po_ok p hr (.bl _)
    · exact p.elim
  cases ry with
  | str z =>
    cases rx with
    | str s =>
      have p : Po (ctOf X) (Rp (ctOf X)) W Q ρ H (.ok (.bl (ngB neg (inS s z))) h) := p
      have gen : inS s z = !(Builtin.Str.occurrences ⟨z.toArray⟩ ⟨s.toArray⟩ 0 (⟨z.toArray⟩ : Str).length 1).isEmpty → rInAll X.K neg (.str ⟨s.toArray⟩) (.str ⟨z.toArray⟩) H Q := fun e => by
        refine .inr (.inl ⟨_, _, rfl, rfl, ?_⟩)
        rw [← e]
        exact Po_ok p hr (.bl _)
      match s with
      | [c] => exact .inl ⟨c, _, rfl, rfl, Po_ok p hr (.bl _)⟩
      | [] => exact gen rfl
      | _ :: _ :: _ => exact gen rfl
    | _ => exact p.elim
  | tup hq rl => cases x <;> exact qq (.inr hq.sq) rl rfl p
  | tpw hq rl => cases x <;> exact qq (.inr hq) rl rfl p
  | ros hq rl => cases x <;> exact qq (.inl hq.sq) rl rfl p
  | loc hq =>
    rename_i m a
    have p : Po (ctOf X) (Rp (ctOf X)) W Q ρ H (match h[m]? with
      | some (.lst xs) => if flA x = true ∧ xs.all flA = true then kInQ neg x xs h else kInD neg x (.loc m) h
      | _ => .bad) := by cases x <;> exact p
    split at p
    · rename_i xs hm
      obtain ⟨a', vs, e1, e2, e3, e4⟩ := hr.ls_ hm (.loc hq)
      cases e1
      split at p
      · exact qq (.inl (SqL.of e3)) e4 rfl p
      · unfold kInD at p
        split at p
        · rename_i d ds hd he
          split at p
          · rename_i c
            exact .inr (.inr (.inr ⟨d, ds, rdV_dp hr 24 x v d rx hd, rdV_dp hr 24 (.loc m) _ (.list ds) (.loc hq) he, c.1, c.2, Po_ok p hr (.bl _)⟩))
          · exact p.elim
        · exact p.elim
    · exact p.elim
  | non => cases x <;> exact p.elim
  | bl b => cases x <;> exact p.elim
  | int i => cases x <;> exact p.elim
  | fn q => cases x <;> exact p.elim
  | ty n => cases x <;> exact p.elim
  | rg _ => cases x <;> exact p.elim
theorem ks_in (hu : X.A.units + 64 < cLine) (hu' : X.A.units + 65 < cLine) : OpK X (compareOp .In) (kIn false) := ⟨_, OpR.or op_in_sign (OpR.or op_in_str (OpR.or op_in_seq (op_inD hu'))), vIn (neg := false)⟩
end
end Fw

set_option Elab.async false
set_option linter.all false
set_option maxRecDepth 100000
set_option maxHeartbeats 2000000
set_option autoImplicit false
namespace Fw
open PySem PySem.Spec L2
open PyProof.Rows hiding St
/-! ### texts and tuples said several times -/
def kMulT : Va → Va → Hs → Rs Va
  | .str x, .int j => fun h => if 0 ≤ j ∧ j ≤ 1000000 ∧ x.length * j.toNat ≤ 16777216 then .ok (.str (List.replicate j.toNat x).flatten) h else .bad
  | .tup xs, .int j => fun h => if xs ≠ [] ∧ 2 ≤ j ∧ j ≤ 1000 ∧ xs.length ≤ 1000 then .ok (.tpw (List.replicate j.toNat xs).flatten) h else .bad
  | _, _ => fun _ => .bad
def kMulS : Va → Va → Hs → Rs Va
  | .str x, y => kMulT (.str x) y
  | .tup xs, y => kMulT (.tup xs) y
  | x, y => kMul x y
end Fw

set_option Elab.async false
set_option linter.all false
set_option maxRecDepth 100000
set_option maxHeartbeats 2000000
set_option autoImplicit false
namespace Fw
open PySem PySem.Spec L2
open PyProof.Rows hiding St
/-! ### tuples of constants among the module's names -/
/-! ### x in d -/
def kInDc (neg : Bool) : Va → Va → Hs → Rs Va
  | x, .loc n => fun h => match h[n]? with
    | some (.dct kvs) => match keyA x with
      | some k => .ok (.bl (ngB neg (dGet kvs k).isSome)) h
      | none => .bad
    | _ => .bad
  | _, _ => fun _ => .bad
def kInX (neg : Bool) (x y : Va) (h : Hs) : Rs Va := match y with
  | .loc n => match h[n]? with
    | some (.dct _) => kInDc neg x (.loc n) h
    | _ => kIn neg x (.loc n) h
  | y => kIn neg x y h
section
variable {X : Cx}
end
end Fw

set_option Elab.async false
set_option linter.all false
set_option maxRecDepth 100000
set_option maxHeartbeats 2000000
set_option autoImplicit false
namespace Fw
open PySem PySem.Spec L2
open PyProof.Rows hiding St
section
variable {X : Cx}
end
end Fw

set_option Elab.async false
set_option linter.all false
set_option maxRecDepth 100000
set_option maxHeartbeats 2000000
set_option autoImplicit false
namespace Fw
open PySem PySem.Spec L2
open PyProof.Rows hiding St
/-! ### a op b op' c op'' d -/
def sCh3 (k k' k'' : Va → Va → Hs → Rs Va) (a b c d : Sx) : Sx := bnd a fun x => bnd b fun y => bnd (vl (k x y)) fun z => byB (asB z) (bnd c fun w => bnd (vl (k' y w)) fun z2 => byB (asB z2) (bnd d fun u => vl (k'' w u)) (sK (.bl false))) (sK (.bl false))
def tChain3 (r r' r'' : R2) (ta tb tc td : TE) : TE := fun σ H Q => ta σ H fun x H1 => tb σ H1 fun y H2 => r x y H2 fun z H3 => ∃ k, z = .bl k ∧
  (if k = true then tc σ H3 fun w H4 => r' y w H4 fun z2 H5 => ∃ k2, z2 = .bl k2 ∧ (if k2 = true then td σ H5 fun u H6 => r'' w u H6 Q else Q (.bl false) H5) else Q (.bl false) H3)
section
variable {X : Cx} {W : WX} {a b c d : Expr} {fa fb fc fd : Sx} {ta tb tc td : TE} {pos : Pos}
theorem pe_chain3 {op op' op'' : CmpOp} {r r' r'' : R2} (ho : OpR X (compareOp op) r) (ho' : OpR X (compareOp op') r') (ho'' : OpR X (compareOp op'') r'') (ha : PE X a ta) (hb : PE X b tb) (hc : PE X c tc) (hd : PE X d td)
    (hm : lastMarks [op, op', op''] [b, c, d] = false := by with_unfolding_all rfl) : PE X (.Compare a [op, op', op''] [b, c, d] pos) (tChain3 r r' r'' ta tb tc td) := by
  refine ⟨fun pins s σ H Q I h => ?_⟩
  refine Compare_chain (thn (ha.run pins s σ H _ I h) fun v s1 ⟨x, H1, I1, r1, q1⟩ => chain_link (thn (hb.run pins s1 σ H1 _ I1 q1) fun u s2 ⟨y, H2, I2, r2, q2⟩ =>
    thn (ho pins s2 σ H2 x y v u _ I2 r1 r2 q2) fun e s3 ⟨z, H3, I3, r3, k, e', q3⟩ => ?_)) hm
  subst e'
  cases r3
  refine wpAny_truthy_bool ?_
  cases k with
  | false => exact ite_ff ⟨.bl false, H3, I3, rfl, q3⟩
  | true =>
    refine ite_tt (chain_link (thn (hc.run pins s3 σ H3 _ I3 q3) fun w' s4 ⟨w, H4, I4, r4, q4⟩ => thn (ho' pins s4 σ H4 y w u w' _ I4 r2 r4 q4) fun e2 s5 ⟨z2, H5, I5, r5, k2, e5, q5⟩ => ?_))
    subst e5
    cases r5
    refine wpAny_truthy_bool ?_
    cases k2 with
    | false => exact ite_ff ⟨.bl false, H5, I5, rfl, q5⟩
    | true => exact ite_tt (chain_last (thn (hd.run pins s5 σ H5 _ I5 q5) fun v' s6 ⟨v6, H6, I6, r6, q6⟩ => ho'' pins s6 σ H6 w v6 w' v' Q I6 r4 r6 q6))
theorem tCh3_of {r r' r'' : R2} {k k' k'' : Va → Va → Hs → Rs Va} (h1 : VOp (ctOf X) r k) (h2 : VOp (ctOf X) r' k') (h3 : VOp (ctOf X) r'' k'') : ∀ σ H Q, tE (ctOf X) W (sCh3 k k' k'' fa fb fc fd) σ H Q → tChain3 r r' r'' (tE (ctOf X) W fa) (tE (ctOf X) W fb) (tE (ctOf X) W fc) (tE (ctOf X) W fd) σ H Q := fun σ H Q h =>
  tX_bnd h fun ρ H1 e hh1 x v hs hr rv p => Po_bnd hs hr p fun ρ2 H2 hh2 y u e2 hs2 hr2 ru p2 => by
    refine h1 ρ2 H2 hh2 x y v u (fun c d H' => W c d σ H') _ hr2 (rv.mono e2) ru ?_
    have p2 : Po _ _ _ _ _ _ (bnd (vl (k x y)) (fun z => byB (asB z) (bnd fc fun w => bnd (vl (k' y w)) fun z2 => byB (asB z2) (bnd fd fun u => vl (k'' w u)) (sK (.bl false))) (sK (.bl false))) e hh2) := p2
    unfold bnd vl at p2
    cases q : k x y hh2 with
    | ok z h3' =>
      rw [q] at p2
      intro ρ3 H3 w e3 hr3 rw_
      have p3 := Po.mono e3 p2
      have hs3 := hs2.mono e3
      rcases byB_cases p3 with ⟨rfl, p3⟩ | ⟨rfl, p3⟩
      · cases rw_
        refine ⟨true, rfl, iteT (Po_bnd (k := fun w => bnd (vl (k' y w)) fun z2 => byB (asB z2) (bnd fd fun u => vl (k'' w u)) (sK (.bl false))) hs3 hr3 p3 fun ρ4 H4 h4 w' w e4 hs4 hr4 r4 p4 => ?_)⟩
        refine h2 ρ4 H4 h4 y w' u w (fun c d H' => W c d σ H') _ hr4 ((ru.mono e3).mono e4) r4 ?_
        have p4 : Po _ _ _ _ _ _ (bnd (vl (k' y w')) (fun z2 => byB (asB z2) (bnd fd fun u => vl (k'' w' u)) (sK (.bl false))) e h4) := p4
        unfold bnd vl at p4
        cases q4 : k' y w' h4 with
        | ok z2 h5 =>
          rw [q4] at p4
          intro ρ5 H5 w5 e5 hr5 rw5
          have p5 := Po.mono e5 p4
          have hs5 := hs4.mono e5
          rcases byB_cases p5 with ⟨rfl, p5⟩ | ⟨rfl, p5⟩
          · cases rw5
            refine ⟨true, rfl, iteT (Po_bnd (k := fun u => vl (k'' w' u)) hs5 hr5 p5 fun ρ6 H6 h6 u' w6 e6 hs6 hr6 r6 p6 => ?_)⟩
            exact h3 ρ6 H6 h6 w' u' w w6 _ Q hr6 ((r4.mono e5).mono e6) r6 p6
          · cases rw5
            exact ⟨false, rfl, iteF (Po_ok p5 hr5 (.bl _))⟩
        | ex z h5 => rw [q4] at p4; exact p4
        | bad => rw [q4] at p4; exact p4
      · cases rw_
        exact ⟨false, rfl, iteF (Po_ok p3 hr3 (.bl _))⟩
    | ex z h3 => rw [q] at p2; exact p2
    | bad => rw [q] at p2; exact p2
theorem se_ch3 {op op' op'' : CmpOp} {k k' k'' : Va → Va → Hs → Rs Va} (ho : OpK X (compareOp op) k) (ho' : OpK X (compareOp op') k') (ho'' : OpK X (compareOp op'') k'') (ha : PE X a (tE (ctOf X) W fa)) (hb : PE X b (tE (ctOf X) W fb)) (hc : PE X c (tE (ctOf X) W fc)) (hd : PE X d (tE (ctOf X) W fd))
    (hm : lastMarks [op, op', op''] [b, c, d] = false := by with_unfolding_all rfl) : PE X (.Compare a [op, op', op''] [b, c, d] pos) (tE (ctOf X) W (sCh3 k k' k'' fa fb fc fd)) := by
  obtain ⟨r, h1, h2⟩ := ho
  obtain ⟨r', h1', h2'⟩ := ho'
  obtain ⟨r'', h1'', h2''⟩ := ho''
  exact pe_of (pe_chain3 h1 h1' h1'' ha hb hc hd hm) (tCh3_of h2 h2' h2'')
end
end Fw

set_option Elab.async false
set_option linter.all false
set_option maxRecDepth 100000
set_option maxHeartbeats 2000000
set_option autoImplicit false
namespace Fw
open PySem PySem.Spec L2
open PyProof.Rows hiding St
/-! ### range with a step -/
def srcC (lo c : Int) (n : Nat) : Src := fun i _ => if i < n then some (some (.int (lo + (i : Nat) * c))) else some none
theorem srcC_of {C : Ct} {ρ : List Addr} {H : Hp} {lo c : Int} {n : Nat} : SrcR C ρ H (srcC lo c n) (Itc lo c n) := by
  refine ⟨fun ρ1 H1 h1 i ex hr e => ?_, fun ρ1 H1 h1 i y ex hr e => ?_⟩
  · unfold srcC at e
    split at e
    · cases e
    · rename_i c
      exact Nat.le_of_not_lt c
  · unfold srcC at e
    split at e
    · rename_i c
      cases e
      refine ⟨c, fun v H2 ⟨q1, q2⟩ => ?_⟩
      subst q1 q2
      exact ⟨.refl, hr, .int _⟩
    · cases e
def sRg3 (f : Sm (List Va)) : Sit := bnd f fun xs _ h => match xs with
  | [.int i, .int j, .int c] => if (c ≠ 0 ∧ c.natAbs < 1073741824) ∧ Builtin.Range.small i j c = true ∧ 0 ≤ Builtin.Range.rangeSize i j c then .ok (srcC i c (Builtin.Range.rangeSize i j c).toNat, (Builtin.Range.rangeSize i j c).toNat) h else .bad
  | _ => .bad
section
variable {X : Cx} {W : WX} {tg a b c e : Expr} {fe : Sx} {fa : Sm (List Va)} {p pos : Pos}
theorem si_rg3 (hg : Gl X "range") (hm : X.mg "range" = none) (ha : PA X [a, b, c] (tAr (ctOf X) W fa)) (hs : starEach [a, b, c] X.env = (false, eval a X.env) :: starEach [b, c] X.env := by rfl) (hpl : (backTo pos (starEach [b, c] X.env)).any (·.1) = false := by rfl) : PI X tg (.Call (.Name "range" p) [a, b, c] [] pos) (tIt (ctOf X) W (sRg3 fa)) := pi_of (pi_range3 hg hm ha hs hpl) fun σ H Q h => tX_bnd h fun ρ H1 e h1 xs vs hs hr rv p => by
  split at p
  · split at p
    · rename_i i j c q
      cases rv with
      | cons r1 r2 => cases r1; cases r2 with
        | cons r2 r3 => cases r2; cases r3 with
          | cons r3 r4 =>
            cases r3; cases r4
            exact ⟨_, _, _, _, rfl, ⟨q.1.1, q.1.2, q.2.1, (Int.toNat_of_nonneg q.2.2).symm⟩, p ρ H1 _ .refl hr srcC_of⟩
    · exact p.elim
  · exact p.elim
end
/-! ### list(range(..)), tuple(range(..)) -/
def rgA (i j : Int) : List Va := (List.range (j - i).toNat).map fun k => Va.int (i + (k : Nat))
theorem rp_rg {C : Ct} {ρ : List Addr} {H : Hp} {f : Nat → Int} : ∀ l : List Nat, RpL C ρ H (l.map fun k => Va.int (f k)) (l.map fun k => V.int (f k))
  | [] => .nil
  | _ :: r => .cons (.int _) (rp_rg r)
def lnRg (i j : Int) : Prop := -(2 ^ 62) ≤ i ∧ i < 2 ^ 62 ∧ -(2 ^ 62) ≤ j ∧ j < 2 ^ 62 ∧ (j - i).toNat ≤ 2 ^ 24
instance (i j : Int) : Decidable (lnRg i j) := by unfold lnRg; infer_instance
def sLstRg1 (f : Sx) : Sx := bnd f fun x _ h => match x with
  | .int j => if lnRg 0 j then newL (rgA 0 j) h else .bad
  | _ => .bad
def sLstRg2 (f g : Sx) : Sx := bnd f fun x => bnd g fun y _ h => match x, y with
  | .int i, .int j => if lnRg i j then newL (rgA i j) h else .bad
  | _, _ => .bad
section
variable {X : Cx} {W : WX} {a b : Expr} {fa fb : Sx} {p pos p' pos' : Pos}
theorem se_lstRg2 (hc : X.calm = true) (hl : Gl X "list") (hml : X.mg "list" = none) (hg : Gl X "range") (hm : X.mg "range" = none) (ha : PE X a (tE (ctOf X) W fa)) (hb : PE X b (tE (ctOf X) W fb)) (na : starEach [a, b] X.env = (false, eval a X.env) :: starEach [b] X.env := by rfl)
    (nb : starEach [b] X.env = (false, eval b X.env) :: starEach [] X.env := by rfl) (hp : (backTo pos' (starEach [b] X.env)).any (·.1) = false := by rfl)
    (nr : starEach [.Call (.Name "range" p') [a, b] [] pos'] X.env = (false, eval (.Call (.Name "range" p') [a, b] [] pos') X.env) :: starEach [] X.env := by rfl) : PE X (.Call (.Name "list" p) [.Call (.Name "range" p') [a, b] [] pos'] [] pos) (tE (ctOf X) W (sLstRg2 fa fb)) :=
  pe_of (pe_listRg hc hl hml (prg_2 hg hm ha hb na nb hp) nr) fun σ H Q h => tX_bnd h fun ρ H1 e h1 x v hs hr rv p => Po_bnd hs hr p fun ρ2 H2 hh2 y u e2 hs2 hr2 ru p2 => by
    split at p2
    · split at p2
      · rename_i i j c
        cases rv
        cases ru
        exact ⟨_, _, rfl, rfl, c, (newL_of hr2 (rp_rg _) p2).2⟩
      · exact p2.elim
    · exact p2.elim
end
theorem rpL_to {C : Ct} {ρ : List Addr} {H : Hp} : ∀ {xs : List Va} {vs : List V}, RpL C ρ H xs vs → ∀ (j : Nat) (x : Va), xs[j]? = some x → ∃ z, vs[j]? = some z ∧ Rp C ρ H x z
  | _, _, .nil, j, x, e => by simp at e
  | _, _, .cons (v := v) r rs, 0, x, e => by
    simp at e
    subst e
    exact ⟨v, rfl, r⟩
  | _, _, .cons r rs, j + 1, x, e => rpL_to rs j x (by simpa using e)
end Fw

set_option Elab.async false
set_option linter.all false
set_option maxRecDepth 100000
set_option maxHeartbeats 2000000
set_option autoImplicit false
namespace Fw
open PySem PySem.Spec L2 PyProof
open PyProof.Rows hiding St
/-! ### o[i] op= e -/
section
variable {X : Cx} {W : WX}
end
end Fw

set_option Elab.async false
set_option linter.all false
set_option maxRecDepth 100000
set_option maxHeartbeats 2000000
set_option autoImplicit false
namespace Fw
open PySem PySem.Spec L2 RZ
open PyProof.Rows hiding St
/-! ### zip of two lists, of two tuples -/
def zip2 (xs ys : List Va) (i : Nat) : Option Va := match xs[i]?, ys[i]? with
  | some x, some y => some (.tpw [x, y])
  | _, _ => none
def srcZL (n m : Nat) : Src := fun i h => match h[n]?, h[m]? with
  | some (.lst xs), some (.lst ys) => some (zip2 xs ys i)
  | _, _ => none
def srcZV (xs ys : List Va) : Src := fun i _ => some (zip2 xs ys i)
theorem zip2_none {C : Ct} {ρ : List Addr} {H : Hp} {xs ys : List Va} {vs us : List V} (r : RpL C ρ H xs vs) (s : RpL C ρ H ys us) {i : Nat} (e : zip2 xs ys i = none) : vs.length ≤ i ∨ us.length ≤ i := by
  rw [← r.length, ← s.length]
  unfold zip2 at e
  split at e
  · cases e
  · rename_i h
    by_cases c : xs.length ≤ i
    · exact .inl c
    · by_cases d : ys.length ≤ i
      · exact .inr d
      · exact (h xs[i] ys[i] (List.getElem?_eq_getElem (by omega)) (List.getElem?_eq_getElem (by omega))).elim
theorem zip2_some {C : Ct} {ρ : List Addr} {H : Hp} {xs ys : List Va} {vs us : List V} (r : RpL C ρ H xs vs) (s : RpL C ρ H ys us) {i : Nat} {z : Va} (e : zip2 xs ys i = some z) : ∃ x y v u, z = .tpw [x, y] ∧ vs[i]? = some v ∧ us[i]? = some u ∧ Rp C ρ H x v ∧ Rp C ρ H y u := by
  unfold zip2 at e
  split at e
  · rename_i x y ex ey
    cases e
    obtain ⟨v, v1, v2⟩ := r.get ex
    obtain ⟨u, u1, u2⟩ := s.get ey
    exact ⟨x, y, v, u, rfl, v1, u1, v2, u2⟩
  · cases e
section
variable {C : Ct} {ρ : List Addr} {H : Hp}
theorem srcZL_of {n m : Nat} {a b : Addr} (ha : ρ[n]? = some a) (hb : ρ[m]? = some b) : SrcR C ρ H (srcZL n m) (Itz C.K a b) := by
  have look : ∀ {ρ1 H1 h1 i r}, Ext C ρ H ρ1 H1 → HR C ρ1 h1 H1 → srcZL n m i h1 = some r → ∃ xs vs ys us, H1 a = some (.lst vs) ∧ RpL C ρ1 H1 xs vs ∧ H1 b = some (.lst us) ∧ RpL C ρ1 H1 ys us ∧ zip2 xs ys i = r := fun {ρ1 H1 h1 i r} ex hr e => by
    unfold srcZL at e
    split at e
    · rename_i xs ys hn hm
      obtain ⟨vs, e1, e2⟩ := hr.ob n _ a hn (ex.pre n a ha)
      obtain ⟨us, f1, f2⟩ := hr.ob m _ b hm (ex.pre m b hb)
      exact ⟨xs, vs, ys, us, e1, e2, f1, f2, Option.some.inj e⟩
    · cases e
  refine ⟨fun ρ1 H1 h1 i ex hr e => ?_, fun ρ1 H1 h1 i x ex hr e => ?_⟩
  · obtain ⟨xs, vs, ys, us, e1, e2, f1, f2, e3⟩ := look ex hr e
    exact ⟨vs, us, SqL.of e1, SqL.of f1, zip2_none e2 f2 e3⟩
  · obtain ⟨xs, vs, ys, us, e1, e2, f1, f2, e3⟩ := look ex hr e
    obtain ⟨x0, y0, v0, u0, rfl, g1, g2, g3, g4⟩ := zip2_some e2 f2 e3
    refine ⟨⟨vs, us, v0, u0, SqL.of e1, SqL.of f1, g1, g2⟩, fun v' H2 ⟨T, x, y, q1, q2, q3, q4, q5⟩ => ?_⟩
    subst q1 q3
    have a1 := q4 vs (SqL.of e1)
    have a2 := q5 us (SqL.of f1)
    rw [g1] at a1
    rw [g2] at a2
    cases a1
    cases a2
    have en := ext_new (C := C) (ρ := ρ1) (o := .tup [v0, u0]) q2
    exact ⟨en, hr.tup_ q2, .tpw (SqT.of upd_same) (.cons (g3.mono en) (.cons (g4.mono en) .nil))⟩
theorem srcZV_of {xs ys : List Va} {a b : Addr} (ra : Rp C ρ H (.tup xs) (.ref a)) (rb : Rp C ρ H (.tup ys) (.ref b)) : SrcR C ρ H (srcZV xs ys) (ItzT C.K a b) := by
  refine ⟨fun ρ1 H1 h1 i ex hr e => ?_, fun ρ1 H1 h1 i x ex hr e => ?_⟩
  · cases ra.mono ex with
    | tup hq rl => cases rb.mono ex with
      | tup hq2 rl2 => exact ⟨_, _, hq.sq, hq2.sq, zip2_none rl rl2 (Option.some.inj e)⟩
  · cases ra.mono ex with
    | tup hq rl => cases rb.mono ex with
      | tup hq2 rl2 =>
        obtain ⟨x0, y0, v0, u0, rfl, g1, g2, g3, g4⟩ := zip2_some rl rl2 (Option.some.inj e)
        refine ⟨⟨_, _, v0, u0, hq.sq, hq2.sq, g1, g2⟩, fun v' H2 ⟨T, x, y, q1, q2, q3, q4, q5⟩ => ?_⟩
        subst q1 q3
        have a1 := q4 _ hq.sq
        have a2 := q5 _ hq2.sq
        rw [g1] at a1
        rw [g2] at a2
        cases a1
        cases a2
        have en := ext_new (C := C) (ρ := ρ1) (o := .tup [v0, u0]) q2
        exact ⟨en, hr.tup_ q2, .tpw (SqT.of upd_same) (.cons (g3.mono en) (.cons (g4.mono en) .nil))⟩
end
def sZip (f : Sm (List Va)) : Sit := bnd f fun xs _ h => match xs with
  | [.loc n, .loc m] => match h[n]?, h[m]? with
    | some (.lst xs), some (.lst ys) => .ok (srcZL n m, min xs.length ys.length) h
    | _, _ => .bad
  | [.tup xs, .tup ys] => .ok (srcZV xs ys, min xs.length ys.length) h
  | _ => .bad
theorem si_zip {X : Cx} {W : WX} {a b : Expr} {fa : Sm (List Va)} {p pos : Pos} {elts : List Expr} {kk : Nat} {tpos : Pos} (hg : Gl X "zip") (hm : X.mg "zip" = none) (ha : PA X [a, b] (tAr (ctOf X) W fa)) (hs : starEach [a, b] X.env = (false, eval a X.env) :: starEach [b] X.env := by rfl) (hpl : (backTo pos (starEach [b] X.env)).any (·.1) = false := by rfl) :
    PI X (.Tuple elts kk tpos) (.Call (.Name "zip" p) [a, b] [] pos) (tIt (ctOf X) W (sZip fa)) := pi_of (pi_zipA hg hm ha hs hpl) fun σ H Q h => tX_bnd h fun ρ H1 e h1 xs vs hs hr rv p => by
  split at p
  · rename_i n m
    split at p
    · rename_i ys zs hn hm
      cases rv with
      | cons r1 r2 => cases r2 with
        | cons r2 r3 =>
          cases r3
          obtain ⟨a, us, rfl, ha, hl, rl⟩ := hr.ls_ hn r1
          obtain ⟨b, ws, rfl, hb, hl2, rl2⟩ := hr.ls_ hm r2
          exact ⟨a, b, us, ws, rfl, .inl ⟨SqL.of hl, SqL.of hl2, p ρ H1 _ .refl hr (srcZL_of ha hb)⟩⟩
    · exact p.elim
  · rename_i ys zs
    cases rv with
    | cons r1 r2 => cases r2 with
      | cons r2 r3 =>
        cases r3
        cases r1 with
        | tup hq rl => cases r2 with
          | tup hq2 rl2 => exact ⟨_, _, _, _, rfl, .inr ⟨hq.sq, hq2.sq, p ρ H1 _ .refl hr (srcZV_of (.tup hq rl) (.tup hq2 rl2))⟩⟩
  · exact p.elim
end Fw

set_option Elab.async false
set_option linter.all false
set_option maxRecDepth 100000
set_option maxHeartbeats 2000000
set_option autoImplicit false
namespace Fw
open PySem PySem.Spec L2
open PyProof.Rows hiding St
/-! ### a text by a start and a step of 2 -/
def stpS (z : List Nat) (i : Int) : List Nat := (Builtin.Str.strSliceIndices (some i) none 2 z.length).filterMap (z[·]?)
def kStp2 : Va → Va → Hs → Rs Va
  | .str z, .int i => fun h => if (stpS z i).length ≤ 16777216 then .ok (.str (stpS z i)) h else .bad
  | _, _ => fun _ => .bad
def tStpS (te tl : TE) : TE := fun σ H Q => te σ H fun x H1 => tPart tl σ H1 fun o H2 => ∃ (z : Str) (i : Int), x = .str z ∧ o = some i ∧ (stpS z.cps.toList i).length ≤ sizeLine ∧ Q (.str ⟨(stpS z.cps.toList i).toArray⟩) H2
theorem pe_stpS {X : Cx} {e lo : Expr} {te tl : TE} {k : Nat} {p1 p3 pos : Pos} (he : PE X e te) (hl : PE X lo tl) : PE X (.Subscript e (.Slice (some lo) none (some (.Constant (.int 2) k p1)) p3) pos) (tStpS te tl) := by
  refine ⟨fun pins s σ H Q I h => ?_⟩
  refine Subscript_ (thn (he.run pins s σ H _ I h) fun v s1 ⟨x, H1, I1, r1, q1⟩ => ?_)
  have hlo : PO X (some lo) (tPart tl) := po_some hl
  have hst : PO X (some (.Constant (.int 2) k p1)) (tPart (tC (.int 2))) := po_some pe_int
  refine wpAny_Slice (thn (hlo.run pins s1 σ H1 (fun o H2 => ∃ (z : Str) (i : Int), x = .str z ∧ o = some i ∧ (stpS z.cps.toList i).length ≤ sizeLine ∧ Q (.str ⟨(stpS z.cps.toList i).toArray⟩) H2) I1 ?_) fun vl s2 ⟨l, H2, I2, pl, q2⟩ => ?_)
  · exact q1
  obtain ⟨z, i, ex, el, hz, q⟩ := q2
  subst ex el
  obtain ⟨t, rfl⟩ := r1
  refine thn (po_none.run pins s2 σ H2 (fun o H3 => o = none ∧ H3 = H2) I2 ⟨rfl, rfl⟩) fun vu s3 ⟨u, H3, I3, pu, eu, e3⟩ => ?_
  subst eu e3
  refine thn (hst.run pins s3 σ H3 (fun o H4 => o = some 2 ∧ H4 = H3) I3 ⟨2, rfl, rfl, rfl⟩) fun vs s4 ⟨o, H4, I4, ps, eo, e4⟩ => ?_
  subst eo e4
  have I5 : Inv X pins σ H4 { s4 with heap := s4.heap.push { cls := .type "slice", data := .fields #[vl, vu, vs] } } := I4.kept (t' := s4.toks) fun b ob q => Heap.get?_push_of_some _ q
  obtain ⟨l1, e1, e2⟩ := IsPart.raw pl
  obtain ⟨u1, f1, f2⟩ := IsPart.raw pu
  obtain ⟨w1, g1, g2⟩ := IsPart.raw ps
  subst e1 f1 g1
  show wpAny (model X.prog X.w) X.A (subscriptTail e (.Slice (some lo) none (some (.Constant (.int 2) k p1)) p3) (.str z t) (.ref s4.heap.objs.size)) (EP X pins σ Q) X.xe _
  refine tail_any (ops := [.str z t, .ref s4.heap.objs.size]) (typeIs_str _ _ _) (F.slot_str_getitem.lookup) ?_ (by with_unfolding_all rfl)
  refine wpAny_getItem_str_slice (l := l1) (u := u1) (st := w1) ⟨_, Heap.get?_push_size _ rfl, rfl, rfl⟩ (by rw [g2]; rfl) ?_
  unfold sliceMade slicePicked
  rw [e2, f2, g2]
  show Made.post (.str ⟨((Builtin.Str.strSliceIndices (some i) none 2 z.length).filterMap (z.cps[·]?)).toArray⟩) (EP X pins σ Q) _
  have e9 : (Builtin.Str.strSliceIndices (some i) none 2 z.length).filterMap (z.cps[·]?) = stpS z.cps.toList i := by
    unfold stpS
    simp [Str.length]
  rw [e9]
  refine ⟨?_, .str _, H4, I5.tok _, ⟨_, rfl⟩, q⟩
  simp only [Str.length, List.size_toArray]
  exact hz
theorem se_stp {X : Cx} {W : WX} {e lo : Expr} {fe fl : Sx} {k : Nat} {p1 p3 pos : Pos} (he : PE X e (tE (ctOf X) W fe)) (hl : PE X lo (tE (ctOf X) W fl)) : PE X (.Subscript e (.Slice (some lo) none (some (.Constant (.int 2) k p1)) p3) pos) (tE (ctOf X) W (s2 kStp2 fe fl)) :=
  pe_of (pe_stpS he hl) fun σ H Q h => tX_bnd h fun ρ H1 e h1 x v hs hr rv p => Po_bnd hs hr p fun ρ2 H2 hh2 y u e2 hs2 hr2 ru p2 => by
    change Po _ _ _ _ _ _ (kStp2 x y hh2) at p2
    unfold kStp2 at p2
    split at p2
    · rename_i z i
      cases rv
      cases ru
      split at p2
      · rename_i c
        exact ⟨i, rfl, ⟨z.toArray⟩, i, rfl, rfl, by rw [line_eq]; simpa using c, by simpa using Po_ok p2 hr2 (.str _)⟩
      · exact p2.elim
    · exact p2.elim
end Fw

set_option Elab.async false
set_option linter.all false
set_option maxRecDepth 100000
set_option maxHeartbeats 2000000
set_option autoImplicit false
namespace Fw
open PySem PySem.Spec L2
open PyProof.Rows hiding St
/-! ### {k: v, ..} -/
inductive RpP (C : Ct) (ρ : List Addr) (H : Hp) : List (Va × Va) → List (V × V) → Prop
  | nil : RpP C ρ H [] []
  | cons {x y : Va} {v u : V} {ps : List (Va × Va)} {qs : List (V × V)} : Rp C ρ H x v → Rp C ρ H y u → RpP C ρ H ps qs → RpP C ρ H ((x, y) :: ps) ((v, u) :: qs)
section
variable {X : Cx} {W : WX}
end
end Fw

set_option Elab.async false
set_option linter.all false
set_option maxRecDepth 100000
set_option maxHeartbeats 2000000
set_option autoImplicit false
namespace Fw
open PySem PySem.Spec L2
open PyProof.Rows hiding St
/-! ### t[lo:hi], the whole of it too -/
def kSlW : Va → Option Int → Option Int → Hs → Rs Va
  | .tup xs, lo, hi => fun h => if HT.sIx xs.length 0 lo = 0 ∧ HT.sIx xs.length xs.length hi = xs.length then .ok (.tup xs) h else .ok (.tup (cutA xs lo hi)) h
  | x, lo, hi => kSl x lo hi
def sSlW (f : Sx) (lo hi : Sm (Option Int)) : Sx := bnd f fun x => bnd lo fun l => bnd hi fun u => vl (kSlW x l u)
section
variable {X : Cx} {W : WX} {e : Expr} {lo hi : Option Expr} {fe : Sx} {fl fh : Sm (Option Int)} {pos p2 : Pos}
theorem se_slW (he : PE X e (tE (ctOf X) W fe)) (hl : PO X lo (tOx (ctOf X) W fl)) (hh : PO X hi (tOx (ctOf X) W fh)) : PE X (.Subscript e (.Slice lo hi none p2) pos) (tE (ctOf X) W (sSlW fe fl fh)) :=
  pe_of (pe_slice (SlR.or sl_list (SlR.or sl_str sl_tupD)) he hl hh) fun σ H Q h => tX_bnd h fun ρ H1 e h1 x v hs hr rv p => Po_bnd hs hr p fun ρ2 H2 h2 l l' e2 hs2 hr2 rl p2 => Po_bnd hs2 hr2 p2 fun ρ3 H3 h3 u u' e3 hs3 hr3 ru p3 => by
    subst rl ru
    have rv := rv.mono (e2.trans e3)
    cases x with
    | str x =>
      cases rv
      have p3 : Po _ _ _ _ _ _ (if x.length ≤ 16777216 then _ else _) := p3
      split at p3
      · rename_i hl
        refine .inr (.inl ⟨_, rfl, by rw [str_len, line_eq]; exact hl, ?_⟩)
        have e : cutS ⟨x.toArray⟩ l u = ⟨(cutA x l u).toArray⟩ := by unfold cutS cutA; rw [str_len]
        rw [e]
        exact Po_ok p3 hr3 (.str _)
      · exact p3.elim
    | loc n =>
      have p3 : Po _ _ _ _ _ _ (match h3[n]? with | some (.lst xs) => _ | _ => _) := p3
      split at p3
      · rename_i xs hn
        obtain ⟨a, vs, rfl, ha, hl, rl⟩ := hr3.ls_ hn rv
        exact .inl ⟨a, vs, rfl, SqL.of hl, (newL_of hr3 (cut_rel rl l u) p3).2⟩
      · exact p3.elim
    | ros xs =>
      cases rv with
      | ros hq rl => exact .inl ⟨_, _, rfl, hq.sq, (newL_of hr3 (cut_rel rl l u) p3).2⟩
    | tup xs =>
      have p3 : Po (ctOf X) (Rp (ctOf X)) _ Q ρ3 H3 (if HT.sIx xs.length 0 l = 0 ∧ HT.sIx xs.length xs.length u = xs.length then Rs.ok (Va.tup xs) h3 else .ok (.tup (cutA xs l u)) h3) := p3
      cases rv with
      | tup hq rl =>
      refine .inr (.inr ⟨_, _, rfl, hq.sq, fun c => ?_, fun c => ?_⟩)
      · rw [← rl.length] at c
        rw [if_pos c] at p3
        exact Po_ok p3 hr3 (.tup hq rl)
      · rw [← rl.length] at c
        rw [if_neg c] at p3
        exact Po_tup hr3 (cut_rel rl l u) p3
    | _ => exact p3.elim
end
/-! ### t + u, also with an empty one -/
def kAddW (x y : Va) (h : Hs) : Rs Va := match x with
  | .tup xs => match y with
    | .tup ys => if xs.length + ys.length ≤ 16777216 then .ok (.tup (xs ++ ys)) h else .bad
    | y => kAdd (.tup xs) y h
  | x => kAdd x y h
theorem ks_addW {X : Cx} : OpK X (binaryOp .Add) kAddW := by
  obtain ⟨r, h1, h2⟩ := ks_add (X := X)
  refine ⟨_, OpR.or h1 op_catD, ?_⟩
  intro ρ H h x y v u W Q hr rx ry p
  have old : Po (ctOf X) (Rp (ctOf X)) W Q ρ H (kAdd x y h) → r v u H Q ∨ rCatD X.K v u H Q := fun p => .inl (h2 ρ H h x y v u W Q hr rx ry p)
  unfold kAddW at p
  split at p
  · rename_i xs
    split at p
    · rename_i ys
      split at p
      · rename_i c
        cases rx with
        | tup hq rl => cases ry with
          | tup hq2 rl2 =>
            refine .inr ⟨_, _, _, _, rfl, rfl, hq.sq, hq2.sq, by rw [← rl.length, ← rl2.length, line_eq]; exact c, fun e => ?_, fun e e' => ?_, fun e e' => ?_⟩
            · have : xs = [] := by
                have := rl.length
                rw [e] at this
                exact List.length_eq_zero_iff.mp this
              subst this
              exact Po_ok p hr (.tup hq2 rl2)
            · have : ys = [] := by
                have := rl2.length
                rw [e'] at this
                exact List.length_eq_zero_iff.mp this
              subst this
              rw [List.append_nil] at p
              exact Po_ok p hr (.tup hq rl)
            · exact Po_tup hr (rl.append rl2) p
      · exact p.elim
    · exact old p
  · exact old p
end Fw

set_option Elab.async false
set_option linter.all false
set_option maxRecDepth 100000
set_option maxHeartbeats 2000000
set_option autoImplicit false
namespace Fw
open PySem PySem.Spec L2 PyProof PyProof.Rows
/-! ### the least of a tuple of ints -/
section
variable {prog : Program} {w : World} {A : Around} {E : Value → Shared → Prop} {s : Shared} {l : Addr}
theorem min_intTup {xs : Array (Int × Tok)} {Q : Value → Shared → Prop} (hh : A.handled = none) (hl : s.heap.IsTuple l (intItems xs)) (hne : 0 < xs.size)
    (h : ∀ v h' tk, (intItems xs)[argBest (fun i j => decide (numAt xs i < numAt xs j)) (xs.size - 1)]? = some v → (∀ b o, s.heap.get? b = some o → h'.get? b = some o) → Q v { s with heap := h', toks := tk }) :
    wpAny (model prog w) A (call (.builtin "min") [.ref l]) Q E s := by
  have hlt : l < s.heap.objs.size := by obtain ⟨_, e, _⟩ := hl; exact Heap.lt_size e
  refine call_min_walk (wpAny_pyIter_tuple hl ?_)
  refine ⟨_, [_, l], [_], _, _, _, _, rfl, Walks.tuple (A := A.in1) hh _ l (Nat.ne_of_lt hlt) (intItems xs), ⟨⟨_, Heap.get?_push_size _ rfl, rfl, rfl⟩, hl.push _⟩, fun d hd => ?_, by simpa [intItems] using hne, CmpOf.ints_lt (numAt xs) (fun _ _ => intItems_at), fun v h' tk hP hk => ?_⟩
  · show d < (s.heap.push _).objs.size
    rw [Heap.size_push]
    rcases List.mem_cons.mp hd with rfl | hd
    · exact Nat.lt_succ_self _
    · rcases List.mem_cons.mp hd with rfl | hd
      · exact Nat.lt_succ_of_lt hlt
      · cases hd
  · exact h v h' tk (by simpa [intItems] using hP) fun b o e => hk b o (fun m => Nat.ne_of_lt (Heap.lt_size e) (by simpa using m)) (Heap.get?_push_of_some _ e)
theorem min_rawT {its : List Value} {ns : List Int} {Q : Value → Shared → Prop} (hh : A.handled = none) (hl : s.heap.IsTuple l its.toArray) (hi : IntsAre its ns) (hne : 0 < ns.length)
    (h : ∀ h' tk M t', (∀ b o, s.heap.get? b = some o → h'.get? b = some o) → M ∈ ns → (∀ a, a ∈ ns → M ≤ a) → Q (.int M t') { s with heap := h', toks := tk }) : wpAny (model prog w) A (call (.builtin "min") [.ref l]) Q E s := by
  obtain ⟨xs, e⟩ := hi.allInts.items
  have hn : numsOf (intItems xs).toList = ns := by rw [← e]; exact hi.numsOf
  rw [nums_intItems] at hn
  subst hn
  rw [e] at hl
  have hsz : 0 < xs.size := by simpa using hne
  refine min_intTup hh hl hsz fun v h' tk hv hk => ?_
  obtain ⟨t, rfl⟩ := intItems_at hv
  obtain ⟨h1, h2⟩ := argBest_lt (numAt xs) (xs.size - 1)
  refine h h' tk _ t hk ?_ fun a ha => ?_
  · rw [numAt_eq]; exact PySem.getD_mem (by rw [List.length_map, Array.length_toList]; omega)
  · obtain ⟨j, hj, rfl⟩ := mem_getD ha
    rw [List.length_map, Array.length_toList] at hj
    rw [← numAt_eq]; exact h2 j (by omega)
end
section
variable {X : Cx}
def rMinT (K : PySem.W.Frag) : List V → Hp → VK → Prop := fun vs H Q => ∃ (a : Addr) (ns : List Int), vs = [V.ref a] ∧ SqT K H a (ns.map V.int) ∧ 0 < ns.length ∧ ∀ m, m ∈ ns → (∀ y, y ∈ ns → m ≤ y) → Q (.int m) H
theorem cr_minT (hc : X.calm = true) : CallR X (.builtin "min") (rMinT X.K) := by
  intro pins s σ H vs us Q I r h
  obtain ⟨a, ns, rfl, hs, hne, q⟩ := h
  obtain ⟨its, rv, hl, _⟩ := I.tuple hs
  rw [Vals.ref1 r]
  exact min_rawT (I.ok.hd hc) (show s.heap.IsTuple a its.toArray from hl) rv.ints hne fun h' tk m t' hk h1 h2 => ⟨.int _, H, I.kept hk, ⟨_, rfl⟩, q m h1 h2⟩
end
def leastI : Int → List Int → Int
  | m, [] => m
  | m, x :: r => leastI (if x < m then x else m) r
def kMinW : List Va → Hs → Rs Va
  | [.tup xs] => fun h => match mapO asI xs with
    | some (n :: ns) => .ok (.int (leastI n ns)) h
    | _ => .bad
  | xs => kMin xs
theorem leastI_le : ∀ (m : Int) (ns : List Int), leastI m ns ≤ m ∧ (∀ x ∈ ns, leastI m ns ≤ x) ∧ (leastI m ns = m ∨ leastI m ns ∈ ns)
  | m, [] => ⟨Int.le_refl _, (fun x h => nomatch h), Or.inl rfl⟩
  | m, x :: r => by
    obtain ⟨h1, h2, h3⟩ := leastI_le (if x < m then x else m) r
    have hh : (if x < m then x else m) ≤ m ∧ (if x < m then x else m) ≤ x := by split <;> omega
    refine ⟨Int.le_trans h1 hh.1, fun y hy => ?_, ?_⟩
    · rcases List.mem_cons.mp hy with rfl | hy
      · exact Int.le_trans h1 hh.2
      · exact h2 y hy
    · show leastI (if x < m then x else m) r = m ∨ leastI (if x < m then x else m) r ∈ x :: r
      rcases h3 with h3 | h3
      · rw [h3]
        split
        · exact .inr (List.mem_cons_self ..)
        · exact .inl rfl
      · exact .inr (List.mem_cons_of_mem _ h3)
theorem leastI_eq {m : Int} {n : Int} {ns : List Int} (h1 : m ∈ n :: ns) (h2 : ∀ y, y ∈ n :: ns → m ≤ y) : m = leastI n ns := by
  obtain ⟨a, b, c⟩ := leastI_le n ns
  have lo : leastI n ns ≤ m := by
    rcases List.mem_cons.mp h1 with rfl | h
    · exact a
    · exact b m h
  have hi : m ≤ leastI n ns := by
    rcases c with c | c
    · rw [c]; exact h2 n (List.mem_cons_self ..)
    · exact h2 _ (List.mem_cons_of_mem _ c)
  omega
theorem cs_minW {X : Cx} (hc : X.calm = true) : CaK X (.builtin "min") kMinW := by
  refine ⟨fun vs H Q => rMinT X.K vs H Q ∨ (∃ i j, vs = [.int i, .int j] ∧ Q (.int (if j < i then j else i)) H), ?_, ?_⟩
  · intro pins s σ H vs us Q I r h
    rcases h with h | h
    · exact cr_minT hc pins s σ H vs us Q I r h
    · exact call_min2 hc pins s σ H vs us Q I r h
  · intro ρ H h xs vs W Q hr r p
    unfold kMinW at p
    split at p
    · rename_i ys
      split at p
      · rename_i n ns e
        obtain ⟨v, rfl, rv⟩ := one_arg r rfl
        cases rv with
        | tup hq rl =>
          have := ints_of rl e
          subst this
          refine .inl ⟨_, n :: ns, rfl, hq.sq, by simp, fun m h1 h2 => ?_⟩
          rw [leastI_eq h1 h2]
          exact Po_ok p hr (.int _)
      · exact p.elim
    · unfold kMin at p
      split at p
      · have e := two_args r
        subst e
        exact .inr ⟨_, _, rfl, Po_ok p hr (.int _)⟩
      · exact p.elim
end Fw

set_option Elab.async false
set_option linter.all false
set_option maxRecDepth 100000
set_option maxHeartbeats 2000000
set_option autoImplicit false
namespace Fw
open PySem PySem.Spec L2
open PyProof.Rows hiding St
/-! ### text.strip(signs) -/
def stpC (x y : List Nat) : List Nat := (Txt.stripChars ⟨x.toArray⟩ ⟨y.toArray⟩).cps.toList
def kStrp : Va → List Va → Hs → Rs Va
  | .str x, [.str y] => fun h => if x.length ≤ 16777216 then .ok (.str (stpC x y)) h else .bad
  | _, _ => fun _ => .bad
theorem takeAll {p : Nat → Bool} : ∀ {x : List Nat}, (∀ c ∈ x, p c = true) → x.takeWhile p = x
  | [], _ => rfl
  | c :: x, h => by rw [List.takeWhile_cons, if_pos (h c (by simp)), takeAll fun d m => h d (by simp [m])]
theorem stpC_all {x y : List Nat} (h : ∀ c ∈ x, c ∈ y) : stpC x y = [] := by
  unfold stpC Txt.stripChars
  rw [PyProof.Rows.stripBy_eq]
  have e : x.takeWhile (y.toArray.contains) = x := takeAll fun c m => by simpa using h c m
  unfold stripLo stripHi Builtin.Str.strSub
  simp [e]
section
variable {X : Cx}
theorem ms_strp : MtK X "str.strip" kStrp := ⟨_, mt_stripChars, by
  intro ρ H h x xs v vs W Q hr rv rs p
  unfold kStrp at p
  split at p
  · obtain ⟨w, rfl, rw_⟩ := one_arg rs rfl
    cases rv; cases rw_
    rename_i x y
    split at p
    · rename_i c
      refine ⟨_, _, rfl, rfl, by simpa [Str.length, line_eq] using c, Po_ok p hr ?_⟩
      have e : (Txt.stripChars (⟨x.toArray⟩ : Str) ⟨y.toArray⟩) = (⟨(stpC x y).toArray⟩ : Str) := by
        unfold stpC
        simp
      rw [e]
      exact .str _
    · exact p.elim
  · exact p.elim⟩
end
end Fw

set_option Elab.async false
set_option linter.all false
set_option maxRecDepth 100000
set_option maxHeartbeats 2000000
set_option autoImplicit false
namespace Fw
open PySem PySem.Spec L2
open PyProof.Rows hiding St
/-! ### a tuple read backward -/
section
variable {prog : Program} {w : World} {A : Around} {E : Value → Shared → Prop} {s : Shared}
theorem adjust_rev (n : Nat) : Builtin.Slice.sliceAdjust none none (-1) (n : Int) = ((n : Int) - 1, -1) := rfl
theorem places_rev (n : Nat) : Builtin.Slice.slicePlaces ((n : Int) - 1) (-1) (-1) = n := by
  unfold Builtin.Slice.slicePlaces
  rw [if_neg (by decide)]
  split
  · simp
    try omega
  · simp
    omega
theorem slicePart_neg {vs : Value} {Q : Option Int → Shared → Prop} (p : IsPart vs (some (-1))) (h : Q (some (-1)) s) : wpAny (model prog w) A (Builtin.Slice.slicePartIndex vs) Q E s := HT.slicePart_ p h
theorem sliceApplied_rev {sl : Addr} {vl vu vs : Value} {n : Nat} {Q : Int × Int × Nat → Shared → Prop} (hs : s.heap.IsSliceOf sl vl vu vs) (pl : IsPart vl none) (pu : IsPart vu none) (ps : IsPart vs (some (-1)))
    (h : Q ((n : Int) - 1, -1, n) s) : wpAny (model prog w) A (Builtin.Slice.sliceApplied (.ref sl) (pure (n : Int))) Q E s := by
  obtain ⟨os, hos, hcs, hds⟩ := id hs
  unfold Builtin.Slice.sliceApplied Builtin.Slice.sliceFields
  refine wpAny_bind (wpAny_bind (wpAny_field hos hds (x := vl) rfl (wpAny_bind (wpAny_field hos hds (x := vu) rfl (wpAny_bind (wpAny_field hos hds (x := vs) rfl (wpAny_pure ?_)))))))
  refine wpAny_bind (slicePart_neg ps ?_)
  show wpAny _ _ (if ((-1 : Int) == 0) = true then _ else _) _ _ s
  rw [if_neg (by decide)]
  refine wpAny_bind (HT.slicePart_ pl (wpAny_bind (HT.slicePart_ pu (wpAny_bind (wpAny_pure ?_)))))
  show wpAny _ _ (match Builtin.Slice.sliceAdjust none none (-1) (n : Int) with | (lo, hi) => pure (lo, (-1 : Int), Builtin.Slice.slicePlaces lo hi (-1))) _ _ s
  rw [adjust_rev n]
  show wpAny _ _ (pure ((n : Int) - 1, (-1 : Int), Builtin.Slice.slicePlaces ((n : Int) - 1) (-1) (-1))) _ _ s
  rw [places_rev]
  exact wpAny_pure h
theorem fm_ext {α β : Type} {f g : α → Option β} : ∀ {l : List α}, (∀ m ∈ l, f m = g m) → l.filterMap f = l.filterMap g
  | [], _ => rfl
  | x :: l, h => by rw [List.filterMap_cons, List.filterMap_cons, h x (by simp), fm_ext fun m hm => h m (by simp [hm])]
theorem pick_rev (xs : Array Value) : ((List.range xs.size).filterMap fun (m : Nat) => xs[(((xs.size : Int) - 1) + (m : Int) * (-1)).toNat]?).toArray = xs.toList.reverse.toArray := by
  congr 1
  have e : ∀ m ∈ List.range xs.size, xs[(((xs.size : Int) - 1) + (m : Int) * (-1)).toNat]? = some (xs.toList.reverse[m]?.getD .none) := fun m hm => by
    have hm := List.mem_range.mp hm
    have e1 : (((xs.size : Int) - 1) + (m : Int) * (-1)).toNat = xs.size - 1 - m := by omega
    rw [e1, List.getElem?_reverse (by rw [Array.length_toList]; exact hm), Array.length_toList, Array.getElem?_toList]
    rw [Array.getElem?_eq_getElem (by omega)]
    rfl
  rw [fm_ext e, List.filterMap_eq_map']
  refine List.ext_getElem? fun i => ?_
  rw [List.getElem?_map]
  by_cases c : i < xs.size
  · rw [List.getElem?_range c, Option.map_some, List.getElem?_eq_getElem (by simpa using c)]
    rfl
  · rw [List.getElem?_eq_none (by simp; omega), List.getElem?_eq_none (by simp; omega)]
    rfl
theorem getItem_tuple_rev {t sl : Addr} {items : Array Value} {vl vu vs : Value} {Q : Value → Shared → Prop} (ht : IsTup s.heap t items) (hs : s.heap.IsSliceOf sl vl vu vs) (pl : IsPart vl none) (pu : IsPart vu none) (ps : IsPart vs (some (-1)))
    (h : Q (.ref s.heap.objs.size) { s with heap := s.heap.push { cls := .type "tuple", data := .seq items.toList.reverse.toArray } })
    (hsz : items.size ≤ sizeLine) : wpAny (model prog w) A (getItem (.ref t) (.ref sl)) Q E s := by
  have htake : sizeOk (.seq items.toList.reverse.toArray) := by
    show items.toList.reverse.toArray.size ≤ sizeLine
    rw [List.size_toArray, List.length_reverse, Array.length_toList]
    exact hsz
  obtain ⟨os, hos, hcs, hds⟩ := id hs
  have hTs : s.TypeIs (.ref sl) "slice" := ⟨os, hos, hcs⟩
  unfold getItem
  try with_reducible refine wpAny_holding ?_
  first | refine wpAny_bind (wpAny_pure ?_) | skip
  refine wpAny_bind (wpAny_sequenceKey ht.typeIs (by decide) ?_)
  refine wpAny_bind (wpAny_callSpecial?_slot (name := Str.ofString "__getitem__") ht.typeIs PyProof.Rows.slot_tuple_getitem
    (wpAny_call_entry PyProof.Rows.slot_tuple_getitem ht.typeIs entry_tuple_getitem ?_ (args_tuple_getitem _ _)))
  show wpAny _ _ (Builtin.Tuple.tupleItemsOf (.ref t) >>= _) _ _ s
  refine wpAny_bind (PyProof.Rows.tupleItemsOf_ ht ?_)
  refine wpAny_bind (wpAny_typeOf hTs ?_)
  rw [if_pos (by decide)]
  refine wpAny_bind (sliceApplied_rev hs pl pu ps ?_)
  have hno : ¬ ((((items.size : Int) - 1) == 0 && (-1 : Int) == 1 && items.size == items.size) = true) := by
    intro q
    rw [Bool.and_eq_true, Bool.and_eq_true] at q
    exact absurd q.1.2 (by decide)
  show wpAny _ _ (if (((items.size : Int) - 1) == 0 && (-1 : Int) == 1 && items.size == items.size) = true then _ else _) _ _ s
  rw [if_neg hno, pick_rev]
  first
    | exact wpAny_bind (m := Builtin.Tuple.tupleExact _) (wpAny_newObj_type (wpAny_pure ⟨_, rfl, wpAny_pure h⟩) htake)
    | exact wpAny_bind (m := Builtin.Tuple.tupleExact _) (wpAny_newObj_type (wpAny_bind (wpAny_pure (wpAny_pure ⟨_, rfl, wpAny_pure h⟩))) htake)
    | exact wpAny_bind (wpAny_bind (m := Builtin.Tuple.tupleExact _) (wpAny_newObj_type (wpAny_pure (wpAny_pure ⟨_, rfl, wpAny_pure h⟩)) htake))
    | exact wpAny_bind (wpAny_bind (m := Builtin.Tuple.tupleExact _) (wpAny_newObj_type (wpAny_pure ⟨_, rfl, wpAny_pure h⟩) htake))
end
def tRevT (K : PySem.W.Frag) (te : TE) : TE := fun σ H Q => te σ H fun x H1 => ∃ a xs, x = .ref a ∧ SqT K H1 a xs ∧ NewT Q H1 xs.reverse
theorem pe_revT {X : Cx} {e : Expr} {te : TE} {k : Nat} {p1 p2 p3 pos : Pos} (he : PE X e te) : PE X (.Subscript e (.Slice none none (some (.UnaryOp .USub (.Constant (.int 1) k p1) p2)) p3) pos) (tRevT X.K te) := by
  refine ⟨fun pins s σ H Q I h => ?_⟩
  refine Subscript_ (thn (he.run pins s σ H _ I h) fun v s1 ⟨x, H1, I1, r1, q1⟩ => ?_)
  obtain ⟨a, xs, ex, hx, q⟩ := q1
  subst ex
  cases r1
  have hst : PO X (some (.UnaryOp .USub (.Constant (.int 1) k p1) p2)) (tPart (tUn (rU fun i => .int (-i)) (tC (.int 1)))) := po_some (pe_un un_neg pe_int)
  refine wpAny_Slice (thn (po_none.run pins s1 σ H1 (fun o H2 => o = none ∧ H2 = H1) I1 ⟨rfl, rfl⟩) fun vl s2 ⟨l, H2, I2, pl, el, e2⟩ => ?_)
  subst el e2
  refine thn (po_none.run pins s2 σ H2 (fun o H3 => o = none ∧ H3 = H2) I2 ⟨rfl, rfl⟩) fun vu s3 ⟨u, H3, I3, pu, eu, e3⟩ => ?_
  subst eu e3
  refine thn (hst.run pins s3 σ H3 (fun o H4 => o = some (-1) ∧ H4 = H3) I3 ⟨1, rfl, -1, rfl, rfl, rfl⟩) fun vs s4 ⟨o, H4, I4, ps, eo, e4⟩ => ?_
  subst eo e4
  have I5 : Inv X pins σ H4 { s4 with heap := s4.heap.push { cls := .type "slice", data := .fields #[vl, vu, vs] } } := I4.kept (t' := s4.toks) fun b ob q => Heap.get?_push_of_some _ q
  obtain ⟨its, r, ht, hz⟩ := I5.tuple hx
  have hlen := r.length
  show wpAny (model X.prog X.w) X.A (subscriptTail e (.Slice none none (some (.UnaryOp .USub (.Constant (.int 1) k p1) p2)) p3) (.ref a) (.ref s4.heap.objs.size)) (EP X pins σ Q) X.xe { s4 with heap := s4.heap.push { cls := .type "slice", data := .fields #[vl, vu, vs] } }
  refine tail_any (ops := [.ref a, .ref s4.heap.objs.size]) ht.typeIs (PyProof.Rows.slot_tuple_getitem.lookup) ?_ (by with_unfolding_all rfl)
  refine getItem_tuple_rev ht (Heap.IsSliceOf.new _ vl vu vs) pl pu ps ?_ (by rw [List.size_toArray]; omega)
  exact ⟨.ref _, _, laidD (t' := s4.toks) I5 (fun b ob q => Heap.get?_push_of_some _ q) (Nat.le_refl _) (Heap.get?_push_size _ rfl) r.reverse (by rw [List.length_reverse]; exact hz), rfl, q _ _ (tupO_seq _) (I5.hok.fresh (Nat.le_refl _))⟩
def kRevA : Va → Hs → Rs Va
  | .tup xs => fun h => .ok (.tup xs.reverse) h
  | x => kRev x
theorem se_revA {X : Cx} {W : WX} {e : Expr} {fe : Sx} {k : Nat} {p1 p2 p3 pos : Pos} (he : PE X e (tE (ctOf X) W fe)) : PE X (.Subscript e (.Slice none none (some (.UnaryOp .USub (.Constant (.int 1) k p1) p2)) p3) pos) (tE (ctOf X) W (s1 kRevA fe)) :=
  pe_of (pe_or (se_rev he) (pe_revT he)) fun σ H Q h => by
    obtain ⟨ρ, e, hh, hs, hr, p⟩ := h
    have p0 := p
    unfold s1 bnd at p
    cases q : fe e hh with
    | ok x h1 =>
      rw [q] at p
      cases x with
      | tup z =>
        refine .inr ⟨ρ, e, hh, hs, hr, ?_⟩
        rw [q]
        intro ρ' H' v ex hr' rv
        have p : Po _ _ _ _ ρ' H' (Rs.ok (Va.tup z.reverse) h1) := Po.mono ex p
        cases rv with
        | tup hq rl => exact ⟨_, _, rfl, hq.sq, Po_tup hr' (RpL.rev rl) p⟩
      | _ =>
        refine .inl ⟨ρ, e, hh, hs, hr, ?_⟩
        unfold s1 bnd
        rw [q]
        exact p
    | ex x h1 => 
      refine .inl ⟨ρ, e, hh, hs, hr, ?_⟩
      unfold s1 bnd
      rw [q] at p ⊢
      exact p
    | bad => rw [q] at p; exact p.elim
end Fw

set_option Elab.async false
set_option linter.all false
set_option maxRecDepth 100000
set_option maxHeartbeats 2000000
set_option autoImplicit false
namespace Fw
open PySem PySem.Spec L2
open PyProof.Rows hiding St
/-! ### enumerate over a tuple -/
theorem meets_enumerate_newT (l : Addr) (items : Array Value) (n : Nat) (dd : Option Addr) (sl : Array (Option Value)) :
    Meets (Builtin.«enumerate.__new__» ⟨[.type "enumerate", .ref l], []⟩) (fun A R s =>
      s.heap.get? l = some { cls := .type "tuple", dict := dd, data := .seq items n, slots := sl } ∧
      R (.ok (.ret (.ref (s.heap.push { cls := .type "tuple_iterator", data := .fields #[.ref l, .int 0 0] }).objs.size)))
        { s with heap := (s.heap.push { cls := .type "tuple_iterator", data := .fields #[.ref l, .int 0 0] }).push { cls := .type "enumerate", data := .fields #[.none, .bool false, .ref s.heap.objs.size, rawInt 0, .none, .none] } }) :=
  .of_wp fun prog w A R s h => by
    obtain ⟨hp, g, d, tk, os⟩ := s
    obtain ⟨hl, h⟩ := h
    have hsub := sub_enumerate
    have hL : Heap.IsTuple hp l items := ⟨_, hl, rfl, n, rfl⟩
    wp_walk
    refine wpAny_stack_any fun st => wpAny_pure ?_
    split
    · rename_i c _ _ _ _ _
      cases (c == Value.type "enumerate")
      · wp_walk using wpAny_pyIter_tuple hL
        exact ⟨_, rfl, h⟩
      · wp_walk using wpAny_pyIter_tuple hL
        exact ⟨_, rfl, h⟩
    · wp_walk using wpAny_pyIter_tuple hL
      exact ⟨_, rfl, h⟩
section
variable {prog : Program} {w : World} {A : Around} {E : Value → Shared → Prop} {s : Shared}
theorem call_enumerate_tup {l : Addr} {items : Array Value} {Q : Value → Shared → Prop} (hL : s.heap.IsTuple l items)
    (h : ∀ h', IsEnum h' (s.heap.objs.size + 1) s.heap.objs.size 0 .none → h'.IsTupleIter s.heap.objs.size l 0 → h'.objs.size = s.heap.objs.size + 2 →
      (∀ b o, s.heap.get? b = some o → h'.get? b = some o) → Q (.ref (s.heap.objs.size + 1)) { s with heap := h' }) :
    wpAny (model prog w) A (call (.type "enumerate") [.ref l]) Q E s := by
  obtain ⟨⟨c, dct, dt, sl⟩, hl, hc, n, hd⟩ := hL
  replace hc : c = .type "tuple" := hc
  replace hd : dt = .seq items n := hd
  subst hc hd
  refine callType_new F.called_enumerate (by decide) (F.typeCall_enumerate_1 _) (F.newCall_enumerate_1 _) (fun obj => F.args_object_init_2 obj _) F.entry_enumerate_new
    (meets_enumerate_newT l items n dct sl) ⟨hl, ?_⟩
  have hz : (s.heap.push { cls := .type "tuple_iterator", data := .fields #[.ref l, .int 0 0] }).objs.size = s.heap.objs.size + 1 := Heap.size_push ..
  show _ ∧ _
  rw [hz]
  have he : IsEnum ((s.heap.push { cls := .type "tuple_iterator", data := .fields #[.ref l, .int 0 0] }).push
      { cls := .type "enumerate", data := .fields #[.none, .bool false, .ref s.heap.objs.size, rawInt 0, .none, .none] }) (s.heap.objs.size + 1) s.heap.objs.size 0 .none := by
    have := Heap.get?_push_size (s.heap.push { cls := .type "tuple_iterator", data := .fields #[.ref l, .int 0 0] })
      (o := { cls := .type "enumerate", data := .fields #[.none, .bool false, .ref s.heap.objs.size, rawInt 0, .none, .none] }) rfl
    rw [hz] at this; exact this
  refine ⟨⟨_, he, rfl⟩, h _ he ⟨_, Heap.get?_push_of_some _ (Heap.get?_push_size _ rfl), rfl, rfl⟩ (by rw [Heap.size_push, hz]) fun b o x => Heap.get?_push_of_some _ (Heap.get?_push_of_some _ x)⟩
end
/-- the tuple at a as it stands, the items in new pairs -/
def Iteu (K : PySem.W.Frag) (a : Addr) : It :=
  ⟨fun i H => ∃ (xs : List V) (x : V), SqT K H a xs ∧ xs[i]? = some x, fun i H v H' => ∃ T x, v = .ref T ∧ H T = none ∧ H' = upd H T (.tup [.int (i : Nat), x]) ∧ ∀ xs, SqT K H a xs → xs[i]? = some x, fun i H => ∃ xs : List V, SqT K H a xs ∧ xs.length ≤ i⟩
theorem turn_enumU {P : Program} {w : World} {K : PySem.W.Frag} {elts : List Expr} {kk : Nat} {tpos : Pos} (a e it : Addr) :
    Turn P w K (.Tuple elts kk tpos) (Iteu K a) [e, it] e (fun i h => (∃ old, IsEnum h e it ((i : Nat) : Int) old) ∧ h.IsTupleIter it a i ∧ e ≠ it) where
  mem := by simp
  obj := fun i h st b hb => by
    obtain ⟨⟨old, he⟩, ⟨o, ho, hc, hd⟩, _⟩ := st
    have e' : b = e ∨ b = it := by simpa using hb
    rcases e' with z | z
    · rw [z]; exact ⟨_, he, fun v q => nomatch q⟩
    · rw [z]; exact ⟨o, ho, fun v q => by rw [hd] at q; cases q⟩
  keep := fun i h h' st k => let ⟨⟨old, he⟩, hi, hne⟩ := st; ⟨⟨old, k e (by simp) _ he⟩, hi.at fun o q => k it (by simp) o q, hne⟩
  item := by
    intro X hP hw hK hc i pins s σ H E I hf st hg
    subst hP hw hK
    obtain ⟨⟨old, he⟩, hit, hne⟩ := st
    obtain ⟨xs, x, hq, hx⟩ := hg
    obtain ⟨its, rv, p, hz⟩ := I.tuple hq
    obtain ⟨u, hu, ru⟩ := rv.get hx
    have pt : s.heap.IsTuple a its.toArray := p
    have hel : e < s.heap.objs.size := Heap.lt_size he
    have hil : it < s.heap.objs.size := by obtain ⟨_, q, _⟩ := hit; exact Heap.lt_size q
    have hai : a ≠ it := fun z => by
      subst z
      obtain ⟨o1, a1, a2, _⟩ := pt
      obtain ⟨o2, b1, b2, _⟩ := hit
      rw [a1] at b1
      cases b1
      rw [a2] at b2
      exact absurd b2 (by decide)
    have hae : a ≠ e := fun z => by
      subst z
      obtain ⟨o1, a1, a2, _⟩ := pt
      have b1 : s.heap.get? a = some _ := he
      rw [a1] at b1
      cases b1
      have a2 : Value.type "enumerate" = Value.type "tuple" := a2
      exact absurd a2 (by decide)
    have D := Draws.tuple (prog := X.prog) (w := X.w) (A := X.A.in1) (I.ok.hd hc) it a hai its.toArray
    have hlt : i < its.toArray.size := by simpa using (List.getElem?_eq_some_iff.mp hu).1
    refine wpAny_pyNext_enum_itemD D he ⟨hit, pt⟩ hlt hne (by simp [hne, Ne.symm hae]) fun v h' tk hP ho hit' hT hsz hk => ?_
    have hv : u = v := by
      have h1 : its.toArray[i]? = some v := hP
      have h2 : its.toArray[i]? = some u := by simpa using hu
      rw [h2] at h1
      exact Option.some.inj h1
    subst hv
    refine ⟨_, rfl, wpAny_letOwnedTupleGo_enum (s := { s with heap := h', toks := tk + 1 }) ho fun h'' he' sb => ?_⟩
    have hT2 : h''.get? s.heap.objs.size = some { cls := .type "tuple", data := .seq #[.int i tk, u] } := (sb.2 _ (Nat.ne_of_gt hel)).trans hT
    have new : ObjOk X.prog X.w (upd H s.heap.objs.size (.tup [.int (i : Nat), x])) h'' s.heap.objs.size (.tup [.int (i : Nat), x]) :=
      ⟨by show 2 ≤ sizeLine; decide, [.int i tk, u], .cons ⟨_, rfl⟩ (.cons ru .nil), ⟨_, hT2, rfl, _, rfl⟩⟩
    have I1 : Inv X pins σ (upd H s.heap.objs.size (.tup [.int (i : Nat), x])) { s with heap := h'', toks := tk + 1 } :=
      I.turnedNew (ch := [e, it]) (fun b ob hb q => (sb.2 b (fun z => hb (by simp [z]))).trans (hk b ob (fun z => hb (by simp [z])) (fun z => hb (by simp [z])) q)) hf (Nat.le_refl _) new
    refine ⟨.ref s.heap.objs.size, _, I1, rfl, ⟨_, x, rfl, I.hok.fresh (Nat.le_refl _), rfl, fun ys hy => by rw [I.tuple_inj hy hq]; exact hx⟩, ⟨⟨u, ?_⟩, hit'.1.at fun o q => (sb.2 it (Ne.symm hne)).trans q, hne⟩, fun b hb => ?_⟩
    · have e1 : ((i + 1 : Nat) : Int) = (i : Int) + 1 := by omega
      rw [e1]; exact he'
    · have hb' : b < s.heap.objs.size := by
        have e' : b = e ∨ b = it := by simpa using hb
        rcases e' with z | z
        · rw [z]; exact hel
        · rw [z]; exact hil
      rw [upd_ne (Nat.ne_of_lt hb')]
      exact (hf b hb).1
  done := by
    intro X hP hw hK hc i pins s σ H E I hf st hg
    subst hP hw hK
    obtain ⟨⟨old, he⟩, hit, hne⟩ := st
    obtain ⟨xs, hq, hx⟩ := hg
    obtain ⟨its, rv, p, hz⟩ := I.tuple hq
    have pt : s.heap.IsTuple a its.toArray := p
    have hl := rv.length
    have hai : a ≠ it := fun z => by
      subst z
      obtain ⟨o1, a1, a2, _⟩ := pt
      obtain ⟨o2, b1, b2, _⟩ := hit
      rw [a1] at b1
      cases b1
      rw [a2] at b2
      exact absurd b2 (by decide)
    obtain ⟨f0, f1, f2, f3, f4, f5⟩ := hf it (by simp)
    have D : Draws X.prog X.w X.A.in1 it [it, a] 0 (fun _ _ => False) (fun _ h => h.IsTupleIter it a i ∧ h.IsTuple a its.toArray) :=
      ⟨fun _ _ st => let ⟨o, ho, _⟩ := st.1; ⟨o, ho⟩, fun _ _ _ st hk => ⟨st.1.at fun o e => hk it (by simp) o e, st.2.at fun o e => hk a (by simp) o e⟩, fun j s Q E hj => absurd hj (Nat.not_lt_zero _), fun s Q E st hE => wpAny_nextOf_tuple_end (I.ok.hd hc) st.1 st.2 (by simp; omega) hE⟩
    exact wpAny_pyNext_enum_endD D he ⟨hit, pt⟩ fun h' eb => ⟨rfl, I.turned (t' := s.toks) (fun b o hb q => eb b o hb q) f0 f1 f3 f4 f5⟩
  self := fun A i s Q E st h => let ⟨⟨_, he⟩, _⟩ := st; wpAny_pyIter_enum he h
def iEnumU (K : PySem.W.Frag) (ta : TA) : TI := fun σ H R => ta σ H fun vs H1 => ∃ a xs, vs = [.ref a] ∧ SqT K H1 a xs ∧ R (Iteu K a) H1
theorem pi_enumU {X : Cx} {e : Expr} {ta : TA} {p pos tpos : Pos} {elts : List Expr} {kk : Nat} (hg : Gl X "enumerate") (hm : X.mg "enumerate" = none) (ha : PA X [e] ta) (hs : starEach [e] X.env = [(false, eval e X.env)] := by rfl) :
    PI X (.Tuple elts kk tpos) (.Call (.Name "enumerate" p) [e] [] pos) (iEnumU X.K ta) := by
  refine ⟨fun pins s σ H R I h => ?_⟩
  refine Call_ (ld_blt I hg hm boot_enumerate (PyProof.Rows.callWith_type1 (thn (ha.run pos pins s σ H _ I h) fun us s1 ⟨vs, H1, I1, r1, q1⟩ => ?_) hs rfl))
  obtain ⟨a, xs, ex, hq, q⟩ := q1
  subst ex
  cases r1 with
  | cons r rr =>
    cases rr
    cases r
    obtain ⟨its, rv, p', hz⟩ := I1.tuple hq
    refine call_enumerate_tup (show s1.heap.IsTuple a its.toArray from p') fun h' he hit hsz hk => wpAny_pyIter_enum he ?_
    have I2 : Inv X pins σ H1 { s1 with heap := h' } := I1.kept (t' := s1.toks) hk
    refine ⟨s1.heap.objs.size + 1, [s1.heap.objs.size + 1, s1.heap.objs.size], _, _, H1, rfl, I2, turn_enumU a (s1.heap.objs.size + 1) s1.heap.objs.size, ⟨⟨.none, he⟩, hit, Nat.succ_ne_self _⟩, fun b hb => ?_, q⟩
    have e' : b = s1.heap.objs.size + 1 ∨ b = s1.heap.objs.size := by simpa using hb
    have hle : s1.heap.objs.size ≤ b := by
      rcases e' with z | z
      · rw [z]; exact Nat.le_add_right _ _
      · rw [z]; exact Nat.le_refl _
    exact I1.fpOk hle (I1.hok.fresh hle)
def enU (x : Va) (h : Hs) : Option (Src × Nat) := match x with
  | .tup xs => some (srcEV xs, xs.length)
  | x => enT x h
def sEnuX (f : Sm (List Va)) : Sit := bnd f fun xs _ h => match xs with
  | [x] => match enU x h with
    | some s => .ok s h
    | none => .bad
  | _ => .bad
theorem srcEu_of {C : Ct} {ρ : List Addr} {H : Hp} {xs : List Va} {vs : List V} {a : Addr} (hq : SqT C.K H a vs) (rl : RpL C ρ H xs vs) : SrcR C ρ H (srcEV xs) (Iteu C.K a) := by
  refine ⟨fun ρ1 H1 h1 i ex hr e => ?_, fun ρ1 H1 h1 i y ex hr e => ?_⟩
  · unfold srcEV at e
    cases q : xs[i]? with
    | none => exact ⟨vs, ex.tup _ _ hq, by rw [← rl.length]; exact List.getElem?_eq_none_iff.mp q⟩
    | some c => rw [q] at e; cases e
  · unfold srcEV at e
    cases q : xs[i]? with
    | none => rw [q] at e; cases e
    | some c =>
      rw [q] at e
      cases e
      obtain ⟨v, h1', h2'⟩ := rpL_to rl i c q
      refine ⟨⟨vs, v, ex.tup _ _ hq, h1'⟩, fun w H2 ⟨T, x, e1, e2, e3, e4⟩ => ?_⟩
      subst e1 e3
      have hx := e4 vs (ex.tup _ _ hq)
      rw [h1'] at hx
      cases hx
      have en := ext_new (C := C) (ρ := ρ1) (o := .tup [.int (i : Nat), v]) e2
      exact ⟨en, hr.tup_ e2, .tpw (SqT.of upd_same) (.cons (.int _) (.cons ((h2'.mono ex).mono en) .nil))⟩
theorem si_enumX {X : Cx} {W : WX} {a : Expr} {fa : Sm (List Va)} {p pos : Pos} {elts : List Expr} {kk : Nat} {tpos : Pos} (hg : Gl X "enumerate") (hm : X.mg "enumerate" = none) (ha : PA X [a] (tAr (ctOf X) W fa)) (hs : starEach [a] X.env = [(false, eval a X.env)] := by rfl) : PI X (.Tuple elts kk tpos) (.Call (.Name "enumerate" p) [a] [] pos) (tIt (ctOf X) W (sEnuX fa)) :=
  pi_of (pi_or (pi_enumU hg hm ha hs) (si_enumT (W := W) hg hm ha hs)) fun σ H Q h => by
    obtain ⟨ρ, e, hh, hs', hr, p⟩ := h
    unfold sEnuX bnd at p
    cases q : fa e hh with
    | ok xs h1 =>
      rw [q] at p
      match xs, q, p with
      | [], q, p => exact p.elim
      | [.tup s], q, p =>
        refine .inl ⟨ρ, e, hh, hs', hr, ?_⟩
        rw [q]
        intro ρ' H' v ex hr' rv
        cases rv with
        | cons r1 r2 =>
          cases r2
          cases r1 with
          | tup hq rl => exact ⟨_, _, rfl, hq.sq, (Po.mono ex p) ρ' H' _ .refl hr' (srcEu_of hq.sq rl)⟩
      | [.non], q, p => exact .inr ⟨ρ, e, hh, hs', hr, by unfold sEnuT bnd; rw [q]; exact p⟩
      | [.bl _], q, p => exact .inr ⟨ρ, e, hh, hs', hr, by unfold sEnuT bnd; rw [q]; exact p⟩
      | [.int _], q, p => exact .inr ⟨ρ, e, hh, hs', hr, by unfold sEnuT bnd; rw [q]; exact p⟩
      | [.str _], q, p => exact .inr ⟨ρ, e, hh, hs', hr, by unfold sEnuT bnd; rw [q]; exact p⟩
      | [.ros _], q, p => exact .inr ⟨ρ, e, hh, hs', hr, by unfold sEnuT bnd; rw [q]; exact p⟩
      | [.loc _], q, p => exact .inr ⟨ρ, e, hh, hs', hr, by unfold sEnuT bnd; rw [q]; exact p⟩
      | [.fn _], q, p => exact .inr ⟨ρ, e, hh, hs', hr, by unfold sEnuT bnd; rw [q]; exact p⟩
      | [.ty _], q, p => exact .inr ⟨ρ, e, hh, hs', hr, by unfold sEnuT bnd; rw [q]; exact p⟩
      | [.rg _ _ _], q, p => exact .inr ⟨ρ, e, hh, hs', hr, by unfold sEnuT bnd; rw [q]; exact p⟩
      | [.tpw _], q, p => exact .inr ⟨ρ, e, hh, hs', hr, by unfold sEnuT bnd; rw [q]; exact p⟩
      | _ :: _ :: _, q, p => exact p.elim
    | ex x h1 =>
      rw [q] at p
      refine .inl ⟨ρ, e, hh, hs', hr, ?_⟩
      rw [q]
      exact p
    | bad => rw [q] at p; exact p.elim
end Fw

set_option Elab.async false
set_option linter.all false
set_option maxRecDepth 100000
set_option maxHeartbeats 2000000
set_option autoImplicit false
namespace Fw
open PySem PySem.Spec L2
open PyProof.Rows hiding St
/-! ### list.pop(i) -/
def kPopA : Va → List Va → Hs → Rs Va
  | .loc n, [.int i] => fun h => match h[n]? with
    | some (.lst xs) => if 0 ≤ i ∧ i < 2 ^ 62 then match xs[i.toNat]? with
      | some y => .ok y (h.set n (.lst (xs.eraseIdx i.toNat)))
      | none => .bad
      else .bad
    | _ => .bad
  | _, _ => fun _ => .bad
theorem erase_rp {C : Ct} {ρ : List Addr} {H : Hp} : ∀ {xs : List Va} {vs : List V} (i : Nat), RpL C ρ H xs vs → RpL C ρ H (xs.eraseIdx i) (vs.eraseIdx i)
  | _, _, _, .nil => .nil
  | _, _, 0, .cons _ t => t
  | _, _, i + 1, .cons q t => .cons q (erase_rp i t)
theorem ms_popA {X : Cx} : MtK X "list.pop" kPopA := ⟨rPopAt, mt_popAt, by
  intro ρ H h x xs v vs W Q hr rv rs p
  unfold kPopA at p
  split at p
  · rename_i n i
    obtain ⟨w, rfl, rw⟩ : ∃ w, vs = [w] ∧ Rp _ _ _ (.int i) w := by
      cases rs with
      | cons r t => cases t; exact ⟨_, rfl, r⟩
    cases rw
    split at p
    · rename_i ys hn
      obtain ⟨a, us, rfl, ha, hl, rl⟩ := hr.ls_ hn rv
      split at p
      · rename_i hi
        split at p
        · rename_i y hy
          obtain ⟨w, q1, q2⟩ := rl.get hy
          obtain ⟨e1, e2⟩ := hr.write hn ha hl (erase_rp i.toNat rl)
          have len := rl.length
          have il := (List.getElem?_eq_some_iff.mp hy).1
          refine ⟨a, us, i, i.toNat, w, rfl, rfl, hl, by omega, by omega, ?_, q1, p ρ _ w e1 e2 (q2.mono e1)⟩
          unfold seqIndex?
          simp only []
          split <;> simp <;> omega
        · exact p.elim
      · exact p.elim
    · exact p.elim
  · exact p.elim⟩
/-! ### sorted, of numbers or of pairs -/
def kSrtM (xs : List Va) (h : Hs) : Rs Va := match kSrtI xs h with
  | .bad => kSrtP xs h
  | r => r
end Fw

set_option Elab.async false
set_option linter.all false
set_option maxRecDepth 100000
set_option maxHeartbeats 2000000
set_option autoImplicit false
namespace Fw
open PySem PySem.Spec L2
open PyProof.Rows hiding St
/-! ### sorted, a list of tuples of ints, of any lengths but none empty -/
def ltT : List Int → List Int → Bool
  | [], [] => false
  | [], _ :: _ => true
  | _ :: _, [] => false
  | x :: r, y :: t => decide (x < y) || (!decide (y < x) && ltT r t)
def leT (a b : List Int) : Prop := ltT b a = false
instance (a b : List Int) : Decidable (leT a b) := by unfold leT; infer_instance
def insT (x : List Int) : List (List Int) → List (List Int)
  | [] => [x]
  | y :: ys => if leT x y then x :: y :: ys else y :: insT x ys
def srtT : List (List Int) → List (List Int)
  | [] => []
  | x :: xs => insT x (srtT xs)
theorem insT_perm (x : List Int) : ∀ ys, (insT x ys).Perm (x :: ys)
  | [] => .refl _
  | y :: ys => by
    unfold insT
    split
    · exact .refl _
    · exact ((insT_perm x ys).cons y).trans (.swap x y ys)
theorem srtT_perm : ∀ xs, (srtT xs).Perm xs
  | [] => .refl _
  | x :: xs => (insT_perm x _).trans ((srtT_perm xs).cons x)
/-- these values are these tuples -/
inductive Tps (K : PySem.W.Frag) (H : Hp) : List V → List (List Int) → Prop
  | nil : Tps K H [] []
  | cons {t : Addr} {is : List Int} {xs : List V} {ps : List (List Int)} : SqD K H t (is.map V.int) → is ≠ [] → Tps K H xs ps → Tps K H (.ref t :: xs) (is :: ps)
theorem Tps.mem {K : PySem.W.Frag} {H : Hp} : ∀ {xs : List V} {ps : List (List Int)}, Tps K H xs ps → ∀ x ∈ xs, ∃ t is, x = V.ref t ∧ SqD K H t (is.map V.int) ∧ is ≠ []
  | _, _, .nil, x, m => by simp at m
  | _, _, .cons h n r, x, m => by
    rcases List.mem_cons.mp m with rfl | m
    · exact ⟨_, _, rfl, h, n⟩
    · exact Tps.mem r x m
theorem Tps.key {K : PySem.W.Frag} {H : Hp} {k : V → List Int} (hk : ∀ t is, SqD K H t (is.map V.int) → k (.ref t) = is) : ∀ {xs : List V} {ps : List (List Int)}, Tps K H xs ps → ps = xs.map k
  | _, _, .nil => rfl
  | _, _, .cons h _ r => by rw [List.map_cons, hk _ _ h, ← Tps.key hk r]
theorem Tps.of_key {K : PySem.W.Frag} {H : Hp} {k : V → List Int} (hk : ∀ t is, SqD K H t (is.map V.int) → k (.ref t) = is) : ∀ {xs : List V}, (∀ x ∈ xs, ∃ t is, x = V.ref t ∧ SqD K H t (is.map V.int) ∧ is ≠ []) → Tps K H xs (xs.map k)
  | [], _ => .nil
  | x :: xs, h => by
    obtain ⟨t, is, rfl, q, n⟩ := h x List.mem_cons_self
    rw [List.map_cons, hk t is q]
    exact .cons q n (Tps.of_key hk fun y m => h y (List.mem_cons_of_mem _ m))
end Fw
namespace Fw
open PySem PySem.Spec L2
open PyProof.Rows hiding St
def tupV (is : List Int) : Va := .tup (is.map Va.int)
end Fw

set_option Elab.async false
set_option linter.all false
set_option maxRecDepth 100000
set_option maxHeartbeats 2000000
set_option autoImplicit false
namespace Fw
open PySem PySem.Spec L2
open PyProof.Rows hiding St
section
variable {X : Cx} {W : WX} {f f1 : Sit} {g g1 : Tg} {t t1 : Sm Bool} {el : Sx} {own own1 : List Nat} {gg gg1 : TG} {pos : Pos} {c : Expr}
end
end Fw
namespace Fw
open PySem PySem.Spec L2
open PyProof.Rows hiding St
section
variable {X : Cx} {W : WX} {f f1 : Sit} {g g1 : Tg} {t t1 : Sm Bool} {el : Sx} {own own1 : List Nat} {gg gg1 : TG} {pos : Pos} {c : Expr}
end
end Fw

set_option Elab.async false
set_option linter.all false
set_option maxRecDepth 100000
set_option maxHeartbeats 2000000
set_option autoImplicit false
namespace Fw
open PySem PySem.Spec L2
open PyProof.Rows hiding St
/-! ### the least and the greatest of a list of numbers -/
def greatI (m : Int) (ns : List Int) : Int := -(leastI (-m) (ns.map fun x => -x))
end Fw

set_option Elab.async false
set_option linter.all false
set_option maxRecDepth 100000
set_option maxHeartbeats 2000000
set_option autoImplicit false
namespace Fw
open PySem PySem.Spec L2
open PyProof.Rows hiding St
section
variable {X : Cx} {W : WX} {a b c : Expr} {ta : TA} {fa : Sm (List Va)} {p pos p' pos' : Pos}
end
end Fw

set_option Elab.async false
set_option linter.all false
set_option maxRecDepth 100000
set_option maxHeartbeats 2000000
set_option autoImplicit false
namespace Fw
open PySem PySem.Spec L2 PyProof PyProof.Rows
/-! ### the greatest of a tuple of ints -/
section
variable {prog : Program} {w : World} {A : Around} {E : Value → Shared → Prop} {s : Shared} {l : Addr}
end
section
variable {X : Cx}
end
end Fw

set_option Elab.async false
set_option linter.all false
set_option maxRecDepth 100000
set_option maxHeartbeats 2000000
set_option autoImplicit false
namespace Fw
open PySem PySem.Spec L2
open PyProof.Rows hiding St
/-! ### range objects kept in a name -/
section
variable {X : Cx}
end
section
variable {X : Cx} {W : WX} {tg e : Expr} {fe : Sx}
end
end Fw

set_option Elab.async false
set_option linter.all false
set_option maxRecDepth 100000
set_option maxHeartbeats 2000000
set_option autoImplicit false
namespace Fw
open PySem PySem.Spec L2
open PyProof.Rows hiding St
/-! ### sorted of a dict of ai, of any length -/
section
variable {X : Cx}
end
end Fw

set_option Elab.async false
set_option linter.all false
set_option maxRecDepth 100000
set_option maxHeartbeats 2000000
set_option autoImplicit false
namespace Fw
open PySem PySem.Spec L2
open PyProof.Rows hiding St
/-! ### isinstance(x, T) of plain types -/
def tyN : Va → Hs → Option String
  | .non, _ => some "NoneType"
  | .bl _, _ => some "bool"
  | .int _, _ => some "int"
  | .str _, _ => some "str"
  | .tup _, _ => some "tuple"
  | .loc n, h => match h[n]? with
    | some (.lst _) => some "list"
    | some (.dct _) => some "dict"
    | _ => none
  | _, _ => none
def isTs : List String := ["int", "str", "tuple", "list", "dict", "bool"]
def isNs : List String := ["NoneType", "bool", "int", "str", "tuple", "list", "dict"]
def isB (N T : String) : Bool := decide (N = T) || (decide (N = "bool") && decide (T = "int"))
theorem kit_one (K : PySem.W.Frag) : ∀ N ∈ isNs, ∀ T ∈ isTs, PySem.W.kitOne K (.type N) (.type T) = some (isB N T) := by
  intro N hN T hT
  simp only [isNs, isTs, List.mem_cons, List.not_mem_nil, or_false] at hN hT
  rcases hN with rfl | rfl | rfl | rfl | rfl | rfl | rfl <;> rcases hT with rfl | rfl | rfl | rfl | rfl | rfl <;> rfl
theorem tyN_in : ∀ {x : Va} {h : Hs} {N : String}, tyN x h = some N → N ∈ isNs := by
  intro x h N e
  cases x with
  | loc n =>
    have e : (match h[n]? with | some (.lst _) => some "list" | some (.dct _) => some "dict" | _ => none) = some N := e
    split at e <;> first
      | (cases e; decide)
      | cases e
  | _ => first
    | (cases e; decide)
    | cases e
theorem tyN_of {C : Ct} {ρ : List Addr} {H : Hp} {h : Hs} (hr : HR C ρ h H) {x : Va} {v : V} (r : Rp C ρ H x v) {N : String} (e : tyN x h = some N) : TyX C.K H v (.type N) := by
  cases r with
  | non => cases e; exact .base .non
  | bl b => cases e; exact .base (.bl b)
  | int i => cases e; exact .base (.int i)
  | str s => cases e; exact .base (.str _)
  | tup hq rl =>
    cases e
    rcases hq.sq with (q | ⟨o, q⟩) | ⟨o, its, n, q, c, _⟩
    · exact .base (.tup q)
    · exact .fTuple q
    · exact .kTuple q c
  | ros hq rl => cases e
  | loc hq =>
    rename_i n a
    have e : (match h[n]? with | some (.lst _) => some "list" | some (.dct _) => some "dict" | _ => none) = some N := e
    split at e
    · rename_i xs hn
      cases e
      obtain ⟨vs, e1, _⟩ := hr.ob n _ a hn hq
      exact .base (.lst e1)
    · rename_i xs hn
      cases e
      obtain ⟨vs, e1, _⟩ := hr.ob n _ a hn hq
      exact .base (.dK e1)
    · cases e
  | fn _ => cases e
  | ty _ => cases e
  | rg _ => cases e
  | tpw _ _ => cases e
def kIsI : List Va → Hs → Rs Va
  | [x, .ty T] => fun h => match tyN x h with
    | some N => if T ∈ isTs then .ok (.bl (isB N T)) h else .bad
    | none => .bad
  | _ => fun _ => .bad
theorem cs_isI {X : Cx} : CaK X (.builtin "isinstance") kIsI := ⟨_, call_isi, by
  intro ρ H h xs vs W Q hr r p
  unfold kIsI at p
  split at p
  · rename_i x T
    cases r with
    | cons rx rr =>
      cases rr with
      | cons rt rr =>
        cases rr
        cases rt
        split at p
        · rename_i N e
          split at p
          · rename_i c
            exact ⟨_, _, _, _, _, rfl, .ty T, tyN_of hr rx e, kit_one _ N (tyN_in e) T c, Po_ok p hr (.bl _)⟩
          · exact p.elim
        · exact p.elim
  · exact p.elim⟩
end Fw

set_option Elab.async false
set_option linter.all false
set_option maxRecDepth 100000
set_option maxHeartbeats 2000000
set_option autoImplicit false
namespace Fw
open PySem PySem.Spec L2
open PyProof.Rows hiding St
section
variable {X : Cx} {o e : Expr} {es : List Expr} {to : TE} {t : TA} {name : Str} {apos cpos : Pos} {id : String} {r : V → List V → Hp → VK → Prop}
end
section
variable {X : Cx} {W : WX} {o e : Expr} {es : List Expr} {fo : Sx} {fa : Sm (List Va)} {name : Str} {apos cpos : Pos} {id : String} {k : Va → List Va → Hs → Rs Va}
end
end Fw

set_option Elab.async false
set_option linter.all false
set_option maxRecDepth 100000
set_option maxHeartbeats 2000000
set_option autoImplicit false
namespace Fw
open PySem PySem.Spec L2
open PyProof.Rows hiding St
/-! ### a tuple from a place on, every second thing -/
def by2I (i n : Nat) : List Nat := (List.range ((n - min i n + 1) / 2)).map fun m => min i n + m * 2
def by2 {α : Type} (i : Nat) (xs : List α) : List α := (by2I i xs.length).filterMap (xs[·]?)
theorem by2_le {α : Type} (i : Nat) (xs : List α) : (by2 i xs).length ≤ xs.length := by
  unfold by2 by2I
  refine Nat.le_trans (List.length_filterMap_le _ _) ?_
  rw [List.length_map, List.length_range]
  omega
theorem rpL_pick {C : Ct} {ρ : List Addr} {H : Hp} {xs : List Va} {vs : List V} (r : RpL C ρ H xs vs) : ∀ l : List Nat, RpL C ρ H (l.filterMap (xs[·]?)) (l.filterMap (vs[·]?))
  | [] => .nil
  | i :: l => by
    rw [List.filterMap_cons, List.filterMap_cons]
    cases q : xs[i]? with
    | none =>
      have : vs[i]? = none := List.getElem?_eq_none_iff.mpr (by rw [← r.length]; exact List.getElem?_eq_none_iff.mp q)
      rw [this]
      exact rpL_pick r l
    | some x =>
      obtain ⟨u, hu, ru⟩ := r.get q
      rw [hu]
      exact .cons ru (rpL_pick r l)
section
variable {prog : Program} {w : World} {A : Around} {E : Value → Shared → Prop} {s : Shared}
theorem adjust_by2 (i n : Nat) : Builtin.Slice.sliceAdjust (some (i : Nat)) none 2 (n : Int) = (((min i n : Nat) : Int), (n : Int)) := by
  show ((if ((i : Nat) : Int) < 0 then max ((i : Int) + n) 0 else min (i : Int) (n : Int)), (n : Int)) = _
  rw [if_neg (by omega)]
  congr 1
  omega
theorem places_by2 (i n : Nat) : Builtin.Slice.slicePlaces ((min i n : Nat) : Int) (n : Int) 2 = (n - min i n + 1) / 2 := by
  unfold Builtin.Slice.slicePlaces
  rw [if_pos (by decide)]
  split <;> omega
theorem applied_by2 {sl : Addr} {vl vu vs : Value} {i n : Nat} {Q : Int × Int × Nat → Shared → Prop} (hs : s.heap.IsSliceOf sl vl vu vs) (pl : IsPart vl (some (i : Nat))) (pu : IsPart vu none) (ps : IsPart vs (some 2))
    (h : Q (((min i n : Nat) : Int), 2, (n - min i n + 1) / 2) s) : wpAny (model prog w) A (Builtin.Slice.sliceApplied (.ref sl) (pure (n : Int))) Q E s := by
  obtain ⟨os, hos, hcs, hds⟩ := id hs
  unfold Builtin.Slice.sliceApplied Builtin.Slice.sliceFields
  refine wpAny_bind (wpAny_bind (wpAny_field hos hds (x := vl) rfl (wpAny_bind (wpAny_field hos hds (x := vu) rfl (wpAny_bind (wpAny_field hos hds (x := vs) rfl (wpAny_pure ?_)))))))
  refine wpAny_bind (HT.slicePart_ ps ?_)
  show wpAny _ _ (if ((2 : Int) == 0) = true then _ else _) _ _ s
  rw [if_neg (by decide)]
  refine wpAny_bind (HT.slicePart_ pl (wpAny_bind (HT.slicePart_ pu (wpAny_bind (wpAny_pure ?_)))))
  show wpAny _ _ (match Builtin.Slice.sliceAdjust (some (i : Nat)) none 2 (n : Int) with | (lo, hi) => pure (lo, (2 : Int), Builtin.Slice.slicePlaces lo hi 2)) _ _ s
  rw [adjust_by2 i n]
  show wpAny _ _ (pure (((min i n : Nat) : Int), (2 : Int), Builtin.Slice.slicePlaces ((min i n : Nat) : Int) (n : Int) 2)) _ _ s
  rw [places_by2]
  exact wpAny_pure h
theorem pick_by2 (i : Nat) (xs : Array Value) : ((List.range ((xs.size - min i xs.size + 1) / 2)).filterMap fun (m : Nat) => xs[(((min i xs.size : Nat) : Int) + (m : Int) * 2).toNat]?).toArray = (by2 i xs.toList).toArray := by
  congr 1
  unfold by2 by2I
  rw [List.filterMap_map, Array.length_toList]
  refine fm_ext fun m _ => ?_
  show _ = xs.toList[min i xs.size + m * 2]?
  rw [show (((min i xs.size : Nat) : Int) + (m : Int) * 2).toNat = min i xs.size + m * 2 by omega, Array.getElem?_toList]
theorem item_by2 {t sl : Addr} {items : Array Value} {vl vu vs : Value} {i : Nat} {Q : Value → Shared → Prop} (ht : IsTup s.heap t items) (hs : s.heap.IsSliceOf sl vl vu vs) (pl : IsPart vl (some (i : Nat))) (pu : IsPart vu none) (ps : IsPart vs (some 2))
    (h : Q (.ref s.heap.objs.size) { s with heap := s.heap.push { cls := .type "tuple", data := .seq (by2 i items.toList).toArray } })
    (hsz : items.size ≤ sizeLine) : wpAny (model prog w) A (getItem (.ref t) (.ref sl)) Q E s := by
  have htake : sizeOk (.seq (by2 i items.toList).toArray) := by
    show (by2 i items.toList).toArray.size ≤ sizeLine
    rw [List.size_toArray]
    exact Nat.le_trans (by2_le _ _) (by rw [Array.length_toList]; exact hsz)
  obtain ⟨os, hos, hcs, hds⟩ := id hs
  have hTs : s.TypeIs (.ref sl) "slice" := ⟨os, hos, hcs⟩
  unfold getItem
  try with_reducible refine wpAny_holding ?_
  first | refine wpAny_bind (wpAny_pure ?_) | skip
  refine wpAny_bind (wpAny_sequenceKey ht.typeIs (by decide) ?_)
  refine wpAny_bind (wpAny_callSpecial?_slot (name := Str.ofString "__getitem__") ht.typeIs PyProof.Rows.slot_tuple_getitem
    (wpAny_call_entry PyProof.Rows.slot_tuple_getitem ht.typeIs entry_tuple_getitem ?_ (args_tuple_getitem _ _)))
  show wpAny _ _ (Builtin.Tuple.tupleItemsOf (.ref t) >>= _) _ _ s
  refine wpAny_bind (PyProof.Rows.tupleItemsOf_ ht ?_)
  refine wpAny_bind (wpAny_typeOf hTs ?_)
  rw [if_pos (by decide)]
  refine wpAny_bind (applied_by2 hs pl pu ps ?_)
  have hno : ¬ ((((min i items.size : Nat) : Int) == 0 && (2 : Int) == 1 && (items.size - min i items.size + 1) / 2 == items.size) = true) := by
    intro q
    rw [Bool.and_eq_true, Bool.and_eq_true] at q
    exact absurd q.1.2 (by decide)
  show wpAny _ _ (if (((min i items.size : Nat) : Int) == 0 && (2 : Int) == 1 && (items.size - min i items.size + 1) / 2 == items.size) = true then _ else _) _ _ s
  rw [if_neg hno, pick_by2]
  first
    | exact wpAny_bind (m := Builtin.Tuple.tupleExact _) (wpAny_newObj_type (wpAny_pure ⟨_, rfl, wpAny_pure h⟩) htake)
    | exact wpAny_bind (m := Builtin.Tuple.tupleExact _) (wpAny_newObj_type (wpAny_bind (wpAny_pure (wpAny_pure ⟨_, rfl, wpAny_pure h⟩))) htake)
    | exact wpAny_bind (wpAny_bind (m := Builtin.Tuple.tupleExact _) (wpAny_newObj_type (wpAny_pure (wpAny_pure ⟨_, rfl, wpAny_pure h⟩)) htake))
    | exact wpAny_bind (wpAny_bind (m := Builtin.Tuple.tupleExact _) (wpAny_newObj_type (wpAny_pure ⟨_, rfl, wpAny_pure h⟩) htake))
end
def tBy2 (K : PySem.W.Frag) (te tl : TE) : TE := fun σ H Q => te σ H fun x H1 => tPart tl σ H1 fun o H2 => ∃ (a : Addr) (xs : List V) (i : Nat), x = .ref a ∧ o = some ((i : Nat) : Int) ∧ SqT K H2 a xs ∧ NewT Q H2 (by2 i xs)
theorem pe_by2 {X : Cx} {e lo : Expr} {te tl : TE} {k : Nat} {p1 p3 pos : Pos} (he : PE X e te) (hl : PE X lo tl) : PE X (.Subscript e (.Slice (some lo) none (some (.Constant (.int 2) k p1)) p3) pos) (tBy2 X.K te tl) := by
  refine ⟨fun pins s σ H Q I h => ?_⟩
  refine Subscript_ (L2.thn (he.run pins s σ H _ I h) fun v s1 ⟨x, H1, I1, r1, q1⟩ => ?_)
  have hlo : PO X (some lo) (tPart tl) := po_some hl
  have hst : PO X (some (.Constant (.int 2) k p1)) (tPart (tC (.int 2))) := po_some pe_int
  refine wpAny_Slice (L2.thn (hlo.run pins s1 σ H1 (fun o H2 => ∃ (a : Addr) (xs : List V) (i : Nat), x = .ref a ∧ o = some ((i : Nat) : Int) ∧ SqT X.K H2 a xs ∧ NewT Q H2 (by2 i xs)) I1 ?_) fun vl s2 ⟨l, H2, I2, pl, q2⟩ => ?_)
  · exact q1
  obtain ⟨a, xs, i, ex, el, hx, q⟩ := q2
  subst ex el
  cases r1
  refine L2.thn (po_none.run pins s2 σ H2 (fun o H3 => o = none ∧ H3 = H2) I2 ⟨rfl, rfl⟩) fun vu s3 ⟨u, H3, I3, pu, eu, e3⟩ => ?_
  subst eu e3
  refine L2.thn (hst.run pins s3 σ H3 (fun o H4 => o = some 2 ∧ H4 = H3) I3 ⟨2, rfl, rfl, rfl⟩) fun vs s4 ⟨o, H4, I4, ps, eo, e4⟩ => ?_
  subst eo e4
  have I5 : L2.Inv X pins σ H4 { s4 with heap := s4.heap.push { cls := .type "slice", data := .fields #[vl, vu, vs] } } := I4.kept (t' := s4.toks) fun b ob q => Heap.get?_push_of_some _ q
  obtain ⟨its, r, ht, hz⟩ := I5.tuple hx
  have hlen := r.length
  show wpAny (model X.prog X.w) X.A (subscriptTail e (.Slice (some lo) none (some (.Constant (.int 2) k p1)) p3) (.ref a) (.ref s4.heap.objs.size)) (EP X pins σ Q) X.xe { s4 with heap := s4.heap.push { cls := .type "slice", data := .fields #[vl, vu, vs] } }
  refine tail_any (ops := [.ref a, .ref s4.heap.objs.size]) ht.typeIs (PyProof.Rows.slot_tuple_getitem.lookup) ?_ (by with_unfolding_all rfl)
  refine item_by2 ht (Heap.IsSliceOf.new _ vl vu vs) pl pu ps ?_ (by rw [List.size_toArray]; omega)
  have rr : Vals (by2 i xs) (by2 i its) := by
    unfold by2
    rw [hlen]
    exact vals_pick r _
  exact ⟨.ref _, _, laidD (t' := s4.toks) I5 (fun b ob q => Heap.get?_push_of_some _ q) (Nat.le_refl _) (Heap.get?_push_size _ rfl) rr (Nat.le_trans (by2_le _ _) hz), rfl, q _ _ (tupO_seq _) (I5.hok.fresh (Nat.le_refl _))⟩
/-- x[i::2] of a text or a tuple -/
def kBy2 (x y : Va) (h : Hs) : Rs Va := match x with
  | .tup xs => match y with
    | .int i => if 0 ≤ i then .ok (.tup (by2 i.toNat xs)) h else .bad
    | _ => .bad
  | x => kStp2 x y h
theorem se_by2 {X : Cx} {W : WX} {e lo : Expr} {fe fl : Sx} {k : Nat} {p1 p3 pos : Pos} (he : PE X e (tE (ctOf X) W fe)) (hl : PE X lo (tE (ctOf X) W fl)) : PE X (.Subscript e (.Slice (some lo) none (some (.Constant (.int 2) k p1)) p3) pos) (tE (ctOf X) W (s2 kBy2 fe fl)) :=
  pe_of (pe_or (se_stp he hl) (pe_by2 he hl)) fun σ H Q h => by
    obtain ⟨ρ, e, hh, hs, hr, p⟩ := h
    unfold s2 bnd at p
    cases q : fe e hh with
    | ok x h1 =>
      rw [q] at p
      cases x with
      | tup z =>
        refine .inr ⟨ρ, e, hh, hs, hr, ?_⟩
        rw [q]
        intro ρ' H' v ex hr' rv
        cases rv with
        | tup hq rl =>
          refine Po_bnd (k := fun y => vl (kBy2 (.tup z) y)) (hs.mono ex) hr' (Po.mono ex p) fun ρ2 H2 h2 y u e2 hs2 hr2 ru p2 => ?_
          cases y with
          | int i =>
            cases ru
            have p2 : Po _ _ _ _ _ _ (if 0 ≤ i then Rs.ok (Va.tup (by2 i.toNat z)) h2 else .bad) := p2
            split at p2
            · rename_i c
              have rl2 := rl.mono e2
              refine ⟨i, rfl, _, _, i.toNat, rfl, by rw [Int.toNat_of_nonneg c], (hq.mono e2).sq, Po_tup hr2 ?_ p2⟩
              unfold by2
              rw [← rl2.length]
              exact rpL_pick rl2 _
            · exact p2.elim
          | _ => exact p2.elim
      | _ =>
        refine .inl ⟨ρ, e, hh, hs, hr, ?_⟩
        unfold s2 bnd
        rw [q]
        exact p
    | ex x h1 =>
      refine .inl ⟨ρ, e, hh, hs, hr, ?_⟩
      unfold s2 bnd
      rw [q] at p ⊢
      exact p
    | bad => rw [q] at p; exact p.elim
end Fw

set_option Elab.async false
set_option linter.all false
set_option maxRecDepth 100000
set_option maxHeartbeats 2000000
set_option autoImplicit false
namespace Pg
open PySem PySem.Spec L2 Fw 
open PyProof.Rows hiding St
def b_is_within : Ss :=
  (sRet (sAndV (s2 (kIs false) (sBlt kTyp (sCons (sVar 0) sNil)) (sK (.ty "int"))) (sChn kLe kLe (sVar 1) (sVar 0) (sVar 2))))
abbrev R_is_within : Fn := runB 3 b_is_within
def G_is_within : Fn := pureF R_is_within
def b_is_text : Ss :=
  (sRet (sAndV (s2 (kIs false) (sBlt kTyp (sCons (sVar 0) sNil)) (sK (.ty "str"))) (sAndV (sChn kLe kLe (sVar 2) (sBlt kLen (sCons (sVar 0) sNil)) (sVar 3)) (s2 kEq (sMth "str" kStrp (sVar 0) (sCons (sVar 1) sNil)) (sK (.str []))))))
abbrev R_is_text : Fn := runB 4 b_is_text
def G_is_text : Fn := pureF R_is_text
def b_mates_of : Ss :=
  (seq (sSet 1 (s2 kMul (sLst (sCons (sK (.int 0)) sNil)) (sBlt kLen (sCons (sVar 0) sNil))))
  (seq (sSet 2 (sLst sNil))
  (seq (sFor (sEnuT (sCons (sVar 0) sNil)) (gTp 2 (gsCons (gNm 3) (gsCons (gNm 4) gsNil)))
  (sIf (sBl (s2 kEq (sVar 4) (sK (.str [40]))))
  (sDrop (sMth "list" kApp (sVar 2) (sCons (sVar 3) sNil)))
  (seq (sSet 5 (sMth "list" kPop (sVar 2) sNil))
  (seq (sAsg (sVar 5) (gSb (sVar 1) (sVar 3)))
  (sAsg (sVar 3) (gSb (sVar 1) (sVar 5)))))))
  (sRet (sVar 1)))))
abbrev R_mates_of : Fn := runB 6 b_mates_of
def G_mates_of : Fn := pureF R_mates_of
def b_row_of_mates : Ss :=
  (sRet (sMth "str" kJoin (sK (.str [])) (sCons (sLc (sEnuT (sCons (sVar 0) sNil)) (gTp 2 (gsCons (gNm 1) (gsCons (gNm 2) gsNil))) tru (sIte (sBl (s2 kLt (sVar 1) (sVar 2))) (sK (.str [40])) (sK (.str [41]))) [1, 2]) sNil)))
abbrev R_row_of_mates : Fn := runB 3 b_row_of_mates
@[irreducible] def G_row_of_mates : Fn := R_row_of_mates
def b_walk_from : Ss :=
  (seq (sSet 3 (sLst sNil))
  (seq (sSet 4 (sVar 2))
  (seq (whl (sOr (sNot (sTru (sVar 3))) (sBl (s2 kNe (sVar 4) (sVar 2))))
  (seq (sSet 5 (s2 kIx (sVar 0) (sVar 4)))
  (seq (sDrop (sMth "list" kApp (sVar 3) (sCons (sVar 4) sNil)))
  (seq (sDrop (sMth "list" kApp (sVar 3) (sCons (sVar 5) sNil)))
  (sSet 4 (s2 kIx (sVar 1) (sVar 5)))))) 1000)
  (sRet (sVar 3)))))
abbrev R_walk_from : Fn := runB 6 b_walk_from
@[irreducible] def G_walk_from : Fn := R_walk_from
theorem g_walk_from (xs : List Va) (h : Hs) (_ : xs.length = 3) (_ : G_walk_from xs h ≠ .bad) : R_walk_from xs h = G_walk_from xs h := congrFun (congrFun (show R_walk_from = G_walk_from from by unfold G_walk_from; rfl) xs) h
def b__follow : Ss :=
  (seq (sSet 4 (sBlt kLen (sCons (sVar 3) sNil)))
  (seq (sSet 5 (s2 kLt (sVar 2) (sVar 4)))
  (seq (sSet 6 (sIte (sTru (sVar 5)) (s2 kIx (sVar 0) (sVar 2)) (s2 kIx (sVar 1) (sVar 2))))
  (seq (whl (sBl (s2 kNe (s2 kLt (sVar 6) (sVar 4)) (sVar 5)))
  (seq (sSet 6 (s2 kSub (s2 kSub (sBlt kLen (sCons (sVar 0) sNil)) (sK (.int 1))) (sVar 6)))
  (seq (sSet 5 (sNotV (sVar 5)))
  (seq (sAsg (sK (.bl true)) (gSb (sVar 3) (sBlt kMin (sCons (sVar 6) (sCons (s2 kSub (s2 kSub (sBlt kLen (sCons (sVar 0) sNil)) (sK (.int 1))) (sVar 6)) sNil)))))
  (sSet 6 (sIte (sTru (sVar 5)) (s2 kIx (sVar 0) (sVar 6)) (s2 kIx (sVar 1) (sVar 6))))))) 1000)
  (sRet (sVar 6))))))
abbrev R__follow : Fn := runB 7 b__follow
@[irreducible] def G__follow : Fn := R__follow
def b__count_closed : Ss :=
  (seq (sSet 3 (sK (.int 0)))
  (seq (sFor (sRg1 (sCons (sBlt kLen (sCons (sVar 2) sNil)) sNil)) (gNm 4)
  (seq (sIf (sNot (sTru (s2 kIx (sVar 2) (sVar 4))))
  (sAug kIad 3 (sK (.int 1)))
  skip)
  (seq (sSet 5 (sVar 4))
  (whl (sNot (sTru (s2 kIx (sVar 2) (sVar 5))))
  (seq (sAsg (sK (.bl true)) (gSb (sVar 2) (sVar 5)))
  (seq (sSet 6 (s2 kIx (sVar 1) (sVar 5)))
  (seq (sAsg (sK (.bl true)) (gSb (sVar 2) (sVar 6)))
  (sSet 5 (s2 kSub (s2 kSub (sBlt kLen (sCons (sVar 0) sNil)) (sK (.int 1))) (s2 kIx (sVar 0) (s2 kSub (s2 kSub (sBlt kLen (sCons (sVar 0) sNil)) (sK (.int 1))) (sVar 6)))))))) 1000))))
  (sRet (sVar 3))))
abbrev R__count_closed : Fn := runB 7 b__count_closed
@[irreducible] def G__count_closed : Fn := R__count_closed
def b_is_crossing : Ss :=
  (seq (sAsg (sVar 0) (gTp 2 (gsCons (gNm 2) (gsCons (gNm 3) gsNil))))
  (seq (sAsg (sVar 1) (gTp 2 (gsCons (gNm 4) (gsCons (gNm 5) gsNil))))
  (sRet (sOrV (sCh3 kLt kLt kLt (sVar 2) (sVar 4) (sVar 3) (sVar 5)) (sCh3 kLt kLt kLt (sVar 4) (sVar 2) (sVar 5) (sVar 3))))))
abbrev R_is_crossing : Fn := runB 6 b_is_crossing
def G_is_crossing : Fn := pureF R_is_crossing
def b__is_tuple : Ss :=
  (sRet (sAndV (s2 (kIs false) (sBlt kTyp (sCons (sVar 0) sNil)) (sK (.ty "tuple"))) (sChn kLe kLe (sVar 1) (sBlt kLen (sCons (sVar 0) sNil)) (sVar 2))))
abbrev R__is_tuple : Fn := runB 3 b__is_tuple
def G__is_tuple : Fn := pureF R__is_tuple
def b__joined : Ss :=
  (sRet (sBlt kSrtP (sCons (sLc (sZip (sCons (sVar 0) (sCons (sVar 1) sNil))) (gTp 2 (gsCons (gNm 2) (gsCons (gNm 3) gsNil))) tru (sTup (sCons (sBlt kMin (sCons (sVar 2) (sCons (sVar 3) sNil))) (sCons (sBlt kMax (sCons (sVar 2) (sCons (sVar 3) sNil))) sNil))) [2, 3]) sNil)))
abbrev R__joined : Fn := runB 4 b__joined
@[irreducible] def G__joined : Fn := R__joined
theorem g__joined (xs : List Va) (h : Hs) (_ : xs.length = 2) (_ : G__joined xs h ≠ .bad) : R__joined xs h = G__joined xs h := congrFun (congrFun (show R__joined = G__joined from by unfold G__joined; rfl) xs) h
def b_is_row : Ss :=
  (seq (sIf (sNot (sTru (sCall G_is_text 4 [0, 1, 2, 3] (sCons (sVar 0) (sCons (sK (.str [40, 41])) (sCons (sK (.int 0)) (sCons (s2 kMul (sK (.int 2)) (sK (.int 12))) sNil)))))))
  (sRet (sK (.bl false)))
  skip)
  (seq (sSet 1 (sK (.int 0)))
  (seq (sFor (sItr (sVar 0)) (gNm 2)
  (seq (sAug kIad 1 (sIte (sBl (s2 kEq (sVar 2) (sK (.str [40])))) (sK (.int 1)) (s1 kNeg (sK (.int 1)))))
  (sIf (sBl (s2 kLt (sVar 1) (sK (.int 0))))
  (sRet (sK (.bl false)))
  skip)))
  (sRet (s2 kEq (sVar 1) (sK (.int 0)))))))
abbrev R_is_row : Fn := runB 3 b_is_row
def G_is_row : Fn := pureF R_is_row
def b_need_number : Ss :=
  (sIf (sNot (sTru (sCall G_is_within 3 [0, 1, 2] (sCons (sVar 0) (sCons (sVar 1) (sCons (sVar 2) sNil))))))
  never
  skip)
abbrev R_need_number : Fn := runB 3 b_need_number
def G_need_number : Fn := pureF R_need_number
def b_need_foot : Ss :=
  (sIf (sNot (sTru (sCall G_is_within 3 [0, 1, 2] (sCons (sVar 1) (sCons (sK (.int 0)) (sCons (s2 kSub (sBlt kLen (sCons (sVar 0) sNil)) (sK (.int 1))) sNil))))))
  never
  skip)
abbrev R_need_foot : Fn := runB 2 b_need_foot
def G_need_foot : Fn := pureF R_need_foot
def b__rounds_of_mates : Ss :=
  (seq (sSet 2 (sLst sNil))
  (seq (sSet 3 (s2 kMul (sLst (sCons (sK (.bl false)) sNil)) (sBlt kLen (sCons (sVar 0) sNil))))
  (seq (sFor (sRg1 (sCons (sBlt kLen (sCons (sVar 0) sNil)) sNil)) (gNm 4)
  (sIf (sNot (sTru (s2 kIx (sVar 3) (sVar 4))))
  (seq (sSet 5 (sBlt kSrtI (sCons (sCall G_walk_from 3 [0, 1, 2] (sCons (sVar 0) (sCons (sVar 1) (sCons (sVar 4) sNil)))) sNil)))
  (seq (sDrop (sMth "list" kApp (sVar 2) (sCons (sBlt kTpl (sCons (sVar 5) sNil)) sNil)))
  (sFor (sItr (sVar 5)) (gNm 6)
  (sAsg (sK (.bl true)) (gSb (sVar 3) (sVar 6))))))
  skip))
  (sRet (sVar 2)))))
abbrev R__rounds_of_mates : Fn := runB 7 b__rounds_of_mates
@[irreducible] def G__rounds_of_mates : Fn := R__rounds_of_mates
def b__wrong_in_order : Ss :=
  (seq (sFor (sEnuX (sCons (sVar 0) sNil)) (gTp 2 (gsCons (gNm 1) (gsCons (gNm 2) gsNil)))
  (sIf (sOr (sNot (sTru (sCall G_is_within 3 [0, 1, 2] (sCons (sVar 2) (sCons (sK (.int 0)) (sCons (s2 kSub (sBlt kLen (sCons (sVar 0) sNil)) (sK (.int 1))) sNil)))))) (sBl (s2 (kIn false) (sVar 2) (sSl (sVar 0) sNo (sSo (sVar 1))))))
  (sRet (sVar 1))
  skip))
  (sRet (sK .non)))
abbrev R__wrong_in_order : Fn := runB 3 b__wrong_in_order
def G__wrong_in_order : Fn := pureF R__wrong_in_order
def b_arches_along : Ss :=
  (sRet (sTup (sCons (sCall G__joined 2 [0, 1] (sCons (s2 kBy2 (sVar 0) (sK (.int 0))) (sCons (s2 kBy2 (sVar 0) (sK (.int 1))) sNil))) (sCons (sCall G__joined 2 [0, 1] (sCons (s2 kBy2 (sVar 0) (sK (.int 1))) (sCons (s2 kAddW (s2 kBy2 (sVar 0) (sK (.int 2))) (sSlW (sVar 0) sNo (sSo (sK (.int 1))))) sNil))) sNil))))
abbrev R_arches_along : Fn := runB 1 b_arches_along
def G_arches_along : Fn := pureF R_arches_along
def b__is_one_round : Ss :=
  (seq (sIf (sNot (sTru (sVar 0)))
  (sRet (sK (.bl false)))
  skip)
  (sRet (s2 kEq (sBlt kLen (sCons (sCall G_walk_from 3 [0, 1, 2] (sCons (sVar 0) (sCons (sVar 1) (sCons (sK (.int 0)) sNil)))) sNil)) (sBlt kLen (sCons (sVar 0) sNil)))))
abbrev R__is_one_round : Fn := runB 2 b__is_one_round
@[irreducible] def G__is_one_round : Fn := R__is_one_round
theorem g__is_one_round (xs : List Va) (h : Hs) (_ : xs.length = 2) (_ : G__is_one_round xs h ≠ .bad) : R__is_one_round xs h = G__is_one_round xs h := congrFun (congrFun (show R__is_one_round = G__is_one_round from by unfold G__is_one_round; rfl) xs) h
def b_need_row : Ss :=
  (sIf (sNot (sTru (sCall G_is_row 1 [0] (sCons (sVar 0) sNil))))
  never
  skip)
abbrev R_need_row : Fn := runB 1 b_need_row
def G_need_row : Fn := pureF R_need_row
def b_unit : Ss :=
  (seq (sDrop (sCall G_need_number 3 [0, 1, 2] (sCons (sVar 0) (sCons (sK (.int 1)) (sCons (sK (.int 12)) sNil)))))
  (sRet (s2 kAdd (s2 kMulS (sK (.str [40])) (sVar 0)) (s2 kMulS (sK (.str [41])) (sVar 0)))))
abbrev R_unit : Fn := runB 1 b_unit
def G_unit : Fn := pureF R_unit
def b_need_candidate : Ss :=
  (seq (sIf (sOr (sNot (sTru (sCall G__is_tuple 3 [0, 1, 2] (sCons (sVar 0) (sCons (sK (.int 2)) (sCons (s2 kMul (sK (.int 2)) (sK (.int 12))) sNil)))))) (sBl (s2 kEq (s2 kMod (sBlt kLen (sCons (sVar 0) sNil)) (sK (.int 2))) (sK (.int 1)))))
  never
  skip)
  (seq (sIf (sNot (sTru (sCall G_is_within 3 [0, 1, 2] (sCons (s2 kIx (sVar 0) (sK (.int 0))) (sCons (sK (.int 0)) (sCons (sK (.int 0)) sNil))))))
  never
  skip)
  (seq (sSet 1 (sCall G__wrong_in_order 1 [0] (sCons (sVar 0) sNil)))
  (sIf (sBl (s2 (kIs true) (sVar 1) (sK .non)))
  never
  skip))))
abbrev R_need_candidate : Fn := runB 2 b_need_candidate
def G_need_candidate : Fn := pureF R_need_candidate
def b_need_layers : Ss :=
  (seq (sIf (sNot (sTru (sCall G__is_tuple 3 [0, 1, 2] (sCons (sVar 0) (sCons (sK (.int 1)) (sCons (sK (.int 8)) sNil))))))
  never
  skip)
  (seq (sSet 1 (sCall G__wrong_in_order 1 [0] (sCons (sVar 0) sNil)))
  (sIf (sBl (s2 (kIs true) (sVar 1) (sK .non)))
  never
  skip)))
abbrev R_need_layers : Fn := runB 2 b_need_layers
def G_need_layers : Fn := pureF R_need_layers
def b_hook : Ss :=
  (seq (sDrop (sCall G_need_number 3 [0, 1, 2] (sCons (sVar 0) (sCons (sK (.int 1)) (sCons (sK (.int 12)) sNil)))))
  (seq (sDrop (sCall G_need_number 3 [0, 1, 2] (sCons (sVar 1) (sCons (sK (.int 0)) (sCons (s2 kSub (sVar 0) (sK (.int 2))) sNil)))))
  (seq (sSet 2 (s2 kSub (s2 kSub (sVar 0) (sK (.int 2))) (sVar 1)))
  (sRet (s2 kAdd (s2 kAdd (s2 kAdd (s2 kAdd (s2 kAdd (s2 kMulS (sK (.str [40])) (sVar 1)) (sK (.str [40, 41]))) (s2 kMulS (sK (.str [40])) (sVar 2))) (s2 kMulS (sK (.str [41])) (sVar 2))) (sK (.str [40, 41]))) (s2 kMulS (sK (.str [41])) (sVar 1)))))))
abbrev R_hook : Fn := runB 3 b_hook
def G_hook : Fn := pureF R_hook
def b_need_rows : Ss :=
  (seq (sDrop (sCall G_need_row 1 [0] (sCons (sVar 0) sNil)))
  (seq (sDrop (sCall G_need_row 1 [0] (sCons (sVar 1) sNil)))
  (sIf (sBl (s2 kNe (sBlt kLen (sCons (sVar 0) sNil)) (sBlt kLen (sCons (sVar 1) sNil))))
  never
  skip)))
abbrev R_need_rows : Fn := runB 2 b_need_rows
def G_need_rows : Fn := pureF R_need_rows
def b_mate : Ss :=
  (seq (sDrop (sCall G_need_row 1 [0] (sCons (sVar 0) sNil)))
  (seq (sDrop (sCall G_need_foot 2 [0, 1] (sCons (sVar 0) (sCons (sVar 1) sNil))))
  (sRet (s2 kIx (sCall G_mates_of 1 [0] (sCons (sVar 0) sNil)) (sVar 1)))))
abbrev R_mate : Fn := runB 2 b_mate
def G_mate : Fn := pureF R_mate
def b_arches : Ss :=
  (seq (sDrop (sCall G_need_row 1 [0] (sCons (sVar 0) sNil)))
  (sRet (sBlt kTpl (sCons (sLc (sEnuT (sCons (sCall G_mates_of 1 [0] (sCons (sVar 0) sNil)) sNil)) (gTp 2 (gsCons (gNm 1) (gsCons (gNm 2) gsNil))) (sBl (s2 kLt (sVar 1) (sVar 2))) (sTup (sCons (sVar 1) (sCons (sVar 2) sNil))) [1, 2]) sNil))))
abbrev R_arches : Fn := runB 3 b_arches
def G_arches : Fn := pureF R_arches
def b_turned : Ss :=
  (seq (sDrop (sCall G_need_row 1 [0] (sCons (sVar 0) sNil)))
  (seq (sIf (sBl (s2 kEq (sVar 0) (sK (.str []))))
  (sRet (sVar 0))
  skip)
  (seq (sSet 1 (s2 kIx (sCall G_mates_of 1 [0] (sCons (sVar 0) sNil)) (sK (.int 0))))
  (sRet (s2 kAdd (s2 kAdd (s2 kAdd (sSl (sVar 0) (sSo (sK (.int 1))) (sSo (sVar 1))) (sK (.str [40]))) (sSl (sVar 0) (sSo (s2 kAdd (sVar 1) (sK (.int 1)))) sNo)) (sK (.str [41])))))))
abbrev R_turned : Fn := runB 2 b_turned
def G_turned : Fn := pureF R_turned
def b_mirrored : Ss :=
  (seq (sDrop (sCall G_need_row 1 [0] (sCons (sVar 0) sNil)))
  (sRet (sMth "str" kJoin (sK (.str [])) (sCons (sLc (sItr (s1 kRev (sVar 0))) (gNm 1) tru (sIte (sBl (s2 kEq (sVar 1) (sK (.str [40])))) (sK (.str [41])) (sK (.str [40]))) [1]) sNil))))
abbrev R_mirrored : Fn := runB 2 b_mirrored
def G_mirrored : Fn := pureF R_mirrored
def b_strands : Ss :=
  (seq (sDrop (sCall G_need_row 1 [0] (sCons (sVar 0) sNil)))
  (seq (sSet 1 (sSl (sVar 0) sNo (sSo (s2 kFdv (sBlt kLen (sCons (sVar 0) sNil)) (sK (.int 2))))))
  (sRet (s2 kSub (sMth "str" kCnt (sVar 1) (sCons (sK (.str [40])) sNil)) (sMth "str" kCnt (sVar 1) (sCons (sK (.str [41])) sNil))))))
abbrev R_strands : Fn := runB 2 b_strands
def G_strands : Fn := pureF R_strands
def b_need_tangle : Ss :=
  (seq (sDrop (sCall G_need_row 1 [0] (sCons (sVar 0) sNil)))
  (sIf (sBl (s2 kEq (sVar 0) (sK (.str []))))
  never
  skip))
abbrev R_need_tangle : Fn := runB 1 b_need_tangle
def G_need_tangle : Fn := pureF R_need_tangle
def b_rounds : Ss :=
  (seq (sDrop (sCall G_need_rows 2 [0, 1] (sCons (sVar 0) (sCons (sVar 1) sNil))))
  (sRet (sBlt kTpl (sCons (sCall G__rounds_of_mates 2 [0, 1] (sCons (sCall G_mates_of 1 [0] (sCons (sVar 0) sNil)) (sCons (sCall G_mates_of 1 [0] (sCons (sVar 1) sNil)) sNil))) sNil))))
abbrev R_rounds : Fn := runB 2 b_rounds
def G_rounds : Fn := pureF R_rounds
def b_flip : Ss :=
  (seq (sDrop (sCall G_need_row 1 [0] (sCons (sVar 0) sNil)))
  (sRet (sCall G_mirrored 1 [0] (sCons (sVar 0) sNil))))
abbrev R_flip : Fn := runB 1 b_flip
def G_flip : Fn := pureF R_flip
def b_product : Ss :=
  (seq (sDrop (sCall G_need_rows 2 [0, 1] (sCons (sVar 0) (sCons (sVar 1) sNil))))
  (seq (sSet 2 (sCall G_mates_of 1 [0] (sCons (sVar 0) sNil)))
  (seq (sSet 3 (sCall G_mates_of 1 [0] (sCons (sVar 1) sNil)))
  (seq (sSet 4 (s2 kMul (sLst (sCons (sK (.bl false)) sNil)) (s2 kFdv (sBlt kLen (sCons (sVar 0) sNil)) (sK (.int 2)))))
  (seq (sSet 5 (sLc (sRg1 (sCons (sBlt kLen (sCons (sVar 0) sNil)) sNil)) (gNm 6) tru (sCall G__follow 4 [0, 1, 2, 3] (sCons (sVar 2) (sCons (sVar 3) (sCons (sVar 6) (sCons (sVar 4) sNil))))) [6]))
  (sRet (sTup (sCons (sCall G_row_of_mates 1 [0] (sCons (sVar 5) sNil)) (sCons (sCall G__count_closed 3 [0, 1, 2] (sCons (sVar 2) (sCons (sVar 3) (sCons (sVar 4) sNil)))) sNil)))))))))
abbrev R_product : Fn := runB 7 b_product
def G_product : Fn := pureF R_product
def b_first_crossing : Ss :=
  (seq (sFor (sEnuT (sCons (sVar 0) sNil)) (gTp 2 (gsCons (gNm 1) (gsCons (gNm 2) gsNil)))
  (sFor (sItr (sSl (sVar 0) (sSo (s2 kAdd (sVar 1) (sK (.int 1)))) sNo)) (gNm 3)
  (sIf (sTru (sCall G_is_crossing 2 [0, 1] (sCons (sVar 2) (sCons (sVar 3) sNil))))
  (sRet (sTup (sCons (sVar 2) (sCons (sVar 3) sNil))))
  skip)))
  (sRet (sK .non)))
abbrev R_first_crossing : Fn := runB 4 b_first_crossing
@[irreducible] def G_first_crossing : Fn := R_first_crossing
theorem g_first_crossing (xs : List Va) (h : Hs) (_ : xs.length = 1) (_ : G_first_crossing xs h ≠ .bad) : R_first_crossing xs h = G_first_crossing xs h := congrFun (congrFun (show R_first_crossing = G_first_crossing from by unfold G_first_crossing; rfl) xs) h
def b_is_river : Ss :=
  (seq (sDrop (sCall G_need_rows 2 [0, 1] (sCons (sVar 0) (sCons (sVar 1) sNil))))
  (sRet (sCall G__is_one_round 2 [0, 1] (sCons (sCall G_mates_of 1 [0] (sCons (sVar 0) sNil)) (sCons (sCall G_mates_of 1 [0] (sCons (sVar 1) sNil)) sNil)))))
abbrev R_is_river : Fn := runB 2 b_is_river
def G_is_river : Fn := pureF R_is_river
def b__row_with : Ss :=
  (seq (sSet 1 (s2 kMul (sLst (sCons (sK (.str [41])) sNil)) (s2 kMul (sK (.int 2)) (sBlt kLen (sCons (sVar 0) sNil)))))
  (seq (sFor (sItr (sVar 0)) (gTp 2 (gsCons (gNm 2) (gsCons (gNm 3) gsNil)))
  (sAsg (sK (.str [40])) (gSb (sVar 1) (sVar 2))))
  (sRet (sMth "str" kJoin (sK (.str [])) (sCons (sVar 1) sNil)))))
abbrev R__row_with : Fn := runB 4 b__row_with
@[irreducible] def G__row_with : Fn := R__row_with
theorem g__row_with (xs : List Va) (h : Hs) (_ : xs.length = 1) (_ : G__row_with xs h ≠ .bad) : R__row_with xs h = G__row_with xs h := congrFun (congrFun (show R__row_with = G__row_with from by unfold G__row_with; rfl) xs) h
def b_count_rounds : Ss :=
  (sRet (sBlt kLen (sCons (sCall G_rounds 2 [0, 1] (sCons (sVar 0) (sCons (sVar 1) sNil))) sNil)))
abbrev R_count_rounds : Fn := runB 2 b_count_rounds
def G_count_rounds : Fn := pureF R_count_rounds
def b_path : Ss :=
  (seq (sIf (sNot (sTru (sCall G_is_river 2 [0, 1] (sCons (sVar 0) (sCons (sVar 1) sNil)))))
  never
  skip)
  (sRet (sBlt kTpl (sCons (sCall G_walk_from 3 [0, 1, 2] (sCons (sCall G_mates_of 1 [0] (sCons (sVar 0) sNil)) (sCons (sCall G_mates_of 1 [0] (sCons (sVar 1) sNil)) (sCons (sK (.int 0)) sNil)))) sNil))))
abbrev R_path : Fn := runB 2 b_path
def G_path : Fn := pureF R_path
def b_meeting : Ss :=
  (seq (sDrop (sCall G_need_candidate 1 [0] (sCons (sVar 0) sNil)))
  (seq (sAsg (sCall G_arches_along 1 [0] (sCons (sVar 0) sNil)) (gTp 2 (gsCons (gNm 1) (gsCons (gNm 2) gsNil))))
  (seq (sSet 3 (sCall G_first_crossing 1 [0] (sCons (sVar 1) sNil)))
  (sRet (sIte (sBl (s2 (kIs false) (sVar 3) (sK .non))) (sCall G_first_crossing 1 [0] (sCons (sVar 2) sNil)) (sVar 3))))))
abbrev R_meeting : Fn := runB 4 b_meeting
def G_meeting : Fn := pureF R_meeting
def b_closed : Ss :=
  (seq (sDrop (sCall G_need_tangle 1 [0] (sCons (sVar 0) sNil)))
  (sRet (sCall G_count_rounds 2 [0, 1] (sCons (sVar 0) (sCons (sCall G_unit 1 [0] (sCons (s2 kFdv (sBlt kLen (sCons (sVar 0) sNil)) (sK (.int 2))) sNil)) sNil)))))
abbrev R_closed : Fn := runB 1 b_closed
def G_closed : Fn := pureF R_closed
def b_river_of : Ss :=
  (seq (sIf (sBl (s2 (kIs true) (sCall G_meeting 1 [0] (sCons (sVar 0) sNil)) (sK .non)))
  (sRet (sK .non))
  skip)
  (seq (sAsg (sCall G_arches_along 1 [0] (sCons (sVar 0) sNil)) (gTp 2 (gsCons (gNm 1) (gsCons (gNm 2) gsNil))))
  (sRet (sTup (sCons (sCall G__row_with 1 [0] (sCons (sVar 1) sNil)) (sCons (sCall G__row_with 1 [0] (sCons (sVar 2) sNil)) sNil))))))
abbrev R_river_of : Fn := runB 3 b_river_of
def G_river_of : Fn := pureF R_river_of
end Pg

set_option Elab.async false
set_option linter.all false
set_option autoImplicit false
namespace Fw
open PySem PySem.Spec L2
open PyProof.Rows hiding St
section
variable {α β : Type} (e : En) (h : Hs)
/-- onward from a run's answer -/
def fwd (r : Rs α) (k : α → Hs → Rs β) : Rs β := match r with
  | .ok x h' => k x h'
  | .ex x h' => .ex x h'
  | .bad => .bad
def fwdS (r : Rs α) (e : En) (k : α → Hs → Rt) : Rt := match r with
  | .ok x h' => k x h'
  | .ex x h' => .ex x e h'
  | .bad => .bad
def thn (r : Rt) (k : En → Hs → Rt) : Rt := match r with
  | .nx e' h' => k e' h'
  | r => r
@[simp] theorem fwd_ok (x : α) (k : α → Hs → Rs β) : fwd (.ok x h) k = k x h := (rfl)
@[simp] theorem fwdS_ok (x : α) (k : α → Hs → Rt) : fwdS (.ok x h) e k = k x h := (rfl)
@[simp] theorem thn_nx (k : En → Hs → Rt) : thn (.nx e h) k = k e h := (rfl)
@[simp] theorem thn_rt (x : Va) (k : En → Hs → Rt) : thn (.rt x h) k = .rt x h := (rfl)
@[simp] theorem bnd_ap (f : Sm α) (k : α → Sm β) : bnd f k e h = fwd (f e h) fun x h' => k x e h' := (rfl)
@[simp] theorem bnS_ap (f : Sm α) (k : α → Ss) : bnS f k e h = fwdS (f e h) e fun x h' => k x e h' := (rfl)
@[simp] theorem seq_ap (f g : Ss) : seq f g e h = thn (f e h) fun e' h' => g e' h' := by unfold seq thn; split <;> simp_all
@[simp] theorem vl_ap (r : Hs → Rs α) : vl r e h = r h := (rfl)
@[simp] theorem s2_ap (k : Va → Va → Hs → Rs Va) (a b : Sx) : s2 k a b e h = fwd (a e h) fun x h1 => fwd (b e h1) fun y h2 => k x y h2 := (rfl)
@[simp] theorem s1_ap (k : Va → Hs → Rs Va) (a : Sx) : s1 k a e h = fwd (a e h) fun x h1 => k x h1 := (rfl)
@[simp] theorem sK_ap (x : Va) : sK x e h = .ok x h := (rfl)
theorem sVar_ap {i : Nat} {x : Va} (q : e[i]? = some (some x)) : sVar i e h = .ok x h := by simp only [sVar, q]
@[simp] theorem sV0 (x : Va) (r : En) : sVar 0 (some x :: r) h = .ok x h := (rfl)
@[simp] theorem sV1 (a : Option Va) (x : Va) (r : En) : sVar 1 (a :: some x :: r) h = .ok x h := (rfl)
@[simp] theorem sV2 (a b : Option Va) (x : Va) (r : En) : sVar 2 (a :: b :: some x :: r) h = .ok x h := (rfl)
@[simp] theorem sV3 (a b c : Option Va) (x : Va) (r : En) : sVar 3 (a :: b :: c :: some x :: r) h = .ok x h := (rfl)
@[simp] theorem sV4 (a b c d : Option Va) (x : Va) (r : En) : sVar 4 (a :: b :: c :: d :: some x :: r) h = .ok x h := (rfl)
@[simp] theorem sV5 (a b c d f : Option Va) (x : Va) (r : En) : sVar 5 (a :: b :: c :: d :: f :: some x :: r) h = .ok x h := (rfl)
@[simp] theorem sV6 (a b c d f g : Option Va) (x : Va) (r : En) : sVar 6 (a :: b :: c :: d :: f :: g :: some x :: r) h = .ok x h := (rfl)
@[simp] theorem sV7 (a b c d f g j : Option Va) (x : Va) (r : En) : sVar 7 (a :: b :: c :: d :: f :: g :: j :: some x :: r) h = .ok x h := (rfl)
@[simp] theorem sNil_ap : sNil e h = .ok [] h := (rfl)
@[simp] theorem sCons_ap (a : Sx) (r : Sm (List Va)) : sCons a r e h = fwd (a e h) fun x h1 => fwd (r e h1) fun xs h2 => .ok (x :: xs) h2 := (rfl)
@[simp] theorem sSet_ap (i : Nat) (f : Sx) : sSet i f e h = fwdS (f e h) e fun x h' => .nx (e.set i (some x)) h' := (rfl)
@[simp] theorem sAug_ap (k : Va → Va → Hs → Rs Va) (i : Nat) (f : Sx) : sAug k i f e h = fwdS (s2 k (sVar i) f e h) e fun x h' => .nx (e.set i (some x)) h' := (rfl)
@[simp] theorem sRet_ap (f : Sx) : sRet f e h = fwdS (f e h) e fun x h' => .rt x h' := (rfl)
@[simp] theorem sDrop_ap (f : Sx) : sDrop f e h = fwdS (f e h) e fun _ h' => .nx e h' := (rfl)
@[simp] theorem skip_ap : skip e h = .nx e h := (rfl)
@[simp] theorem sIf_ap (t : Sm Bool) (a b : Ss) : sIf t a b e h = fwdS (t e h) e fun c h' => if c = true then a e h' else b e h' := by
  unfold sIf; rw [bnS_ap]; congr; funext c h'; split <;> rfl
@[simp] theorem sBl_ap (f : Sx) : sBl f e h = fwd (f e h) fun x h' => match asB x with | some b => .ok b h' | none => .bad := (rfl)
@[simp] theorem sTru_ap (f : Sx) : sTru f e h = fwd (f e h) fun x h' => match trA x h' with | some b => .ok b h' | none => .bad := (rfl)
@[simp] theorem sNot_ap (t : Sm Bool) : sNot t e h = fwd (t e h) fun b h' => .ok (!b) h' := (rfl)
@[simp] theorem sAnd_ap (t u : Sm Bool) : sAnd t u e h = fwd (t e h) fun b h' => if b = true then u e h' else .ok false h' := by
  unfold sAnd; rw [bnd_ap]; congr; funext c h'; split <;> rfl
@[simp] theorem sOr_ap (t u : Sm Bool) : sOr t u e h = fwd (t e h) fun b h' => if b = true then .ok true h' else u e h' := by
  unfold sOr; rw [bnd_ap]; congr; funext c h'; split <;> rfl
@[simp] theorem sIte_ap (t : Sm Bool) (a b : Sx) : sIte t a b e h = fwd (t e h) fun c h' => if c = true then a e h' else b e h' := by
  unfold sIte; rw [bnd_ap]; congr; funext c h'; split <;> rfl
@[simp] theorem byB_t {f g : Sm α} : byB (some true) f g = f := (rfl)
@[simp] theorem byB_f {f g : Sm α} : byB (some false) f g = g := (rfl)
@[simp] theorem sAndV_ap (a b : Sx) : sAndV a b e h = fwd (a e h) fun x h' => byB (asB x) b (sK (.bl false)) e h' := (rfl)
@[simp] theorem sOrV_ap (a b : Sx) : sOrV a b e h = fwd (a e h) fun x h' => byB (asB x) (sK (.bl true)) b e h' := (rfl)
@[simp] theorem sBlt_ap (k : List Va → Hs → Rs Va) (f : Sm (List Va)) : sBlt k f e h = fwd (f e h) fun xs h' => k xs h' := (rfl)
@[simp] theorem sCall_ap (F : Fn) (n : Nat) (π : List Nat) (f : Sm (List Va)) : sCall F n π f e h = fwd (f e h) fun xs h' => if xs.length = n then F (π.filterMap fun j => xs[j]?) h' else .bad := by
  unfold sCall; rw [bnd_ap]; congr; funext c h'; split <;> rfl
@[simp] theorem sCallK_ap (F : Fn) (n m : Nat) (π : List Nat) (f g : Sm (List Va)) : sCallK F n m π f g e h = fwd (f e h) fun xs h1 => fwd (g e h1) fun zs h2 => if xs.length = n ∧ zs.length = m then F (π.filterMap fun j => (xs ++ zs)[j]?) h2 else .bad := by
  unfold sCallK; rw [bnd_ap]; congr; funext c h'; rw [bnd_ap]; congr; funext c h'; split <;> rfl
@[simp] theorem sTup_ap (a : Sm (List Va)) : sTup a e h = fwd (a e h) fun xs h' => if xs.length ≤ 16777216 then .ok (.tup xs) h' else .bad := (rfl)
@[simp] theorem sLst_ap (a : Sm (List Va)) : sLst a e h = fwd (a e h) fun xs h' => newL xs h' := (rfl)
@[simp] theorem sAsg_ap (f : Sx) (g : Tg) : sAsg f g e h = fwdS (f e h) e fun x h' => match g x e h' with | .ok e' h2 => .nx e' h2 | _ => .bad := (rfl)
@[simp] theorem sPar_ap (is : List Nat) (f : Sm (List Va)) : sPar is f e h = fwdS (f e h) e fun xs h' => match setAll is xs e with | some e' => .nx e' h' | none => .bad := (rfl)
@[simp] theorem sFor_ap (f : Sit) (g : Tg) (b : Ss) : sFor f g b e h = fwdS (f e h) e fun s h' => loop s.1 (stp g b) s.2 0 e h' := (rfl)
@[simp] theorem sItr_ap (f : Sx) : sItr f e h = fwd (f e h) fun x h' => match itV x h' with | some s => .ok s h' | none => .bad := (rfl)
@[simp] theorem sLc_ap (f : Sit) (g : Tg) (t : Sm Bool) (el : Sx) (own : List Nat) : sLc f g t el own e h = fwd (f e h) fun s h' => lst_ [] (lcl s.1 g t el s.2 0 (wipeE e own) h') := (rfl)
@[simp] theorem sMth_ap (T : String) (k : Va → List Va → Hs → Rs Va) (o : Sx) (f : Sm (List Va)) : sMth T k o f e h = fwd (o e h) fun x h' => if tyA T x h' = true then fwd (f e h') (fun xs h2 => k x xs h2) else .bad := by
  unfold sMth; rw [bnd_ap]; rfl
theorem sRg1_int (f : Sm (List Va)) : sRg1 f e h = fwd (f e h) fun xs h' => match xs with | [.int j] => if -(2 ^ 62) ≤ j ∧ j < 2 ^ 62 then .ok (srcR 0 j.toNat, j.toNat) h' else .bad | _ => .bad := by
  unfold sRg1; rw [bnd_ap]; all_goals congr
end
/-- the answer of a body's end -/
def fin (r : Rt) : Rs Va := match r with
  | .nx _ h' => .ok .non h'
  | .rt v h' => .ok v h'
  | .ex x _ h' => .ex x h'
  | _ => .bad
@[simp] theorem fin_rt (x : Va) (h : Hs) : fin (.rt x h) = .ok x h := (rfl)
@[simp] theorem fin_nx (e : En) (h : Hs) : fin (.nx e h) = .ok .non h := (rfl)
theorem runB_ap (n : Nat) (b : Ss) (xs : List Va) (h : Hs) : runB n b xs h = fin (b (xs.map some ++ List.replicate (n - xs.length) none) h) := (rfl)
@[simp] theorem sChn_ap (k k' : Va → Va → Hs → Rs Va) (a b c : Sx) (e : En) (h : Hs) : sChn k k' a b c e h = fwd (a e h) fun x h1 => fwd (b e h1) fun y h2 => fwd (k x y h2) fun z h3 => byB (asB z) (bnd c fun w => vl (k' y w)) (sK (.bl false)) e h3 := (rfl)
/-- a loop by what holds before each turn -/
theorem loop_inv {s : Src} {b : Va → Ss} {n : Nat} (I : Nat → En → Hs → Prop) (st : ∀ i e h, i < n → I i e h → ∃ x e' h', s i h = some (some x) ∧ b x e h = .nx e' h' ∧ I (i + 1) e' h') (en : ∀ e h, I n e h → s n h = some none) {e : En} {h : Hs} (h0 : I 0 e h) :
    ∃ e' h', loop s b n 0 e h = .nx e' h' ∧ I n e' h' := by
  have go : ∀ k i e h, i + k = n → I i e h → ∃ e' h', loop s b k i e h = .nx e' h' ∧ I n e' h' := by
    intro k
    induction k with
    | zero =>
      intro i e h q hI
      have : i = n := by omega
      subst this
      exact ⟨e, h, by simp only [loop, en e h hI], hI⟩
    | succ k ih =>
      intro i e h q hI
      obtain ⟨x, e1, h1, a1, a2, a3⟩ := st i e h (by omega) hI
      obtain ⟨e2, h2, b1, b2⟩ := ih (i + 1) e1 h1 (by omega) a3
      refine ⟨e2, h2, ?_, b2⟩
      simp only [loop, a1, a2, aft]
      exact b1
  exact go n 0 e h (by omega) h0
theorem loop_gen {s : Src} {b : Va → Ss} {n : Nat} {e : En} {h : Hs} {L : Rt} (hL : loop s b n 0 e h = L) (I : Nat → En → Hs → Prop) (h0 : I 0 e h) (st : ∀ i e h, i < n → I i e h → ∃ x e' h', s i h = some (some x) ∧ b x e h = .nx e' h' ∧ I (i + 1) e' h') (en : ∀ e h, I n e h → s n h = some none) :
    ∃ e' h', L = .nx e' h' ∧ I n e' h' := by
  obtain ⟨e', h', a, b⟩ := loop_inv I st en h0
  exact ⟨e', h', hL ▸ a, b⟩
theorem mapO_some {α β γ : Type} {f : α → Option β} {g : γ → α} {k : γ → β} (q : ∀ x, f (g x) = some (k x)) : ∀ xs : List γ, mapO f (xs.map g) = some (xs.map k)
  | [] => rfl
  | x :: xs => by simp only [List.map_cons, mapO, q, mapO_some q xs]
theorem joinL_one : ∀ s : List Nat, joinL [] (s.map fun c => [c]) = s
  | [] => rfl
  | [c] => rfl
  | c :: d :: s => by
    have := joinL_one (d :: s)
    simp only [List.map_cons] at this ⊢
    rw [joinL, this]
    rfl
theorem sum_one : ∀ s : List Nat, ((s.map fun c => [c]).map (·.length)).sum = s.length
  | [] => rfl
  | c :: s => by
    have := sum_one s
    simp only [List.map_cons, List.sum_cons, this, List.length_cons, List.length_nil]
    omega
theorem join_one {h : Hs} {n : Nat} {s : List Nat} (q : h[n]? = some (.lst (s.map fun c => .str [c]))) (l : s.length ≤ 16777216) : kJoin (.str []) [.loc n] h = .ok (.str s) h := by
  have e : (lsA (.loc n) h).bind (mapO asS) = some (s.map fun c => [c]) := by
    simp only [lsA, q, Option.bind_some]
    exact mapO_some (f := asS) (g := fun c => Va.str [c]) (k := fun c => [c]) (fun x => rfl) s
  simp only [kJoin, e, sum_one, joinL_one, List.length_nil, Nat.mul_zero, Nat.add_zero, if_pos l]
theorem rg1_ok {f : Sm (List Va)} {e : En} {h h1 : Hs} {j : Nat} (q : f e h = .ok [.int (j : Nat)] h1) (l : j ≤ 1000000) : sRg1 f e h = .ok (srcR 0 j, j) h1 := by
  rw [sRg1_int, q, fwd_ok]
  simp only []
  rw [if_pos ⟨by omega, by omega⟩, Int.toNat_natCast]
/-- the same for the turns of a display's loop -/
theorem lcl_inv {s : Src} {g : Tg} {t : Sm Bool} {el : Sx} {n : Nat} {e : En} (ys : List Va) (hn : ys.length = n) (I : Nat → Hs → Prop) (st : ∀ i h, i < n → I i h → ∃ x e' h1 h2 h3 y, s i h = some (some x) ∧ g x e h = .ok e' h1 ∧ t e' h1 = .ok true h2 ∧ el e' h2 = .ok y h3 ∧ ys[i]? = some y ∧ I (i + 1) h3) (en : ∀ h, I n h → s n h = some none) {h : Hs} (h0 : I 0 h) :
    ∃ h', lcl s g t el n 0 e h = .ok ys h' ∧ I n h' := by
  have go : ∀ k i h, i + k = n → I i h → ∃ h', lcl s g t el k i e h = .ok (ys.drop i) h' ∧ I n h' := by
    intro k
    induction k with
    | zero =>
      intro i h q hI
      have : i = n := by omega
      subst this
      refine ⟨h, ?_, hI⟩
      simp only [lcl, en h hI]
      rw [List.drop_of_length_le (by omega)]
    | succ k ih =>
      intro i h q hI
      obtain ⟨x, e', h1, h2, h3, y, a1, a2, a3, a4, a5, a6⟩ := st i h (by omega) hI
      obtain ⟨h4, b1, b2⟩ := ih (i + 1) h3 (by omega) a6
      refine ⟨h4, ?_, b2⟩
      simp only [lcl, a1, a2, a3, a4, b1]
      obtain ⟨hl, e5⟩ := List.getElem?_eq_some_iff.mp a5
      rw [List.drop_eq_getElem_cons hl, e5]
  obtain ⟨h', a, b⟩ := go n 0 h (by omega) h0
  exact ⟨h', by simpa using a, b⟩
end Fw

set_option Elab.async false
set_option linter.all false
set_option autoImplicit false
namespace Fw
open PySem PySem.Spec L2
open PyProof.Rows hiding St
@[simp] theorem ngB_f (b : Bool) : ngB false b = b := (rfl)
@[simp] theorem ngB_t (b : Bool) : ngB true b = !b := (rfl)
end Fw
namespace Fw
open PySem PySem.Spec L2
open PyProof.Rows hiding St
end Fw

set_option Elab.async false
set_option linter.all false
set_option maxRecDepth 100000
set_option maxHeartbeats 4000000
set_option autoImplicit false
namespace Pg
open PySem PySem.Spec L2 Fw
open PyProof.Rows hiding St
theorem _root_.Fw.graft_lf {x : Va} {h h' : Hs} (q : lf x = true) : graft h (.ok x h') = .ok x h := by simp only [graft, q, if_true]
theorem _root_.Fw.pure_of {F : Fn} {xs : List Va} {h h' : Hs} {x : Va} (hx : lfL xs = true) (q : F xs [] = .ok x h') (l : lf x = true) : pureF F xs h = .ok x h := by
  unfold pureF
  rw [if_pos hx, q, graft_lf l]
theorem is_within_ok {i a b : Int} {h : Hs} (h1 : a ≤ i) (h2 : i ≤ b) : G_is_within [.int i, .int a, .int b] h = .ok (.bl true) h := by
  refine pure_of rfl (h' := []) ?_ rfl
  simp [runB_ap, b_is_within, h1, kLe, sVar_ap, h2]
theorem _root_.Fw.drop_cons {α : Type} {xs : List α} {i : Nat} (q : i < xs.length) : ∃ x, xs[i]? = some x ∧ xs.drop i = x :: xs.drop (i + 1) := ⟨xs[i], List.getElem?_eq_getElem q, List.drop_eq_getElem_cons q⟩
theorem _root_.Fw.new_ok {xs : List Va} {h : Hs} (l : xs.length ≤ 16777216) : newL xs h = .ok (.loc h.length) (h ++ [.lst xs]) := by rw [newL, if_pos l]
theorem _root_.Fw.all_true {h : Hs} {n : Nat} {ys : List Va} (q : h[n]? = some (.lst ys)) (t : ∀ y ∈ ys, y = .bl true) : kAll [.loc n] h = .ok (.bl true) h := by
  have e : ys = (List.replicate ys.length true).map Va.bl := by
    apply List.ext_getElem (by simp)
    intro i h1 h2
    simp [t _ (List.getElem_mem h1)]
  have r : (lsA (.loc n) h).bind (mapO asB) = some (List.replicate ys.length true) := by
    simp only [lsA, q, Option.bind_some]
    rw [e]
    simpa using mapO_some (f := asB) (g := Va.bl) (k := id) (fun x => rfl) (List.replicate ys.length true)
  simp only [kAll, on1, r]
  simp
theorem is_text_ok {s z : List Nat} {a b : Nat} {h : Hs} (q : ∀ c ∈ s, c ∈ z) (l1 : a ≤ s.length) (l2 : s.length ≤ b) (l3 : s.length ≤ 16777216) : G_is_text [.str s, .str z, .int (a : Nat), .int (b : Nat)] h = .ok (.bl true) h := by
  suffices hh : ∃ h', R_is_text [.str s, .str z, .int (a : Nat), .int (b : Nat)] [] = .ok (.bl true) h' by
    obtain ⟨h', hh⟩ := hh
    exact pure_of rfl hh rfl
  have e : kStrp (.str s) [.str z] = fun h => .ok (.str []) h := by
    funext h
    simp only [kStrp]
    rw [if_pos l3, stpC_all q]
  have ty : tyA "str" (Va.str s) [] = true := rfl
  simp [runB_ap, b_is_text, l3, kLe, l1, l2, e, ty, -kEq]
  exact ⟨_, rfl⟩
theorem D_sign {s : List Nat} : ∀ {h : Nat}, Dw.D h s → ∀ c ∈ s, c ∈ [40, 41] := by
  induction s with
  | nil => intro h _ c m; simp at m
  | cons d s ih =>
    intro h q c m
    rcases q with ⟨rfl, q⟩ | ⟨rfl, g, rfl, q⟩
    · rcases List.mem_cons.mp m with rfl | m
      · simp
      · exact ih q c m
    · rcases List.mem_cons.mp m with rfl | m
      · simp
      · exact ih q c m
theorem is_row_ok {s : List Nat} {h : Hs} (q : Dw.D 0 s) (l : s.length ≤ 24) : G_is_row [.str s] h = .ok (.bl true) h := by
  refine pure_of rfl (h' := []) ?_ rfl
  have t : ∀ h, G_is_text [.str s, .str [40, 41], .int 0, .int 24] h = .ok (.bl true) h := fun h => is_text_ok (a := 0) (b := 24) (D_sign q) (by omega) l (by omega)
  simp [runB_ap, b_is_row, kMul, t]
  generalize hL : loop _ _ _ _ _ _ = L
  obtain ⟨e', h', rfl, ht, z, rfl, rfl, d⟩ := loop_gen hL (fun i e h => ∃ (ht : Nat) (z : Option Va), e = [some (.str s), some (.int (ht : Nat)), z] ∧ h = [] ∧ Dw.D ht (s.drop i)) ⟨0, none, rfl, rfl, q⟩ (by
      rintro i e h hi ⟨ht, z, rfl, rfl, d⟩
      obtain ⟨c, e1, e2⟩ := drop_cons hi
      rw [e2] at d
      rcases d with ⟨rfl, d⟩ | ⟨rfl, g, rfl, d⟩
      · refine ⟨.str [40], _, _, by simp [e1], ?_, ht + 1, some (.str [40]), rfl, rfl, d⟩
        simp [stp]
        omega
      · refine ⟨.str [41], _, _, by simp [e1], ?_, g, some (.str [41]), rfl, rfl, d⟩
        simp [stp]
        rw [show (g : Int) + 1 + -1 = g by omega, if_neg (by omega)]) (by
      rintro e h ⟨ht, z, rfl, rfl, d⟩
      simp)
  simp at d
  have : ht = 0 := d
  subst this
  simp
theorem need_row_ok {s : List Nat} {h : Hs} (q : Dw.D 0 s) (l : s.length ≤ 24) : G_need_row [.str s] h = .ok .non h := by
  refine pure_of rfl (h' := []) ?_ rfl
  simp [runB_ap, b_need_row, is_row_ok q l]
end Pg


set_option Elab.async false
set_option linter.all false
set_option maxRecDepth 100000
set_option maxHeartbeats 2000000
set_option autoImplicit false
namespace Mg
open PySem PySem.Spec L2 Fw Pg
open PyProof.Rows hiding St
def b__law_mug : Ss :=
  (seq (sSet 2 (sIte (sBl (s2 kLt (sVar 1) (sBlt kLen (sCons (sVar 0) sNil)))) (sBlt kInt (sCons (s2 kIx (sVar 0) (sVar 1)) sNil)) (s2 kAdd (s2 kMul (sK (.int 9257)) (sVar 1)) (sK (.int 113)))))
  (seq (sSet 3 (s2 kAdd (sK (.int 99023)) (s2 kMul (sK (.int 661)) (sVar 1))))
  (seq (sFor (sItr (s2 kAdd (sSl (sVar 0) sNo (sSo (sK (.int 5)))) (sLst (sCons (sVar 2) sNil)))) (gNm 4)
  (sSet 3 (s2 kMod (sBlt kInt (sCons (s2 kAdd (s2 kMul (sVar 3) (sK (.int 55001))) (sBlt kInt (sCons (sVar 4) sNil))) sNil)) (sK (.int 2147482819)))))
  (sRet (sLst (sCons (sIte (sOr (sBl (s2 kLt (sVar 2) (sK (.int 0)))) (sBl (s2 kGe (sVar 2) (s2 kPow (sK (.int 10)) (sK (.int 18)))))) (sBlt kAbs (sCons (sVar 2) sNil)) (sK (.int 0))) (sCons (sVar 3) (sCons (sK (.int 0)) sNil))))))))
abbrev R__law_mug : Fn := runB 5 b__law_mug
def G__law_mug : Fn := pureF R__law_mug
def b__law_sip : Ss :=
  (seq (sAsg (s2 kAdd (s2 kIx (sVar 0) (sK (.int 2))) (sK (.int 1))) (gSb (sVar 0) (sK (.int 2))))
  (seq (sSet 2 (sBlt kInt (sCons (s2 kIx (sVar 0) (sK (.int 1))) sNil)))
  (seq (sAsg (s2 kMod (sBlt kInt (sCons (s2 kAdd (s2 kAdd (s2 kMul (sVar 2) (s2 kAdd (s2 kMod (sBlt kInt (sCons (sVar 2) sNil)) (sK (.int 24001))) (sK (.int 19001)))) (s2 kMul (sK (.int 58013)) (s2 kIx (sVar 0) (sK (.int 2))))) (sK (.int 73))) sNil)) (sK (.int 2147482819))) (gSb (sVar 0) (sK (.int 1))))
  (seq (sIf (sBl (s2 kGt (s2 kIx (sVar 0) (sK (.int 0))) (sK (.int 0))))
  (seq (sAsg (sBlt kDvm (sCons (s2 kIx (sVar 0) (sK (.int 0))) (sCons (sVar 1) sNil))) (gTp 2 (gsCons (gSb (sVar 0) (sK (.int 0))) (gsCons (gNm 3) gsNil))))
  (sRet (sVar 3)))
  skip)
  (sRet (s2 kMod (sBlt kInt (sCons (s2 kFdv (s2 kIx (sVar 0) (sK (.int 1))) (sK (.int 157))) sNil)) (sVar 1)))))))
abbrev R__law_sip : Fn := runB 4 b__law_sip
@[irreducible] def G__law_sip : Fn := R__law_sip
def b__law_duos : Ss :=
  (seq (sPar [1, 2] (sCons (sLst sNil) (sCons (sLst sNil) sNil)))
  (seq (sFor (sRg1 (sCons (sBlt kLen (sCons (sVar 0) sNil)) sNil)) (gNm 3)
  (sIf (sBl (s2 kEq (s2 kIx (sVar 0) (sVar 3)) (sK (.str [40]))))
  (sDrop (sMth "list" kApp (sVar 1) (sCons (sVar 3) sNil)))
  (sDrop (sMth "list" kApp (sVar 2) (sCons (sTup (sCons (sMth "list" kPop (sVar 1) sNil) (sCons (sVar 3) sNil))) sNil)))))
  (sRet (sBlt kSrtP (sCons (sVar 2) sNil)))))
abbrev R__law_duos : Fn := runB 4 b__law_duos
def G__law_duos : Fn := pureF R__law_duos
def b__law_drawn_of : Ss :=
  (seq (sSet 1 (s2 kMul (sLst (sCons (sK (.str [])) sNil)) (s2 kMul (sK (.int 2)) (sBlt kLen (sCons (sVar 0) sNil)))))
  (seq (sFor (sItr (sVar 0)) (gTp 2 (gsCons (gNm 2) (gsCons (gNm 3) gsNil)))
  (sAsg (sTup (sCons (sK (.str [40])) (sCons (sK (.str [41])) sNil))) (gTp 2 (gsCons (gSb (sVar 1) (sBlt kMin (sCons (sVar 2) (sCons (sVar 3) sNil)))) (gsCons (gSb (sVar 1) (sBlt kMax (sCons (sVar 2) (sCons (sVar 3) sNil)))) gsNil)))))
  (sRet (sMth "str" kJoin (sK (.str [])) (sCons (sVar 1) sNil)))))
abbrev R__law_drawn_of : Fn := runB 4 b__law_drawn_of
@[irreducible] def G__law_drawn_of : Fn := R__law_drawn_of
def b__law_mirrored : Ss :=
  (sRet (sMth "str" kJoin (sK (.str [])) (sCons (sLc (sItr (s1 kRev (sVar 0))) (gNm 1) tru (s2 kIx (sK (.str [40, 41])) (sBlt kInt (sCons (s2 kEq (sVar 1) (sK (.str [40]))) sNil))) [1]) sNil)))
abbrev R__law_mirrored : Fn := runB 2 b__law_mirrored
def G__law_mirrored : Fn := pureF R__law_mirrored
def b__law_of : Ss :=
  (sRet (s2 kIx (sVar 1) (sCall G__law_sip 2 [0, 1] (sCons (sVar 0) (sCons (sBlt kLen (sCons (sVar 1) sNil)) sNil)))))
abbrev R__law_of : Fn := runB 2 b__law_of
@[irreducible] def G__law_of : Fn := R__law_of
def b__law_bow : Ss :=
  (seq (sAsg (sTup (sCons (sK (.str [])) (sCons (sK (.int 0)) sNil))) (gTp 2 (gsCons (gNm 2) (gsCons (gNm 3) gsNil))))
  (seq (sFor (sRg1 (sCons (s2 kMul (sK (.int 2)) (sVar 1)) sNil)) (gNm 4)
  (sIf (sOr (sBl (s2 kEq (sVar 3) (sK (.int 0)))) (sAnd (sBl (s2 kLt (sVar 3) (s2 kSub (s2 kMul (sK (.int 2)) (sVar 1)) (sVar 4)))) (sBl (s2 kEq (sCall G__law_sip 2 [0, 1] (sCons (sVar 0) (sCons (sK (.int 2)) sNil))) (sK (.int 0))))))
  (sPar [2, 3] (sCons (s2 kAdd (sVar 2) (sK (.str [40]))) (sCons (s2 kAdd (sVar 3) (sK (.int 1))) sNil)))
  (sPar [2, 3] (sCons (s2 kAdd (sVar 2) (sK (.str [41]))) (sCons (s2 kSub (sVar 3) (sK (.int 1))) sNil)))))
  (sRet (sVar 2))))
abbrev R__law_bow : Fn := runB 5 b__law_bow
@[irreducible] def G__law_bow : Fn := R__law_bow
def b__law_rounds : Ss :=
  (seq (sAsg (sTup (sCons sDn (sCons sDn (sCons (sLst sNil) (sCons (sLst sNil) sNil))))) (gTp 4 (gsCons (gNm 2) (gsCons (gNm 3) (gsCons (gNm 4) (gsCons (gNm 5) gsNil))))))
  (seq (sFor (sItr (sCall G__law_duos 1 [0] (sCons (sVar 0) sNil))) (gTp 2 (gsCons (gNm 6) (gsCons (gNm 7) gsNil)))
  (sAsg (sTup (sCons (sVar 7) (sCons (sVar 6) sNil))) (gTp 2 (gsCons (gSbD (sVar 2) (sVar 6)) (gsCons (gSbD (sVar 2) (sVar 7)) gsNil)))))
  (seq (sFor (sItr (sCall G__law_duos 1 [0] (sCons (sVar 1) sNil))) (gTp 2 (gsCons (gNm 6) (gsCons (gNm 7) gsNil)))
  (sAsg (sTup (sCons (sVar 7) (sCons (sVar 6) sNil))) (gTp 2 (gsCons (gSbD (sVar 3) (sVar 6)) (gsCons (gSbD (sVar 3) (sVar 7)) gsNil)))))
  (seq (sFor (sRg1 (sCons (sBlt kLen (sCons (sVar 0) sNil)) sNil)) (gNm 8)
  (sIf (sBl (s2 (kInX true) (sVar 8) (sVar 5)))
  (seq (sPar [9, 10] (sCons (sLst sNil) (sCons (sVar 8) sNil)))
  (seq (sFor (sRg1 (sCons (sBlt kLen (sCons (sVar 0) sNil)) sNil)) (gNm 11)
  (sIf (sBl (s2 (kInX true) (sVar 10) (sVar 9)))
  (seq (sSet 9 (s2 kAdd (sVar 9) (sLst (sCons (sVar 10) (sCons (s2 kIxD (sVar 2) (sVar 10)) sNil)))))
  (sSet 10 (s2 kIxD (sVar 3) (s2 kIxD (sVar 2) (sVar 10)))))
  skip))
  (seq (sSet 5 (s2 kAdd (sVar 5) (sVar 9)))
  (sDrop (sMth "list" kApp (sVar 4) (sCons (sBlt kTpl (sCons (sBlt kSrtI (sCons (sVar 9) sNil)) sNil)) sNil))))))
  skip))
  (sRet (sBlt kTpl (sCons (sVar 4) sNil)))))))
abbrev R__law_rounds : Fn := runB 12 b__law_rounds
def G__law_rounds : Fn := pureF R__law_rounds
end Mg

set_option Elab.async false
set_option linter.all false
set_option maxRecDepth 100000
set_option maxHeartbeats 4000000
set_option autoImplicit false
namespace Fw
open PySem PySem.Spec L2
open PyProof.Rows hiding St
theorem atI_nat {α : Type} {xs : List α} {i : Nat} {x : α} (e : xs[i]? = some x) : atI xs (i : Int) = some x := by
  have hl := (List.getElem?_eq_some_iff.mp e).1
  simp only [atI, ixN]
  rw [if_pos (by omega), if_pos (by omega)]
  simpa using e
theorem ix_loc {h : Hs} {n i : Nat} {xs : List Va} {x : Va} (q : h[n]? = some (.lst xs)) (e : xs[i]? = some x) : kIx (.loc n) (.int (i : Int)) h = .ok x h := by
  simp only [kIx, gIx, q, atI_nat e]
theorem ix_str {h : Hs} {i : Nat} {s : List Nat} {c : Nat} (e : s[i]? = some c) (l : s.length ≤ 16777216) : kIx (.str s) (.int (i : Int)) h = .ok (.str [c]) h := by
  simp only [kIx, gIx, if_pos l, atI_nat e, Option.map_some]
theorem ix_loc0 {h : Hs} {n : Nat} {x : Va} {r : List Va} (q : h[n]? = some (.lst (x :: r))) : kIx (.loc n) (.int 0) h = .ok x h := ix_loc (i := 0) q rfl
theorem ix_loc1 {h : Hs} {n : Nat} {a x : Va} {r : List Va} (q : h[n]? = some (.lst (a :: x :: r))) : kIx (.loc n) (.int 1) h = .ok x h := ix_loc (i := 1) q rfl
theorem ix_loc2 {h : Hs} {n : Nat} {a b x : Va} {r : List Va} (q : h[n]? = some (.lst (a :: b :: x :: r))) : kIx (.loc n) (.int 2) h = .ok x h := ix_loc (i := 2) q rfl
theorem ks_nat {h : Hs} {n i : Nat} {xs : List Va} {x : Va} (q : h[n]? = some (.lst xs)) (l : i < xs.length) : kSet (.loc n) (.int (i : Int)) x h = some (h.set n (.lst (xs.set i x))) := by
  simp only [kSet, q, ixN]
  rw [if_pos (by omega), if_pos (by omega)]
  simp
theorem ks3_0 {h : Hs} {n : Nat} {a b c x : Va} (q : h[n]? = some (.lst [a, b, c])) : kSet (.loc n) (.int 0) x h = some (h.set n (.lst [x, b, c])) := ks_nat (i := 0) q (by simp)
theorem ks3_1 {h : Hs} {n : Nat} {a b c x : Va} (q : h[n]? = some (.lst [a, b, c])) : kSet (.loc n) (.int 1) x h = some (h.set n (.lst [a, x, c])) := ks_nat (i := 1) q (by simp)
theorem ks3_2 {h : Hs} {n : Nat} {a b c x : Va} (q : h[n]? = some (.lst [a, b, c])) : kSet (.loc n) (.int 2) x h = some (h.set n (.lst [a, b, x])) := ks_nat (i := 2) q (by simp)
theorem gSb_ap (fo fi : Sx) (x : Va) (e : En) (h : Hs) : gSb fo fi x e h = match fwd (fo e h) (fun o h1 => fwd (fi e h1) fun i h2 => match kSet o i x h2 with | some h3 => Rs.ok () h3 | none => .bad) with | .ok _ h' => .ok e h' | _ => .bad := rfl
def Mug (h : Hs) (m : Nat) : Prop := ∃ a b c : Int, h[m]? = some (.lst [.int a, .int b, .int c])
structure Kp (m : Nat) (h h' : Hs) : Prop where
  mug : Mug h' m
  old : ∀ (i : Nat) (o : Ob), i ≠ m → h[i]? = some o → h'[i]? = some o
theorem Kp.refl {m : Nat} {h : Hs} (q : Mug h m) : Kp m h h := ⟨q, fun _ _ _ e => e⟩
theorem Kp.trans {m : Nat} {h h1 h2 : Hs} (a : Kp m h h1) (b : Kp m h1 h2) : Kp m h h2 := ⟨b.mug, fun i o n e => b.old i o n (a.old i o n e)⟩
theorem Kp.app {m : Nat} {h : Hs} (q : Mug h m) (r : Hs) : Kp m h (h ++ r) := by
  have go : ∀ (i : Nat) (o : Ob), h[i]? = some o → (h ++ r)[i]? = some o := fun i o e => by
    rw [List.getElem?_append_left (List.getElem?_eq_some_iff.mp e).1]
    exact e
  obtain ⟨a, b, c, e⟩ := q
  exact ⟨⟨a, b, c, go _ _ e⟩, fun i o _ => go i o⟩
theorem Kp.set {m : Nat} {h : Hs} (q : Mug h m) (a b c : Int) : Kp m h (h.set m (.lst [.int a, .int b, .int c])) := by
  obtain ⟨_, _, _, e⟩ := q
  have hl := (List.getElem?_eq_some_iff.mp e).1
  exact ⟨⟨a, b, c, by simp [hl]⟩, fun i o n e => by rw [List.getElem?_set_ne (Ne.symm n)]; exact e⟩
end Fw
namespace Mg
open PySem PySem.Spec L2 Fw Pg
open PyProof.Rows hiding St
theorem q__law_sip : G__law_sip = R__law_sip := by unfold G__law_sip; rfl
theorem q__law_of : G__law_of = R__law_of := by unfold G__law_of; rfl
theorem sip_ok {h : Hs} {m top : Nat} (q : Mug h m) (t0 : 0 < top) (t1 : top < 1073741824) : ∃ (r : Nat) (h' : Hs), G__law_sip [.loc m, .int top] h = .ok (.int r) h' ∧ r < top ∧ Kp m h h' := by
  rw [q__law_sip]
  have t2 : (0 : Int) < top := by omega
  have t3 : (top : Int) < 1073741824 := by omega
  obtain ⟨a, b, c, e⟩ := q
  have hl := (List.getElem?_eq_some_iff.mp e).1
  have fin : ∀ (x : Int) (a b c : Int), ∃ (r : Nat) (h' : Hs), (x % top = (r : Int) ∧ h.set m (.lst [.int a, .int b, .int c]) = h') ∧ r < top ∧ Kp m h h' := fun x a' b' c' => by
    have h1 := Int.emod_nonneg x (b := (top : Int)) (by omega)
    have h2 := Int.emod_lt_of_pos x t2
    exact ⟨(x % top).toNat, _, ⟨(Int.toNat_of_nonneg h1).symm, rfl⟩, by omega, Kp.set ⟨a, b, c, e⟩ a' b' c'⟩
  have s2 : ∀ x : Ob, (h.set m x)[m]? = some x := fun x => by simp [hl]
  have i0 : ∀ a b c : Va, kIx (.loc m) (.int 0) (h.set m (.lst [a, b, c])) = .ok a (h.set m (.lst [a, b, c])) := fun a b c => ix_loc0 (s2 _)
  have i1 : ∀ a b c : Va, kIx (.loc m) (.int 1) (h.set m (.lst [a, b, c])) = .ok b (h.set m (.lst [a, b, c])) := fun a b c => ix_loc1 (s2 _)
  have i2 : ∀ a b c : Va, kIx (.loc m) (.int 2) (h.set m (.lst [a, b, c])) = .ok c (h.set m (.lst [a, b, c])) := fun a b c => ix_loc2 (s2 _)
  have k0 : ∀ a b c x : Va, kSet (.loc m) (.int 0) x (h.set m (.lst [a, b, c])) = some (h.set m (.lst [x, b, c])) := fun a b c x => by rw [ks3_0 (s2 _), List.set_set]
  have k1 : ∀ a b c x : Va, kSet (.loc m) (.int 1) x (h.set m (.lst [a, b, c])) = some (h.set m (.lst [a, x, c])) := fun a b c x => by rw [ks3_1 (s2 _), List.set_set]
  have k2 : ∀ x : Va, kSet (.loc m) (.int 2) x h = some (h.set m (.lst [.int a, .int b, x])) := fun x => ks3_2 e
  have lt : ∀ x : Int, 0 ≤ x % 24001 ∧ x % 24001 < 24001 := fun x => ⟨Int.emod_nonneg _ (by decide), Int.emod_lt_of_pos _ (by decide)⟩
  have m1 : ∀ x y h, kMul (.int x) (.int (y % 24001 + 19001)) h = .ok (.int (x * (y % 24001 + 19001))) h := fun x y h => by
    have := lt y
    simp only [kMul]
    rw [if_pos (.inr (by omega))]
  have m2 : ∀ y h, kMul (.int 58013) (.int y) h = .ok (.int (58013 * y)) h := fun y h => by simp [kMul]
  by_cases a0 : 0 < a
  · simp [runB_ap, b__law_sip, gSb_ap, ix_loc2 e, i0, i1, i2, k0, k1, k2, m1, m2, kInt, kMod, kFdv, kDvm, a0, t0, t1, t2, t3]
    exact fin _ _ _ _
  · simp [runB_ap, b__law_sip, gSb_ap, ix_loc2 e, i0, i1, i2, k0, k1, k2, m1, m2, kInt, kMod, kFdv, kDvm, a0, t0, t1, t2, t3]
    exact fin _ _ _ _
theorem of_ok {h : Hs} {m r : Nat} {xs : List Va} (q : Mug h m) (hr : h[r]? = some (.lst xs)) (rm : r ≠ m) (x0 : 0 < xs.length) (x1 : xs.length < 1073741824) : ∃ (x : Va) (h' : Hs), G__law_of [.loc m, .loc r] h = .ok x h' ∧ x ∈ xs ∧ Kp m h h' := by
  obtain ⟨j, h', e, jl, k⟩ := sip_ok q x0 x1
  refine ⟨xs[j], h', ?_, List.getElem_mem _, k⟩
  rw [q__law_of]
  simp [runB_ap, b__law_of, lsA, hr, e, ix_loc (k.old r _ rm hr) (List.getElem?_eq_getElem jl)]
end Mg


set_option Elab.async false
set_option linter.all false
set_option maxRecDepth 100000
set_option maxHeartbeats 4000000
set_option autoImplicit false
namespace Fw
open PySem PySem.Spec L2
open PyProof.Rows hiding St
@[simp] theorem sNo_ap (e : En) (h : Hs) : sNo e h = .ok none h := (rfl)
@[simp] theorem sSo_ap (f : Sx) (e : En) (h : Hs) : sSo f e h = fwd (f e h) fun x h' => match x with | .int i => .ok (some i) h' | _ => .bad := (rfl)
@[simp] theorem sSl_ap (f : Sx) (lo hi : Sm (Option Int)) (e : En) (h : Hs) : sSl f lo hi e h = fwd (f e h) fun x h1 => fwd (lo e h1) fun l h2 => fwd (hi e h2) fun u h3 => kSl x l u h3 := (rfl)
theorem lfL_map {α : Type} {g : α → Va} (q : ∀ x, lf (g x) = true) : ∀ xs : List α, lfL (xs.map g) = true
  | [] => rfl
  | x :: xs => by simp only [List.map_cons, lfL, q, lfL_map q xs]; rfl
theorem pureL_of {F : Fn} {xs ys : List Va} {h h' : Hs} {m : Nat} (hx : lfL xs = true) (q : F xs [] = .ok (.loc m) h') (l : h'[m]? = some (.lst ys)) (ly : lfL ys = true) : pureF F xs h = .ok (.loc h.length) (h ++ [.lst ys]) := by
  unfold pureF
  rw [if_pos hx, q]
  simp only [graft, lf, l, ly, if_true]
  rfl
theorem cut_map {α : Type} (g : α → Va) (xs : List α) (lo hi : Option Int) : cutA (xs.map g) lo hi = (cutA xs lo hi).map g := by simp only [cutA, List.length_map, List.map_take, List.map_drop]
theorem cut_len {α : Type} (xs : List α) (lo hi : Option Int) : (cutA xs lo hi).length ≤ xs.length := by
  simp only [cutA, List.length_take, List.length_drop]
  omega
end Fw
namespace Mg
open PySem PySem.Spec L2 Fw Pg
open PyProof.Rows hiding St
end Mg


set_option Elab.async false
set_option linter.all false
set_option maxRecDepth 100000
set_option maxHeartbeats 4000000
set_option autoImplicit false
namespace Dw
def nx (r : Nat) (p : List Nat × Nat) : List (List Nat × Nat) := (if p.2 + 1 < r then [(p.1 ++ [40], p.2 + 1)] else []) ++ (if 0 < p.2 then [(p.1 ++ [41], p.2 - 1)] else [])
def P (N : Nat) : Nat → List (List Nat × Nat)
  | 0 => [([], 0)]
  | t + 1 => (P N t).flatMap (nx (N - t))
end Dw
namespace Pg
open PySem PySem.Spec L2 Fw
open PyProof.Rows hiding St
end Pg
namespace Mg
open PySem PySem.Spec L2 Fw Pg
open PyProof.Rows hiding St
end Mg


set_option Elab.async false
set_option linter.all false
set_option maxRecDepth 100000
set_option maxHeartbeats 4000000
set_option autoImplicit false
namespace Fw
open PySem PySem.Spec L2
open PyProof.Rows hiding St
end Fw


set_option Elab.async false
set_option linter.all false
set_option maxRecDepth 100000
set_option maxHeartbeats 4000000
set_option autoImplicit false
namespace Fw
open PySem PySem.Spec L2
open PyProof.Rows hiding St
theorem loop_one {s : Src} {b : Va → Ss} {k i : Nat} {e e' : En} {h h' : Hs} {x : Va} (a : s i h = some (some x)) (c : b x e h = .nx e' h') : loop s b (k + 1) i e h = loop s b k (i + 1) e' h' := by
  simp only [loop, a, c, aft]
/-- a loop along the signs of a row, with the feet that are still open -/
theorem loop_fo {α : Type} {s : Src} {b : Va → Ss} {w : List Nat} (I : Nat → List Nat → α → En → Hs → Prop) (cl : α → Nat → Nat → α)
    (op : ∀ i st a e h, w[i]? = some 40 → I i st a e h → ∃ x e' h', s i h = some (some x) ∧ b x e h = .nx e' h' ∧ I (i + 1) (st ++ [i]) a e' h')
    (cs : ∀ i st o a e h, w[i]? = some 41 → I i (st ++ [o]) a e h → ∃ x e' h', s i h = some (some x) ∧ b x e h = .nx e' h' ∧ I (i + 1) st (cl a o i) e' h') :
    ∀ (f : Dw.Fo) (i : Nat) (r st : List Nat) (a : α) (e : En) (h : Hs) (k : Nat), w.drop i = Dw.word f ++ r → I i st a e h →
      ∃ e' h', loop s b (Dw.sz f + k) i e h = loop s b k (i + Dw.sz f) e' h' ∧ I (i + Dw.sz f) st ((Dw.Cl i f).foldl (fun a q => cl a q.1 q.2) a) e' h'
  | .nil, i, r, st, a, e, h, k, d, q => ⟨e, h, by simp [Dw.sz], by simpa [Dw.sz, Dw.Cl] using q⟩
  | .node f g, i, r, st, a, e, h, k, d, q => by
    have at_ : ∀ j c t, w.drop j = c :: t → w[j]? = some c ∧ w.drop (j + 1) = t := fun j c t e => by
      refine ⟨?_, ?_⟩
      · have : w[j]? = (w.drop j)[0]? := by rw [List.getElem?_drop]; rfl
        rw [this, e]; rfl
      · rw [show j + 1 = j + 1 from rfl, ← List.drop_drop, e]; rfl
    obtain ⟨w1, d1⟩ := at_ i 40 (Dw.word f ++ 41 :: (Dw.word g ++ r)) (by rw [d]; simp [Dw.word])
    obtain ⟨x, e1, h1, a1, a2, a3⟩ := op i st a e h w1 q
    obtain ⟨e2, h2, b1, b2⟩ := loop_fo I cl op cs f (i + 1) _ (st ++ [i]) a e1 h1 (Dw.sz g + 1 + k) d1 a3
    have d2 : w.drop (i + 1 + Dw.sz f) = 41 :: (Dw.word g ++ r) := by
      rw [← List.drop_drop, d1, List.drop_append_of_le_length (by rw [Dw.word_len]; exact Nat.le_refl _), List.drop_of_length_le (by rw [Dw.word_len]; exact Nat.le_refl _)]
      rfl
    obtain ⟨w2, d3⟩ := at_ _ 41 _ d2
    obtain ⟨y, e3, h3, c1, c2, c3⟩ := cs _ st i _ e2 h2 w2 b2
    obtain ⟨e4, h4, g1, g2⟩ := loop_fo I cl op cs g (i + 1 + Dw.sz f + 1) r st _ e3 h3 k d3 c3
    refine ⟨e4, h4, ?_, ?_⟩
    · have l1 : Dw.sz (.node f g) + k = (Dw.sz f + (Dw.sz g + 1 + k)) + 1 := by simp [Dw.sz]; omega
      have l2 : Dw.sz g + 1 + k = (Dw.sz g + k) + 1 := by omega
      have l3 : i + Dw.sz (.node f g) = i + 1 + Dw.sz f + 1 + Dw.sz g := by simp [Dw.sz]; omega
      rw [l1, loop_one a1 a2, b1, l2, loop_one c1 c2, g1, l3]
    · have l3 : i + Dw.sz (.node f g) = i + 1 + Dw.sz f + 1 + Dw.sz g := by simp [Dw.sz]; omega
      have l4 : i + Dw.sz f + 2 = i + 1 + Dw.sz f + 1 := by omega
      have l5 : i + Dw.sz f + 1 = i + 1 + Dw.sz f := by omega
      rw [l3]
      simp only [Dw.Cl, List.foldl_append, List.foldl_cons, l4, l5]
      exact g2
end Fw
namespace Dw
/-- xs put into ms from place i on -/
def putA (ms : List Nat) (i : Nat) (xs : List Nat) : List Nat := ms.take i ++ xs ++ ms.drop (i + xs.length)
theorem putA_len (ms : List Nat) (i : Nat) (xs : List Nat) (h : i + xs.length ≤ ms.length) : (putA ms i xs).length = ms.length := by simp [putA]; omega
theorem putA_at (ms : List Nat) (i : Nat) (xs : List Nat) (h : i + xs.length ≤ ms.length) (j : Nat) : (putA ms i xs)[j]? = if i ≤ j ∧ j < i + xs.length then xs[j - i]? else ms[j]? := by
  unfold putA
  by_cases c : j < i
  · rw [if_neg (by omega), List.append_assoc, List.getElem?_append_left (by simp; omega), List.getElem?_take_of_lt c]
  · by_cases c2 : j < i + xs.length
    · rw [if_pos ⟨by omega, c2⟩, List.append_assoc, List.getElem?_append_right (by simp; omega), List.getElem?_append_left (by simp; omega)]
      congr 1
      simp
      omega
    · rw [if_neg (by omega), List.getElem?_append_right (by simp; omega), List.getElem?_drop]
      congr 1
      simp
      omega
def cm (ms : List Nat) (o i : Nat) : List Nat := (ms.set i o).set o i
theorem fold_M : ∀ f p ms, p + sz f ≤ ms.length → (Cl p f).foldl (fun a q => cm a q.1 q.2) ms = putA ms p (M p f)
  | .nil, p, ms, h => by simp [Cl, M, putA]
  | .node a b, p, ms, h => by
    have h' : p + (sz a + sz b + 2) ≤ ms.length := h
    have e : p + 1 + sz a + 1 = p + sz a + 2 := by omega
    simp only [Cl, List.foldl_append, List.foldl_cons]
    rw [fold_M a (p + 1) ms (by omega)]
    have l1 : (putA ms (p + 1) (M (p + 1) a)).length = ms.length := putA_len _ _ _ (by rw [M_len]; omega)
    have l2 : (cm (putA ms (p + 1) (M (p + 1) a)) p (p + sz a + 1)).length = ms.length := by simp [cm, l1]
    rw [fold_M b (p + sz a + 2) _ (by rw [l2]; omega)]
    apply List.ext_getElem?
    intro j
    rw [putA_at _ _ _ (by rw [l2, M_len]; omega), putA_at _ _ _ (by rw [M_len]; exact h), M_len, M_len]
    simp only [cm]
    by_cases c1 : p + sz a + 2 ≤ j ∧ j < p + sz a + 2 + sz b
    · rw [if_pos c1, if_pos (by simp [sz]; omega)]
      simp only [M]
      rw [show j - p = (j - p - 1) + 1 by omega, List.getElem?_cons_succ, List.getElem?_append_right (by rw [M_len]; omega), M_len, show j - p - 1 - sz a = (j - (p + sz a + 2)) + 1 by omega, List.getElem?_cons_succ]
    · rw [if_neg c1]
      by_cases c2 : j = p
      · subst c2
        rw [List.getElem?_set_self (by simp [l1]; omega), if_pos (by simp [sz]), Nat.sub_self]
        rfl
      · rw [List.getElem?_set_ne (Ne.symm c2)]
        by_cases c3 : j = p + sz a + 1
        · subst c3
          rw [List.getElem?_set_self (by rw [l1]; omega), if_pos (by simp [sz]; omega)]
          simp only [M]
          rw [show p + sz a + 1 - p = sz a + 1 by omega, List.getElem?_cons_succ, List.getElem?_append_right (by rw [M_len]; omega), M_len, Nat.sub_self]
          rfl
        · rw [List.getElem?_set_ne (Ne.symm c3), putA_at _ _ _ (by rw [M_len]; omega), M_len]
          by_cases c4 : p + 1 ≤ j ∧ j < p + 1 + sz a
          · rw [if_pos c4, if_pos (by simp [sz]; omega)]
            simp only [M]
            rw [show j - p = (j - (p + 1)) + 1 by omega, List.getElem?_cons_succ, List.getElem?_append_left (by rw [M_len]; omega)]
          · rw [if_neg c4, if_neg (by simp [sz]; omega)]
theorem fold_all (f : Fo) (ms : List Nat) (h : ms.length = sz f) : (Cl 0 f).foldl (fun a q => cm a q.1 q.2) ms = M 0 f := by
  rw [fold_M f 0 ms (by omega)]
  simp [putA, M_len, h]
end Dw


set_option Elab.async false
set_option linter.all false
set_option maxRecDepth 100000
set_option maxHeartbeats 4000000
set_option autoImplicit false
namespace Pg
open PySem PySem.Spec L2 Fw
open PyProof.Rows hiding St
def vN (i : Nat) : Va := .int (i : Nat)
theorem flat_rep : ∀ (n : Nat) (x : Va), (List.replicate n [x]).flatten = List.replicate n x
  | 0, x => rfl
  | n + 1, x => by simp [List.replicate_succ, flat_rep n x]
theorem mates_ok {f : Dw.Fo} {h : Hs} (l : Dw.sz f ≤ 24) : G_mates_of [.str (Dw.word f)] h = .ok (.loc h.length) (h ++ [.lst ((Dw.M 0 f).map vN)]) := by
  suffices hh : ∃ h' m, R_mates_of [.str (Dw.word f)] [] = .ok (.loc m) h' ∧ h'[m]? = some (.lst ((Dw.M 0 f).map vN)) by
    obtain ⟨h', m, e1, e2⟩ := hh
    exact pureL_of rfl e1 e2 (lfL_map (fun _ => rfl) _)
  have wl := Dw.word_len f
  generalize hw : Dw.word f = w at *
  have n0 : newL [.int 0] [] = .ok (.loc 0) [.lst [.int 0]] := rfl
  have n1 : kMul (.loc 0) (.int (w.length : Nat)) [.lst [.int 0]] = .ok (.loc 1) [.lst [.int 0], .lst ((List.replicate w.length 0).map vN)] := by
    have e : ([Ob.lst [Va.int 0]] : Hs)[0]? = some (.lst [.int 0]) := rfl
    simp only [kMul, e]
    rw [if_pos (by simp; omega), Int.toNat_natCast, flat_rep, new_ok (by simp; omega)]
    simp [vN]
  have n2 : ∀ a b : Ob, newL [] [a, b] = .ok (.loc 2) [a, b, .lst []] := fun a b => rfl
  have nl : ∀ e h, sBlt kLen (sCons (sVar 0) sNil) (some (Va.str w) :: e) h = .ok (.int (w.length : Nat)) h := fun e h => by simp [show w.length ≤ 16777216 by omega]
  simp [-sBlt_ap, runB_ap, b_mates_of, sEnuT, enT, n0, n1, n2, nl]
  generalize hL : loop _ _ _ _ _ _ = L
  obtain ⟨e', h', g1, z3, z4, z5, g2, g3, g4⟩ := loop_fo (s := srcEV (w.map fun c => Va.str [c])) (b := stp (gTp 2 (gsCons (gNm 3) (gsCons (gNm 4) gsNil))) (sIf (sBl (s2 kEq (sVar 4) (sK (.str [40])))) (sDrop (sMth "list" kApp (sVar 2) (sCons (sVar 3) sNil))) (seq (sSet 5 (sMth "list" kPop (sVar 2) sNil)) (seq (sAsg (sVar 5) (gSb (sVar 1) (sVar 3))) (sAsg (sVar 3) (gSb (sVar 1) (sVar 5))))))) (w := w)
    (fun i st ms e h => ∃ z3 z4 z5 : Option Va, e = [some (.str w), some (.loc 1), some (.loc 2), z3, z4, z5] ∧ h = [.lst [.int 0], .lst (ms.map vN), .lst (st.map vN)] ∧ ms.length = w.length ∧ (∀ o ∈ st, o < w.length) ∧ st.length ≤ i) Dw.cm
    (by
      rintro i st ms e h hi ⟨z3, z4, z5, rfl, rfl, g, gs, gl⟩
      have il := (List.getElem?_eq_some_iff.mp hi).1
      have sr : srcEV (w.map fun c => Va.str [c]) i [.lst [.int 0], .lst (ms.map vN), .lst (st.map vN)] = some (some (.tpw [.int (i : Nat), .str [40]])) := by simp [srcEV, hi]
      have ap : kApp (.loc 2) [.int (i : Nat)] [.lst [.int 0], .lst (ms.map vN), .lst (st.map vN)] = .ok .non [.lst [.int 0], .lst (ms.map vN), .lst ((st ++ [i]).map vN)] := by
        have e : ([Ob.lst [Va.int 0], .lst (ms.map vN), .lst (st.map vN)] : Hs)[2]? = some (.lst (st.map vN)) := rfl
        simp only [kApp, e]
        rw [if_pos (by simp; omega)]
        simp [vN]
      refine ⟨_, _, _, sr, ?_, some (.int (i : Nat)), some (.str [40]), z5, rfl, rfl, g, ?_, by simp; omega⟩
      · simp [stp, tyA, ap]
      · intro o ho
        rcases List.mem_append.mp ho with ho | ho
        · exact gs o ho
        · simp at ho; omega)
    (by
      rintro i st o ms e h hi ⟨z3, z4, z5, rfl, rfl, g, gs, gl⟩
      have il := (List.getElem?_eq_some_iff.mp hi).1
      have ol : o < w.length := gs o (by simp)
      have sr : srcEV (w.map fun c => Va.str [c]) i [.lst [.int 0], .lst (ms.map vN), .lst ((st ++ [o]).map vN)] = some (some (.tpw [.int (i : Nat), .str [41]])) := by simp [srcEV, hi]
      have pp : kPop (.loc 2) [] [.lst [.int 0], .lst (ms.map vN), .lst ((st ++ [o]).map vN)] = .ok (.int (o : Nat)) [.lst [.int 0], .lst (ms.map vN), .lst (st.map vN)] := by
        have e : ([Ob.lst [Va.int 0], .lst (ms.map vN), .lst ((st ++ [o]).map vN)] : Hs)[2]? = some (.lst ((st ++ [o]).map vN)) := rfl
        simp only [kPop, e]
        simp [vN]
      simp only [List.map_append, List.map_cons, List.map_nil] at pp
      have s1 : kSet (.loc 1) (.int (i : Nat)) (.int (o : Nat)) [.lst [.int 0], .lst (ms.map vN), .lst (st.map vN)] = some [.lst [.int 0], .lst ((ms.set i o).map vN), .lst (st.map vN)] := by
        rw [ks_nat (xs := ms.map vN) rfl (by simp; omega)]
        simp [vN, List.map_set]
      have s2 : kSet (.loc 1) (.int (o : Nat)) (.int (i : Nat)) [.lst [.int 0], .lst ((ms.set i o).map vN), .lst (st.map vN)] = some [.lst [.int 0], .lst ((Dw.cm ms o i).map vN), .lst (st.map vN)] := by
        rw [ks_nat (xs := (ms.set i o).map vN) rfl (by simp; omega)]
        simp [vN, List.map_set, Dw.cm]
      rw [List.map_set] at s1 s2
      refine ⟨_, _, _, sr, ?_, some (.int (i : Nat)), some (.str [41]), some (.int (o : Nat)), rfl, rfl, by simp [Dw.cm, g], fun x hx => gs x (by simp [hx]), by simp at gl; omega⟩
      simp [stp, tyA, pp, gSb_ap, s1, s2])
    f 0 [] [] (List.replicate w.length 0) [some (.str w), some (.loc 1), some (.loc 2), none, none, none] [.lst [.int 0], .lst ((List.replicate w.length 0).map vN), .lst []] 0 (by simp [hw]) ⟨none, none, none, rfl, rfl, by simp, by simp, by simp⟩
  rw [Nat.add_zero, Nat.zero_add, List.map_replicate] at g1
  rw [wl] at hL g1
  rw [g1] at hL
  subst g2 g3
  have en : loop (srcEV (w.map fun c => Va.str [c])) (stp (gTp 2 (gsCons (gNm 3) (gsCons (gNm 4) gsNil))) (sIf (sBl (s2 kEq (sVar 4) (sK (.str [40])))) (sDrop (sMth "list" kApp (sVar 2) (sCons (sVar 3) sNil))) (seq (sSet 5 (sMth "list" kPop (sVar 2) sNil)) (seq (sAsg (sVar 5) (gSb (sVar 1) (sVar 3))) (sAsg (sVar 3) (gSb (sVar 1) (sVar 5))))))) 0 (Dw.sz f) = fun e h => .nx e h := by
    funext e h
    simp [loop, srcEV, wl]
  rw [en] at hL
  subst hL
  simp
  refine ⟨_, _, ⟨rfl, rfl⟩, ?_⟩
  rw [Dw.fold_all f _ (by simp [wl])]
  rfl
end Pg


set_option Elab.async false
set_option linter.all false
set_option maxRecDepth 100000
set_option maxHeartbeats 4000000
set_option autoImplicit false
namespace Pg
open PySem PySem.Spec L2 Fw
open PyProof.Rows hiding St
def vP (q : Nat × Nat) : Va := .tup [.int (q.1 : Nat), .int (q.2 : Nat)]
def zP (q : Nat × Nat) : Int × Int := ((q.1 : Nat), (q.2 : Nat))
end Pg
namespace Mg
open PySem PySem.Spec L2 Fw Pg
open PyProof.Rows hiding St
end Mg


set_option Elab.async false
set_option linter.all false
set_option maxRecDepth 100000
set_option maxHeartbeats 4000000
set_option autoImplicit false
namespace Fw
open PySem PySem.Spec L2
open PyProof.Rows hiding St
/-- a display's loop with a test -/
theorem lcl_fil {s : Src} {g : Tg} {t : Sm Bool} {el : Sx} {n : Nat} {e : En} (out : Nat → List Va) (on : out n = []) (I : Nat → Hs → Prop)
    (st : ∀ i h, i < n → I i h → ∃ x e' h1 h2 b, s i h = some (some x) ∧ g x e h = .ok e' h1 ∧ t e' h1 = .ok b h2 ∧ (b = false → out i = out (i + 1) ∧ I (i + 1) h2) ∧ (b = true → ∃ y h3, el e' h2 = .ok y h3 ∧ out i = y :: out (i + 1) ∧ I (i + 1) h3))
    (en : ∀ h, I n h → s n h = some none) {h : Hs} (h0 : I 0 h) : ∃ h', lcl s g t el n 0 e h = .ok (out 0) h' ∧ I n h' := by
  have go : ∀ k i h, i + k = n → I i h → ∃ h', lcl s g t el k i e h = .ok (out i) h' ∧ I n h' := by
    intro k
    induction k with
    | zero =>
      intro i h q hI
      have : i = n := by omega
      subst this
      exact ⟨h, by simp only [lcl, en h hI, on], hI⟩
    | succ k ih =>
      intro i h q hI
      obtain ⟨x, e', h1, h2, b, a1, a2, a3, a4, a5⟩ := st i h (by omega) hI
      cases b with
      | false =>
        obtain ⟨c1, c2⟩ := a4 rfl
        obtain ⟨h', b1, b2⟩ := ih (i + 1) h2 (by omega) c2
        exact ⟨h', by simp only [lcl, a1, a2, a3, c1]; exact b1, b2⟩
      | true =>
        obtain ⟨y, h3, c1, c2, c3⟩ := a5 rfl
        obtain ⟨h', b1, b2⟩ := ih (i + 1) h3 (by omega) c3
        exact ⟨h', by simp only [lcl, a1, a2, a3, c1, b1, c2], b2⟩
  exact go n 0 h (by omega) h0
end Fw
namespace Dw
def aP : Nat → List Nat → List (Nat × Nat)
  | _, [] => []
  | p, m :: ms => if p < m then (p, m) :: aP (p + 1) ms else aP (p + 1) ms
end Dw
namespace Pg
open PySem PySem.Spec L2 Fw
open PyProof.Rows hiding St
theorem nr_ok {f : Dw.Fo} {h : Hs} (l : Dw.sz f ≤ 24) : G_need_row [.str (Dw.word f)] h = .ok .non h := need_row_ok (Dw.D_word f) (by rw [Dw.word_len]; exact l)
theorem mate_ok {f : Dw.Fo} {h : Hs} {i m : Nat} (l : Dw.sz f ≤ 24) (e : (Dw.M 0 f)[i]? = some m) : G_mate [.str (Dw.word f), .int (i : Nat)] h = .ok (.int (m : Nat)) h := by
  suffices hh : ∃ h', R_mate [.str (Dw.word f), .int (i : Nat)] [] = .ok (.int (m : Nat)) h' by
    obtain ⟨h', hh⟩ := hh
    exact pure_of rfl hh rfl
  have il := (List.getElem?_eq_some_iff.mp e).1
  rw [Dw.M_len] at il
  have wl := Dw.word_len f
  have nf : ∀ h, G_need_foot [.str (Dw.word f), .int (i : Nat)] h = .ok .non h := fun h => by
    refine pure_of rfl (h' := []) ?_ rfl
    simp [runB_ap, b_need_foot, wl, show Dw.sz f ≤ 16777216 by omega, is_within_ok (i := (i : Int)) (a := 0) (b := (Dw.sz f : Int) - 1) (by omega) (by omega)]
  have mo : G_mates_of [.str (Dw.word f)] [] = .ok (.loc 0) [.lst ((Dw.M 0 f).map vN)] := mates_ok l
  have ix : kIx (.loc 0) (.int (i : Nat)) [.lst ((Dw.M 0 f).map vN)] = .ok (.int (m : Nat)) [.lst ((Dw.M 0 f).map vN)] := ix_loc (xs := (Dw.M 0 f).map vN) rfl (by rw [List.getElem?_map, e]; rfl)
  simp [runB_ap, b_mate, nr_ok l, nf, mo, ix]
end Pg
namespace Mg
open PySem PySem.Spec L2 Fw Pg
open PyProof.Rows hiding St
end Mg
namespace Dw
/-- the greatest height along a word -/
def top : Nat → Nat → List Nat → Nat
  | _, g, [] => g
  | h, g, c :: s => if c = 40 then top (h + 1) (max g (h + 1)) s else top (h - 1) (max g (h - 1)) s
end Dw
namespace Pg
open PySem PySem.Spec L2 Fw
open PyProof.Rows hiding St
end Pg


set_option Elab.async false
set_option linter.all false
set_option maxRecDepth 100000
set_option maxHeartbeats 4000000
set_option autoImplicit false
namespace Fw
open PySem PySem.Spec L2
open PyProof.Rows hiding St
theorem sIx_nat {n d i : Nat} (h : i ≤ n) : HT.sIx n d (some (i : Int)) = i := by
  simp only [HT.sIx]
  split <;> omega
theorem cut_sn {α : Type} (xs : List α) {i : Nat} (h : i ≤ xs.length) : cutA xs (some (i : Int)) none = xs.drop i := by
  unfold cutA
  rw [sIx_nat h]
  show (xs.drop i).take (xs.length - i) = _
  rw [List.take_of_length_le (by simp)]
end Fw
namespace Pg
open PySem PySem.Spec L2 Fw
open PyProof.Rows hiding St
end Pg
namespace Dw
def tops : Fo → Nat
  | .nil => 0
  | .node _ b => tops b + 1
def bl : Fo → List (List Nat)
  | .nil => []
  | .node a b => word (.node a .nil) :: bl b
end Dw
namespace Pg
open PySem PySem.Spec L2 Fw
open PyProof.Rows hiding St
end Pg


set_option Elab.async false
set_option linter.all false
set_option maxRecDepth 100000
set_option maxHeartbeats 4000000
set_option autoImplicit false
namespace Dw
def c2 : List Nat → Nat
  | [] => 0
  | c :: r => (if c = 40 ∧ r.head? = some 41 then 1 else 0) + c2 r
end Dw
namespace Fw
open PySem PySem.Spec L2 PySem.StrLaws PySem.Builtin.Str
open PyProof.Rows hiding St
end Fw
namespace Pg
open PySem PySem.Spec L2 Fw
open PyProof.Rows hiding St
end Pg


set_option Elab.async false
set_option linter.all false
set_option maxRecDepth 100000
set_option maxHeartbeats 4000000
set_option autoImplicit false
namespace Fw
open PySem PySem.Spec L2
open PyProof.Rows hiding St
/-- data that can be laid, shown and compared: depth, a bound of its text -/
structure Bd (k n : Nat) (d : PyData) : Prop where
  dp : d.depth ≤ k
  cl : d.canLay0 = true
  sh : d.showable = true
  ln : d.shown.length ≤ n
theorem Bd.up {k n k' n' : Nat} {d : PyData} (b : Bd k n d) (h : k ≤ k') (h2 : n ≤ n') : Bd k' n' d := ⟨by have := b.dp; omega, b.cl, b.sh, by have := b.ln; omega⟩
theorem Bd.shp {k n : Nat} {d : PyData} (b : Bd k n d) (h : k ≤ 64) : SeqAt.shaped d = true := by
  unfold SeqAt.shaped
  rw [b.cl, Bool.true_and]
  exact decide_eq_true (by have := b.dp; omega)
theorem depthAll_le {k : Nat} : ∀ ds : List PyData, (∀ d ∈ ds, d.depth ≤ k) → PyData.depthAll ds ≤ k
  | [], _ => by simp [PyData.depthAll]
  | d :: ds, h => by
    have := depthAll_le ds fun x m => h x (List.mem_cons_of_mem _ m)
    have := h d List.mem_cons_self
    simp only [PyData.depthAll]
    omega
theorem canLayAll_of : ∀ ds : List PyData, (∀ d ∈ ds, d.canLay0 = true) → PyData.canLayAll0 ds = true
  | [], _ => by simp [PyData.canLayAll0]
  | d :: ds, h => by
    simp only [PyData.canLayAll0]
    rw [h d List.mem_cons_self, canLayAll_of ds fun x m => h x (List.mem_cons_of_mem _ m)]
    rfl
end Fw

set_option Elab.async false
set_option linter.all false
set_option maxRecDepth 100000
set_option maxHeartbeats 4000000
set_option autoImplicit false
namespace Fw
open PySem PySem.Spec L2
open PyProof.Rows hiding St
@[simp] theorem sV8 (a b c d f g j k : Option Va) (x : Va) (r : En) (h : Hs) : sVar 8 (a :: b :: c :: d :: f :: g :: j :: k :: some x :: r) h = .ok x h := (rfl)
@[simp] theorem sV9 (a b c d f g j k l : Option Va) (x : Va) (r : En) (h : Hs) : sVar 9 (a :: b :: c :: d :: f :: g :: j :: k :: l :: some x :: r) h = .ok x h := (rfl)
@[simp] theorem sV10 (a b c d f g j k l n : Option Va) (x : Va) (r : En) (h : Hs) : sVar 10 (a :: b :: c :: d :: f :: g :: j :: k :: l :: n :: some x :: r) h = .ok x h := (rfl)
@[simp] theorem sV11 (a b c d f g j k l n o : Option Va) (x : Va) (r : En) (h : Hs) : sVar 11 (a :: b :: c :: d :: f :: g :: j :: k :: l :: n :: o :: some x :: r) h = .ok x h := (rfl)
@[simp] theorem sV12 (a b c d f g j k l n o p : Option Va) (x : Va) (r : En) (h : Hs) : sVar 12 (a :: b :: c :: d :: f :: g :: j :: k :: l :: n :: o :: p :: some x :: r) h = .ok x h := (rfl)
@[simp] theorem sV13 (a b c d f g j k l n o p q : Option Va) (x : Va) (r : En) (h : Hs) : sVar 13 (a :: b :: c :: d :: f :: g :: j :: k :: l :: n :: o :: p :: q :: some x :: r) h = .ok x h := (rfl)
@[simp] theorem sV14 (a b c d f g j k l n o p q t : Option Va) (x : Va) (r : En) (h : Hs) : sVar 14 (a :: b :: c :: d :: f :: g :: j :: k :: l :: n :: o :: p :: q :: t :: some x :: r) h = .ok x h := (rfl)
theorem last_at (h : Hs) (o : Ob) : (h ++ [o])[h.length]? = some o := by simp
theorem Kp.new {m : Nat} {a h : Hs} (k : Kp m a h) (o : Ob) : Kp m a (h ++ [o]) := k.trans (.app k.mug [o])
theorem Kp.at {m : Nat} {h h' : Hs} (k : Kp m h h') {i : Nat} {o : Ob} (n : i ≠ m) (e : h[i]? = some o) : h'[i]? = some o := k.old i o n e
theorem Mug.ne {h : Hs} {m : Nat} (q : Mug h m) : h.length ≠ m := by
  obtain ⟨_, _, _, e⟩ := q
  have := (List.getElem?_eq_some_iff.mp e).1
  omega
/-- a list of texts, and their numbers, as a filter tells them -/
theorem lcl_cnt {α : Type} {g : α → Va} {xs : List α} {s : Src} {gt : Tg} {t : Sm Bool} {el : Sx} {e : En} (p : α → Bool) (k : α → Va) {h : Hs}
    (st : ∀ i x, xs[i]? = some x → s i h = some (some (g x)) ∧ ∃ e', gt (g x) e h = .ok e' h ∧ t e' h = .ok (p x) h ∧ (p x = true → el e' h = .ok (k x) h)) (en : s xs.length h = some none) :
    lcl s gt t el xs.length 0 e h = .ok ((xs.filter p).map k) h := by
  have go : ∀ n i, i + n = xs.length → lcl s gt t el n i e h = .ok (((xs.drop i).filter p).map k) h := by
    intro n
    induction n with
    | zero =>
      intro i q
      have : i = xs.length := by omega
      subst this
      simp [lcl, en]
    | succ n ih =>
      intro i q
      have hi : i < xs.length := by omega
      obtain ⟨x, e1, e2⟩ := drop_cons hi
      obtain ⟨a1, e', a2, a3, a4⟩ := st i x e1
      have b := ih (i + 1) (by omega)
      cases c : p x with
      | false =>
        rw [c] at a3
        simp only [lcl, a1, a2, a3]
        rw [b, e2, List.filter_cons, if_neg (by rw [c]; exact Bool.false_ne_true)]
      | true =>
        rw [c] at a3
        simp only [lcl, a1, a2, a3, a4 c, b]
        rw [e2, List.filter_cons, if_pos c]
        rfl
  exact go xs.length 0 (by omega)
end Fw
namespace Mg
open PySem PySem.Spec L2 Fw Pg
open PyProof.Rows hiding St
theorem pick_ok {h : Hs} {m : Nat} (q : Mug h m) (xs : List Nat) (h0 : 0 < xs.length) (h1 : xs.length < 100) (hx : ∀ x ∈ xs, x ≤ 12) : ∃ (n : Nat) (h' : Hs), G__law_of [.loc m, .loc h.length] (h ++ [.lst (xs.map fun i => Va.int (i : Nat))]) = .ok (.int (n : Nat)) h' ∧ n ≤ 12 ∧ n ∈ xs ∧ Kp m h h' := by
  have k1 : Kp m h (h ++ [.lst (xs.map fun i => Va.int (i : Nat))]) := .app q _
  obtain ⟨x, h', e1, e2, e3⟩ := of_ok k1.mug (last_at h _) q.ne (by simpa using h0) (by simp; omega)
  obtain ⟨n, n1, rfl⟩ := List.mem_map.mp e2
  exact ⟨n, h', e1, hx n n1, n1, k1.trans e3⟩
end Mg

set_option Elab.async false
set_option linter.all false
set_option maxRecDepth 100000
set_option maxHeartbeats 4000000
set_option autoImplicit false
namespace Dw
/-- n arches around f -/
def ns : Nat → Fo → Fo
  | 0, f => f
  | n + 1, f => .node (ns n f) .nil
/-- the hook that has k tops ahead of it and r behind it -/
def hk (k r : Nat) : Fo := ns k (.node .nil (app (ns r .nil) (.node .nil .nil)))
/-- arches that go past a foot, and those that end ahead of it -/
def thr (k : Nat) (ps : List (Nat × Nat)) : Nat := (ps.filter fun q => decide (q.1 < k ∧ k ≤ q.2)).length
theorem M_mir : ∀ f p, M p (mir f) = (M p f).reverse.map fun m => 2 * p + sz f - 1 - m
  | .nil, p => rfl
  | .node a b, p => by
    have sa := sz_mir a
    have sb := sz_mir b
    simp only [mir, M_app, M, sa, sb, M_mir a, M_mir b, sz]
    rw [show p + sz a + 2 = p + (sz a + 2) by omega, M_up b p (sz a + 2)]
    rw [show p + sz b + 1 = p + 1 + sz b by omega, M_up a (p + 1) (sz b)]
    simp only [List.reverse_cons, List.reverse_append, List.map_append, List.map_cons, List.map_nil, List.map_reverse, List.map_map, List.append_assoc, List.cons_append, List.nil_append]
    congr 1
    · congr 1
      refine List.map_congr_left fun m hm => ?_
      have := M_in b p m hm
      simp only [Function.comp_apply]
      omega
    · rw [show 2 * p + (sz a + sz b + 2) - 1 - p = p + sz b + sz a + 1 by omega]
      congr 1
      congr 1
      · congr 1
        refine List.map_congr_left fun m hm => ?_
        have := M_in a (p + 1) m hm
        simp only [Function.comp_apply]
        omega
      · congr 1
        omega
end Dw
namespace Pg
open PySem PySem.Spec L2 Fw
open PyProof.Rows hiding St
end Pg

set_option Elab.async false
set_option linter.all false
set_option maxRecDepth 100000
set_option maxHeartbeats 4000000
set_option autoImplicit false
namespace Fw
open PySem PySem.Spec L2
open PyProof.Rows hiding St
def Gr (h h' : Hs) : Prop := ∃ r, h' = h ++ r
theorem Gr.refl (h : Hs) : Gr h h := ⟨[], by simp⟩
theorem Gr.trans {a b c : Hs} (p : Gr a b) (q : Gr b c) : Gr a c := by
  obtain ⟨r, rfl⟩ := p
  obtain ⟨s, rfl⟩ := q
  exact ⟨r ++ s, by simp⟩
theorem Gr.app (h r : Hs) : Gr h (h ++ r) := ⟨r, rfl⟩
theorem Gr.at {h h' : Hs} (q : Gr h h') {n : Nat} {o : Ob} (e : h[n]? = some o) : h'[n]? = some o := by
  obtain ⟨r, rfl⟩ := q
  rw [List.getElem?_append_left (List.getElem?_eq_some_iff.mp e).1]
  exact e
theorem at_last (h : Hs) (o : Ob) : (h ++ [o])[h.length]? = some o := by simp
theorem seq_nx {a c : Ss} {e e' : En} {h h' : Hs} (q : a e h = .nx e' h') : seq a c e h = c e' h' := by rw [seq_ap, q, thn_nx]
end Fw
namespace Pg
open PySem PySem.Spec L2 Fw
open PyProof.Rows hiding St
theorem cut_ns {α : Type} (xs : List α) {j : Nat} (h : j ≤ xs.length) : cutA xs none (some (j : Int)) = xs.take j := by
  unfold cutA
  rw [sIx_nat h]
  show (xs.drop 0).take (j - 0) = _
  simp
end Pg

set_option Elab.async false
set_option linter.all false
set_option maxRecDepth 100000
set_option maxHeartbeats 4000000
set_option autoImplicit false
namespace Fw
open PySem PySem.Spec L2
open PyProof.Rows hiding St
theorem whl_any {t : Sm Bool} {b : Ss} {f : Nat} {e : En} {h : Hs} {L : Rt} (hL : whl t b f e h = L) (I : Nat → En → Hs → Prop) (J : En → Hs → Prop) (n : Nat) (hn : n < f) (h0 : I n e h)
    (st : ∀ n e h, I n e h → (∃ h1, t e h = .ok false h1 ∧ J e h1) ∨ (∃ m h1 e' h', n = m + 1 ∧ t e h = .ok true h1 ∧ b e h1 = .nx e' h' ∧ I m e' h')) : ∃ e' h', L = .nx e' h' ∧ J e' h' := by
  subst hL
  induction n generalizing f e h with
  | zero =>
    cases f with
    | zero => omega
    | succ f =>
      rcases st 0 e h h0 with ⟨h1, a, b⟩ | ⟨m, h1, e', h', e0, _⟩
      · exact ⟨e, h1, by simp only [whl, a], b⟩
      · omega
  | succ n ih =>
    cases f with
    | zero => omega
    | succ f =>
      rcases st (n + 1) e h h0 with ⟨h1, a, b⟩ | ⟨m, h1, e1, h2, e0, a1, a2, a3⟩
      · exact ⟨e, h1, by simp only [whl, a], b⟩
      · obtain rfl : m = n := by omega
        obtain ⟨e', h', b1, b2⟩ := ih (f := f) (show m < f by omega) a3
        exact ⟨e', h', by simp only [whl, a1, a2, aft]; exact b1, b2⟩
theorem md_ok {a m : Nat} {h : Hs} (m0 : 0 < m) : kMod (.int (a : Nat)) (.int (m : Nat)) h = .ok (.int (a % m : Nat)) h := by
  simp only [kMod]
  rw [if_pos (by omega)]
  rfl
theorem mu_ok {a b : Nat} {h : Hs} (l : a < 2 ^ 60) : kMul (.int (a : Nat)) (.int (b : Nat)) h = .ok (.int (a * b : Nat)) h := by
  simp only [kMul]
  rw [if_pos (.inl ⟨by omega, by omega⟩), Int.natCast_mul]
theorem fd_ok {a m : Nat} {h : Hs} (m0 : 0 < m) (m1 : m < 1073741824) : kFdv (.int (a : Nat)) (.int (m : Nat)) h = .ok (.int (a / m : Nat)) h := by
  simp only [kFdv]
  rw [if_pos ⟨by omega, by omega⟩]
  rfl
theorem ad_ok {a b : Nat} {h : Hs} : kAdd (.int (a : Nat)) (.int (b : Nat)) h = .ok (.int (a + b : Nat)) h := rfl
theorem sb_ok {a b : Nat} {h : Hs} (l : b ≤ a) : kSub (.int (a : Nat)) (.int (b : Nat)) h = .ok (.int (a - b : Nat)) h := by
  show Rs.ok (Va.int ((a : Int) - b)) h = _
  rw [Int.ofNat_sub l]
theorem eqn_ok {a b : Nat} {h : Hs} : kEq (.int (a : Nat)) (.int (b : Nat)) h = .ok (.bl (decide (a = b))) h := by
  show Rs.ok (Va.bl (decide ((a : Int) = b))) h = _
  congr 3
  rw [eq_iff_iff]
  omega
theorem nen_ok {a b : Nat} {h : Hs} : kNe (.int (a : Nat)) (.int (b : Nat)) h = .ok (.bl (!decide (a = b))) h := by
  show Rs.ok (Va.bl (!decide ((a : Int) = b))) h = _
  congr 4
  rw [eq_iff_iff]
  omega
theorem gt_ok {a b : Nat} {h : Hs} : kGt (.int (a : Nat)) (.int (b : Nat)) h = .ok (.bl (decide (b < a))) h := by simp
theorem le_ok {a b : Nat} {h : Hs} : kLe (.int (a : Nat)) (.int (b : Nat)) h = .ok (.bl (decide (a ≤ b))) h := by simp [kLe]
theorem lt_ok {a b : Nat} {h : Hs} : kLt (.int (a : Nat)) (.int (b : Nat)) h = .ok (.bl (decide (a < b))) h := by simp
theorem ix_tupN {xs : List Va} {i : Nat} {x : Va} {h : Hs} (e : xs[i]? = some x) : kIx (.tup xs) (.int (i : Nat)) h = .ok x h := by
  have := Fw.atI_nat e
  simp [kIx, gIx, this]
end Fw

set_option Elab.async false
set_option linter.all false
set_option maxRecDepth 100000
set_option maxHeartbeats 4000000
set_option autoImplicit false
namespace Fw
open PySem PySem.Spec L2
open PyProof.Rows hiding St
theorem litN (n : Nat) : Va.int (no_index (@OfNat.ofNat Int n instOfNat)) = Va.int ((@OfNat.ofNat Nat n (instOfNatNat n) : Nat) : Int) := rfl
theorem ge_ok {a b : Nat} {h : Hs} : kGe (.int (a : Nat)) (.int (b : Nat)) h = .ok (.bl (decide (b ≤ a))) h := by simp [kGe]
theorem mx_ok {a b : Nat} {h : Hs} : kMax [.int (a : Nat), .int (b : Nat)] h = .ok (.int (max a b : Nat)) h := by
  simp only [kMax, okI]
  congr 2
  split <;> omega
theorem mn_ok {a b : Nat} {h : Hs} : kMin [.int (a : Nat), .int (b : Nat)] h = .ok (.int (min a b : Nat)) h := by
  simp only [kMin, okI]
  congr 2
  split <;> omega
theorem it_ok {i : Int} {h : Hs} : kInt [.int i] h = .ok (.int i) h := (rfl)
theorem ib_ok {b : Bool} {h : Hs} : kInt [.bl b] h = .ok (.int (b.toNat : Nat)) h := by cases b <;> rfl
theorem ia_ok {a b : Nat} {h : Hs} : kIad (.int (a : Nat)) (.int (b : Nat)) h = .ok (.int (a + b : Nat)) h := (rfl)
theorem aw_ok {a b : Nat} {h : Hs} : kAddW (.int (a : Nat)) (.int (b : Nat)) h = .ok (.int (a + b : Nat)) h := (rfl)
theorem aws_ok {a b : List Nat} {h : Hs} (l : a.length + b.length ≤ 16777216) : kAddW (.str a) (.str b) h = .ok (.str (a ++ b)) h := by
  show (if a.length + b.length ≤ 16777216 then _ else _) = _
  rw [if_pos l]
theorem as_ok {a b : List Nat} {h : Hs} (l : a.length + b.length ≤ 16777216) : kAdd (.str a) (.str b) h = .ok (.str (a ++ b)) h := by
  show (if a.length + b.length ≤ 16777216 then _ else _) = _
  rw [if_pos l]
theorem ln_str {x : List Nat} {h : Hs} (l : x.length ≤ 16777216) : kLen [.str x] h = .ok (.int (x.length : Nat)) h := if_pos l
theorem ln_tup {xs : List Va} {h : Hs} : kLen [.tup xs] h = .ok (.int (xs.length : Nat)) h := (rfl)
theorem ln_ros {xs : List Va} {h : Hs} : kLen [.ros xs] h = .ok (.int (xs.length : Nat)) h := (rfl)
theorem eqs_ok {a b : List Nat} {h : Hs} : kEq (.str a) (.str b) h = .ok (.bl (decide (a = b))) h := (rfl)
theorem nes_ok {a b : List Nat} {h : Hs} : kNe (.str a) (.str b) h = .ok (.bl (!decide (a = b))) h := (rfl)
theorem asB_bl (b : Bool) : asB (.bl b) = some b := (rfl)
theorem trA_bl (b : Bool) (h : Hs) : trA (.bl b) h = some b := (rfl)
theorem gNm_ap (i : Nat) (x : Va) (e : En) (h : Hs) : gNm i x e h = .ok (e.set i (some x)) h := (rfl)
theorem gTp2 (i j : Nat) (x y : Va) (e : En) (h : Hs) : gTp 2 (gsCons (gNm i) (gsCons (gNm j) gsNil)) (.tup [x, y]) e h = .ok ((e.set i (some x)).set j (some y)) h := (rfl)
theorem gTp3 (i j k : Nat) (x y z : Va) (e : En) (h : Hs) : gTp 3 (gsCons (gNm i) (gsCons (gNm j) (gsCons (gNm k) gsNil))) (.tup [x, y, z]) e h = .ok (((e.set i (some x)).set j (some y)).set k (some z)) h := (rfl)
theorem gTp2w (i j : Nat) (x y : Va) (e : En) (h : Hs) : gTp 2 (gsCons (gNm i) (gsCons (gNm j) gsNil)) (.tpw [x, y]) e h = .ok ((e.set i (some x)).set j (some y)) h := (rfl)
theorem gTp3w (i j k : Nat) (x y z : Va) (e : En) (h : Hs) : gTp 3 (gsCons (gNm i) (gsCons (gNm j) (gsCons (gNm k) gsNil))) (.tpw [x, y, z]) e h = .ok (((e.set i (some x)).set j (some y)).set k (some z)) h := (rfl)
theorem setAll_nil (e : En) : setAll [] [] e = some e := (rfl)
theorem setAll_cons (i : Nat) (is : List Nat) (x : Va) (xs : List Va) (e : En) : setAll (i :: is) (x :: xs) e = setAll is xs (e.set i (some x)) := (rfl)
theorem fm1 (a : Va) : List.filterMap (fun (j : Nat) => [a][j]?) [0] = [a] := (rfl)
theorem fm2 (a b : Va) : List.filterMap (fun (j : Nat) => [a, b][j]?) [0, 1] = [a, b] := (rfl)
theorem fm2' (a b : Va) : List.filterMap (fun (j : Nat) => [a, b][j]?) [1, 0] = [b, a] := (rfl)
theorem fm3 (a b c : Va) : List.filterMap (fun (j : Nat) => [a, b, c][j]?) [0, 1, 2] = [a, b, c] := (rfl)
theorem fm4 (a b c d : Va) : List.filterMap (fun (j : Nat) => [a, b, c, d][j]?) [0, 1, 2, 3] = [a, b, c, d] := (rfl)
theorem fm5 (a b c d f : Va) : List.filterMap (fun (j : Nat) => [a, b, c, d, f][j]?) [0, 1, 2, 3, 4] = [a, b, c, d, f] := (rfl)
theorem fm0 : List.filterMap (fun (j : Nat) => ([] : List Va)[j]?) [] = [] := (rfl)
theorem sV15 (a b c d f g j k l n o p q t u : Option Va) (x : Va) (r : En) (h : Hs) : sVar 15 (a :: b :: c :: d :: f :: g :: j :: k :: l :: n :: o :: p :: q :: t :: u :: some x :: r) h = .ok x h := (rfl)
theorem sV16 (a b c d f g j k l n o p q t u a1 : Option Va) (x : Va) (r : En) (h : Hs) : sVar 16 (a :: b :: c :: d :: f :: g :: j :: k :: l :: n :: o :: p :: q :: t :: u :: a1 :: some x :: r) h = .ok x h := (rfl)
theorem sV17 (a b c d f g j k l n o p q t u a1 a2 : Option Va) (x : Va) (r : En) (h : Hs) : sVar 17 (a :: b :: c :: d :: f :: g :: j :: k :: l :: n :: o :: p :: q :: t :: u :: a1 :: a2 :: some x :: r) h = .ok x h := (rfl)
theorem sV18 (a b c d f g j k l n o p q t u a1 a2 a3 : Option Va) (x : Va) (r : En) (h : Hs) : sVar 18 (a :: b :: c :: d :: f :: g :: j :: k :: l :: n :: o :: p :: q :: t :: u :: a1 :: a2 :: a3 :: some x :: r) h = .ok x h := (rfl)
theorem sV19 (a b c d f g j k l n o p q t u a1 a2 a3 a4 : Option Va) (x : Va) (r : En) (h : Hs) : sVar 19 (a :: b :: c :: d :: f :: g :: j :: k :: l :: n :: o :: p :: q :: t :: u :: a1 :: a2 :: a3 :: a4 :: some x :: r) h = .ok x h := (rfl)
theorem sV20 (a b c d f g j k l n o p q t u a1 a2 a3 a4 a5 : Option Va) (x : Va) (r : En) (h : Hs) : sVar 20 (a :: b :: c :: d :: f :: g :: j :: k :: l :: n :: o :: p :: q :: t :: u :: a1 :: a2 :: a3 :: a4 :: a5 :: some x :: r) h = .ok x h := (rfl)
theorem stp_ap (g : Tg) (b : Ss) (x : Va) (e : En) (h : Hs) : stp g b x e h = match g x e h with | .ok e' h' => b e' h' | _ => .bad := (rfl)
theorem wipeE_nil (e : En) : wipeE e [] = e := (rfl)
theorem wipeE_cons (e : En) (v : Nat) (vs : List Nat) : wipeE e (v :: vs) = (wipeE e vs).set v none := (rfl)
theorem EV0 : (type_of% @fwd_ok) ∧ (type_of% @fwdS_ok) ∧ (type_of% @thn_nx) ∧ (type_of% @thn_rt) ∧ (type_of% @bnd_ap) ∧ (type_of% @bnS_ap) ∧ (type_of% @vl_ap) ∧ (type_of% @s2_ap) ∧ (type_of% @s1_ap) ∧ (type_of% @sK_ap) ∧ (type_of% @sV0) ∧ (type_of% @sV1) ∧ (type_of% @sV2) ∧ (type_of% @sV3) ∧ (type_of% @sV4) ∧ (type_of% @sV5) ∧ (type_of% @sV6) ∧ (type_of% @sV7) ∧ (type_of% @sV8) ∧ (type_of% @sV9) ∧ (type_of% @sV10) ∧ (type_of% @sV11) ∧ (type_of% @sV12) ∧ (type_of% @sV13) ∧ (type_of% @sV14) ∧ (type_of% @sV15) ∧ (type_of% @sV16) ∧ (type_of% @sV17) ∧ (type_of% @sV18) ∧ (type_of% @sV19) := ⟨@fwd_ok, @fwdS_ok, @thn_nx, @thn_rt, @bnd_ap, @bnS_ap, @vl_ap, @s2_ap, @s1_ap, @sK_ap, @sV0, @sV1, @sV2, @sV3, @sV4, @sV5, @sV6, @sV7, @sV8, @sV9, @sV10, @sV11, @sV12, @sV13, @sV14, @sV15, @sV16, @sV17, @sV18, @sV19⟩
theorem EV1 : (type_of% @sV20) ∧ (type_of% @sNil_ap) ∧ (type_of% @sCons_ap) ∧ (type_of% @sSet_ap) ∧ (type_of% @sAug_ap) ∧ (type_of% @sRet_ap) ∧ (type_of% @sDrop_ap) ∧ (type_of% @skip_ap) ∧ (type_of% @sIf_ap) ∧ (type_of% @sBl_ap) ∧ (type_of% @sTru_ap) ∧ (type_of% @sNot_ap) ∧ (type_of% @sAnd_ap) ∧ (type_of% @sOr_ap) ∧ (type_of% @sIte_ap) ∧ (type_of% @byB_t) ∧ (type_of% @byB_f) ∧ (type_of% @sAndV_ap) ∧ (type_of% @sOrV_ap) ∧ (type_of% @sBlt_ap) ∧ (type_of% @sCall_ap) ∧ (type_of% @sCallK_ap) ∧ (type_of% @sTup_ap) ∧ (type_of% @sLst_ap) ∧ (type_of% @sAsg_ap) ∧ (type_of% @sPar_ap) ∧ (type_of% @sFor_ap) ∧ (type_of% @sItr_ap) ∧ (type_of% @sLc_ap) ∧ (type_of% @sMth_ap) := ⟨@sV20, @sNil_ap, @sCons_ap, @sSet_ap, @sAug_ap, @sRet_ap, @sDrop_ap, @skip_ap, @sIf_ap, @sBl_ap, @sTru_ap, @sNot_ap, @sAnd_ap, @sOr_ap, @sIte_ap, @byB_t, @byB_f, @sAndV_ap, @sOrV_ap, @sBlt_ap, @sCall_ap, @sCallK_ap, @sTup_ap, @sLst_ap, @sAsg_ap, @sPar_ap, @sFor_ap, @sItr_ap, @sLc_ap, @sMth_ap⟩
theorem EV2 : (type_of% @fin_rt) ∧ (type_of% @fin_nx) ∧ (type_of% @sChn_ap) ∧ (type_of% @sNo_ap) ∧ (type_of% @sSo_ap) ∧ (type_of% @sSl_ap) ∧ (type_of% @ngB_f) ∧ (type_of% @ngB_t) ∧ (type_of% @litN) ∧ (type_of% @ad_ok) ∧ (type_of% @sb_ok) ∧ (type_of% @mu_ok) ∧ (type_of% @md_ok) ∧ (type_of% @fd_ok) ∧ (type_of% @eqn_ok) ∧ (type_of% @nen_ok) ∧ (type_of% @gt_ok) ∧ (type_of% @le_ok) ∧ (type_of% @lt_ok) ∧ (type_of% @ge_ok) ∧ (type_of% @mx_ok) ∧ (type_of% @mn_ok) ∧ (type_of% @it_ok) ∧ (type_of% @ib_ok) ∧ (type_of% @ia_ok) ∧ (type_of% @aw_ok) ∧ (type_of% @aws_ok) ∧ (type_of% @as_ok) ∧ (type_of% @ln_str) ∧ (type_of% @ln_tup) := ⟨@fin_rt, @fin_nx, @sChn_ap, @sNo_ap, @sSo_ap, @sSl_ap, @ngB_f, @ngB_t, @litN, @ad_ok, @sb_ok, @mu_ok, @md_ok, @fd_ok, @eqn_ok, @nen_ok, @gt_ok, @le_ok, @lt_ok, @ge_ok, @mx_ok, @mn_ok, @it_ok, @ib_ok, @ia_ok, @aw_ok, @aws_ok, @as_ok, @ln_str, @ln_tup⟩
theorem EV3 : (type_of% @ln_ros) ∧ (type_of% @eqs_ok) ∧ (type_of% @nes_ok) ∧ (type_of% @asB_bl) ∧ (type_of% @trA_bl) ∧ (type_of% @gNm_ap) ∧ (type_of% @gTp2) ∧ (type_of% @gTp3) ∧ (type_of% @gTp2w) ∧ (type_of% @gTp3w) ∧ (type_of% @setAll_nil) ∧ (type_of% @setAll_cons) ∧ (type_of% @fm0) ∧ (type_of% @fm1) ∧ (type_of% @fm2) ∧ (type_of% @fm2') ∧ (type_of% @fm3) ∧ (type_of% @fm4) ∧ (type_of% @fm5) ∧ (type_of% @stp_ap) ∧ (type_of% @wipeE_nil) ∧ (type_of% @wipeE_cons) := ⟨@ln_ros, @eqs_ok, @nes_ok, @asB_bl, @trA_bl, @gNm_ap, @gTp2, @gTp3, @gTp2w, @gTp3w, @setAll_nil, @setAll_cons, @fm0, @fm1, @fm2, @fm2', @fm3, @fm4, @fm5, @stp_ap, @wipeE_nil, @wipeE_cons⟩
end Fw

set_option Elab.async false
set_option linter.all false
set_option maxRecDepth 100000
set_option maxHeartbeats 4000000
set_option autoImplicit false
namespace Fw
open PySem PySem.Spec L2
open PyProof.Rows hiding St
open Pg (vN)
/-! ### values that stand for things of a type -/
class Enc (α : Type) where
  deq : DecidableEq α
  va : α → Va
  py : α → PyData
  ok : α → Prop
  dp : Nat
  rd : ∀ (h : Hs) (x : α) (n : Nat), dp < n → rdV h n (va x) = some (py x)
  dpt : ∀ x, (py x).depth ≤ dp
  cl : ∀ x, ok x → (py x).canLay0 = true
  eqv : ∀ x y, PyData.eqv (py x) (py y) = decide (x = y)
instance {α : Type} [Enc α] : DecidableEq α := Enc.deq
theorem rdV_pos {h : Hs} {n : Nat} (h0 : 0 < n) (x : Va) : ∃ m, n = m + 1 := ⟨n - 1, by omega⟩
instance : Enc Nat where
  deq := inferInstance
  va n := .int (n : Nat)
  py n := .int (n : Nat)
  ok _ := True
  dp := 0
  rd h x n l := by obtain ⟨m, rfl⟩ := rdV_pos (h := h) l (.non); rfl
  dpt x := by simp [PyData.depth]
  cl x _ := by simp [PyData.canLay0]
  eqv x y := by
    simp only [PyData.eqv]
    rw [Bool.eq_iff_iff]
    simp
    omega
instance : Enc Int where
  deq := inferInstance
  va n := .int n
  py n := .int n
  ok _ := True
  dp := 0
  rd h x n l := by obtain ⟨m, rfl⟩ := rdV_pos (h := h) l (.non); rfl
  dpt x := by simp [PyData.depth]
  cl x _ := by simp [PyData.canLay0]
  eqv x y := by
    simp only [PyData.eqv]
    rw [Bool.eq_iff_iff]
    simp
/-- texts -/
structure Tx where
  s : List Nat
  deriving DecidableEq
instance : Enc Tx where
  deq := inferInstance
  va n := .str n.s
  py n := .str ⟨n.s.toArray⟩
  ok n := ∀ c ∈ n.s, c < 0x110000
  dp := 0
  rd h x n l := by obtain ⟨m, rfl⟩ := rdV_pos (h := h) l (.non); rfl
  dpt x := by simp [PyData.depth]
  cl x q := by
    simp only [PyData.canLay0]
    show (x.s.toArray.all fun c => decide (c < 0x110000)) = true
    rw [List.all_toArray, List.all_eq_true]
    intro c hc
    exact decide_eq_true (q c hc)
  eqv x y := by
    simp only [PyData.eqv]
    rw [Bool.eq_iff_iff]
    cases x; cases y
    simp
theorem eqvAll_map {α β : Type} [DecidableEq α] {f : α → PyData} (hf : ∀ x y, PyData.eqv (f x) (f y) = decide (x = y)) : ∀ xs ys : List α, PyData.eqvAll (xs.map f) (ys.map f) = decide (xs = ys)
  | [], [] => by simp [PyData.eqvAll]
  | [], _ :: _ => by simp [PyData.eqvAll]
  | _ :: _, [] => by simp [PyData.eqvAll]
  | x :: xs, y :: ys => by
    simp only [List.map_cons, PyData.eqvAll]
    rw [hf, eqvAll_map (β := β) hf xs ys, Bool.eq_iff_iff]
    simp
theorem mapO_enc {α : Type} [Enc α] (h : Hs) (n : Nat) (l : Enc.dp α < n) : ∀ xs : List α, mapO (rdV h n) (xs.map Enc.va) = some (xs.map Enc.py)
  | [] => rfl
  | x :: xs => by simp only [List.map_cons, mapO, Enc.rd h x n l, mapO_enc h n l xs]
/-- tuples of things alike -/
instance {α : Type} [Enc α] : Enc (List α) where
  deq := inferInstance
  va xs := .tup (xs.map Enc.va)
  py xs := .tuple (xs.map Enc.py)
  ok xs := ∀ x ∈ xs, Enc.ok x
  dp := Enc.dp α + 1
  rd h x n l := by
    obtain ⟨m, rfl⟩ := rdV_pos (h := h) (show 0 < n by omega) (.non)
    simp only [rdV, mapO_enc (α := α) h m (by omega), Option.map_some]
  dpt x := by
    have := depthAll_le (k := Enc.dp α) (x.map Enc.py) (by
      intro d hd
      obtain ⟨y, _, rfl⟩ := List.mem_map.mp hd
      exact Enc.dpt y)
    simp only [PyData.depth]
    omega
  cl x q := by
    simp only [PyData.canLay0]
    refine canLayAll_of _ fun d hd => ?_
    obtain ⟨y, hy, rfl⟩ := List.mem_map.mp hd
    exact Enc.cl y (q y hy)
  eqv x y := by
    simp only [PyData.eqv]
    exact eqvAll_map (β := Unit) Enc.eqv x y
/-- pairs -/
instance {α β : Type} [Enc α] [Enc β] : Enc (α × β) where
  deq := inferInstance
  va p := .tup [Enc.va p.1, Enc.va p.2]
  py p := .tuple [Enc.py p.1, Enc.py p.2]
  ok p := Enc.ok p.1 ∧ Enc.ok p.2
  dp := max (Enc.dp α) (Enc.dp β) + 1
  rd h x n l := by
    obtain ⟨m, rfl⟩ := rdV_pos (h := h) (show 0 < n by omega) (.non)
    simp only [rdV, mapO, Enc.rd h x.1 m (by omega), Enc.rd h x.2 m (by omega), Option.map_some]
  dpt x := by
    have := Enc.dpt x.1
    have := Enc.dpt x.2
    simp only [PyData.depth, PyData.depthAll]
    omega
  cl x q := by
    simp only [PyData.canLay0, PyData.canLayAll0, Enc.cl x.1 q.1, Enc.cl x.2 q.2, Bool.and_self]
  eqv x y := by
    simp only [PyData.eqv, PyData.eqvAll, Enc.eqv]
    rw [Bool.eq_iff_iff]
    cases x; cases y
    simp
theorem eqD_of {x y : Va} {h : Hs} {d e : PyData} {b : Bool} (neg : Bool) (q1 : rdV h 24 x = some d) (q2 : rdV h 24 y = some e) (s1 : SeqAt.shaped d = true) (s2 : SeqAt.shaped e = true) (v : PyData.eqv d e = b) : kEqD neg x y h = .ok (.bl (ngB neg b)) h := by
  simp only [kEqD, q1, q2]
  rw [if_pos ⟨s1, s2⟩, v]
  cases neg <;> rfl
theorem Enc.shp {α : Type} [Enc α] (hd : Enc.dp α < 24) (x : α) (q : Enc.ok x) : SeqAt.shaped (Enc.py x) = true := by
  unfold SeqAt.shaped
  rw [Enc.cl x q, Bool.true_and]
  exact decide_eq_true (by have := Enc.dpt x; omega)
theorem eqE {α : Type} [Enc α] (neg : Bool) (hd : Enc.dp α < 24) (x y : α) (hx : Enc.ok x) (hy : Enc.ok y) (h : Hs) : kEqD neg (Enc.va x) (Enc.va y) h = .ok (.bl (ngB neg (decide (x = y)))) h :=
  eqD_of neg (Enc.rd h x 24 hd) (Enc.rd h y 24 hd) (Enc.shp hd x hx) (Enc.shp hd y hy) (Enc.eqv x y)
theorem eqN (neg : Bool) (xs ys : List Nat) (h : Hs) : kEqD neg (.tup (xs.map vN)) (.tup (ys.map vN)) h = .ok (.bl (ngB neg (decide (xs = ys)))) h :=
  eqE neg (by decide) xs ys (fun _ _ => trivial) (fun _ _ => trivial) h
theorem ne_tN (xs ys : List Nat) (h : Hs) : kNe (.tup (xs.map vN)) (.tup (ys.map vN)) h = .ok (.bl (!decide (xs = ys))) h := eqN true xs ys h
/-- lists of things alike, in the heap -/
theorem eqLE {α : Type} [Enc α] (neg : Bool) (hd : Enc.dp α < 20) {xs ys : List α} {h : Hs} {n m : Nat} (e1 : h[n]? = some (.lst (xs.map Enc.va))) (e2 : h[m]? = some (.lst (ys.map Enc.va))) (hx : ∀ x ∈ xs, Enc.ok x) (hy : ∀ x ∈ ys, Enc.ok x) : kEqD neg (.loc n) (.loc m) h = .ok (.bl (ngB neg (decide (xs = ys)))) h := by
  have r : ∀ (zs : List α) (k : Nat), h[k]? = some (.lst (zs.map Enc.va)) → rdV h 24 (.loc k) = some (.list (zs.map Enc.py)) := fun zs k e => by
    simp only [rdV, e, mapO_enc h 23 (show Enc.dp α < 23 by omega), Option.map_some]
  have s : ∀ (zs : List α), (∀ x ∈ zs, Enc.ok x) → SeqAt.shaped (.list (zs.map Enc.py)) = true := fun zs q => by
    have dd := Enc.dpt zs
    have cc := Enc.cl zs q
    have dd : (PyData.tuple (zs.map Enc.py)).depth ≤ Enc.dp α + 1 := dd
    have cc : (PyData.tuple (zs.map Enc.py)).canLay0 = true := cc
    unfold SeqAt.shaped
    have e1 : (PyData.list (zs.map Enc.py)).canLay0 = (PyData.tuple (zs.map Enc.py)).canLay0 := by simp only [PyData.canLay0]
    have e2 : (PyData.list (zs.map Enc.py)).depth = (PyData.tuple (zs.map Enc.py)).depth := by simp only [PyData.depth]
    rw [e1, e2, cc, Bool.true_and]
    exact decide_eq_true (by omega)
  exact eqD_of neg (r xs n e1) (r ys m e2) (s xs hx) (s ys hy) (by
    simp only [PyData.eqv]
    exact eqvAll_map (β := Unit) Enc.eqv xs ys)
/-! ### loops and displays -/
def rgk1 : List Va → Hs → Rs (Src × Nat) := fun xs h' => match xs with | [.int j] => if -(2 ^ 62) ≤ j ∧ j < 2 ^ 62 then .ok (srcR 0 j.toNat, j.toNat) h' else .bad | _ => .bad
theorem sRg1_k (f : Sm (List Va)) (e : En) (h : Hs) : sRg1 f e h = fwd (f e h) fun xs h' => rgk1 xs h' := sRg1_int e h f
theorem rgk1_ok {j : Nat} {h : Hs} (l : j ≤ 1000000) : rgk1 [.int (j : Nat)] h = .ok (srcR 0 j, j) h := by
  unfold rgk1
  simp only []
  rw [if_pos ⟨by omega, by omega⟩]
  rfl
theorem loop_rg {b : Va → Ss} {n : Nat} {e : En} {h : Hs} {L : Rt} (hL : loop (srcR 0 n) b n 0 e h = L) (I : Nat → En → Hs → Prop) (h0 : I 0 e h)
    (st : ∀ i e h, i < n → I i e h → ∃ e' h', b (.int (i : Nat)) e h = .nx e' h' ∧ I (i + 1) e' h') : ∃ e' h', L = .nx e' h' ∧ I n e' h' :=
  loop_gen hL I h0 (fun i e h hi hI => by
    obtain ⟨e', h', a, c⟩ := st i e h hi hI
    exact ⟨.int (i : Nat), e', h', by simp [hi], a, c⟩) fun e h _ => by simp
/-- a list in the heap that stays -/
theorem loop_ls {m : Nat} {xs : List Va} {b : Va → Ss} {n : Nat} {e : En} {h : Hs} {L : Rt} (hL : loop (srcL m) b n 0 e h = L) (hn : n = xs.length) (I : Nat → En → Hs → Prop) (h0 : I 0 e h) (hk : ∀ i e h, I i e h → h[m]? = some (.lst xs))
    (st : ∀ i x e h, xs[i]? = some x → I i e h → ∃ e' h', b x e h = .nx e' h' ∧ I (i + 1) e' h') : ∃ e' h', L = .nx e' h' ∧ I xs.length e' h' := by
  subst hn
  refine loop_gen hL I h0 (fun i e h hi hI => ?_) fun e h hI => by simp only [srcL, hk _ _ _ hI]; simp
  obtain ⟨e', h', q, c⟩ := st i xs[i] e h (List.getElem?_eq_getElem hi) hI
  exact ⟨xs[i], e', h', by simp only [srcL, hk _ _ _ hI]; simp [hi], q, c⟩
/-- a display whose things make nothing new -/
theorem lcl_pure {s : Src} {g : Tg} {t : Sm Bool} {el : Sx} {n : Nat} {e : En} {h : Hs} (X Y : Nat → Va) (hs : ∀ i, i < n → s i h = some (some (X i))) (he : s n h = some none)
    (st : ∀ i, i < n → ∃ e', g (X i) e h = .ok e' h ∧ t e' h = .ok true h ∧ el e' h = .ok (Y i) h) : lcl s g t el n 0 e h = .ok ((List.range n).map Y) h := by
  have go : ∀ k i, i + k = n → lcl s g t el k i e h = .ok ((List.range' i k).map Y) h := by
    intro k
    induction k with
    | zero =>
      intro i q
      have : i = n := by omega
      subst this
      simp [lcl, he]
    | succ k ih =>
      intro i q
      obtain ⟨e', a, b, c⟩ := st i (by omega)
      simp only [lcl, hs i (by omega), a, b, c, ih (i + 1) (by omega)]
      rw [List.range'_succ]
      rfl
  rw [List.range_eq_range']
  exact go n 0 (by omega)
theorem lcl_rg {g : Tg} {t : Sm Bool} {el : Sx} {n : Nat} {e : En} {h : Hs} (Y : Nat → Va) (st : ∀ i, i < n → ∃ e', g (.int (i : Nat)) e h = .ok e' h ∧ t e' h = .ok true h ∧ el e' h = .ok (Y i) h) : lcl (srcR 0 n) g t el n 0 e h = .ok ((List.range n).map Y) h :=
  lcl_pure (fun i => .int (i : Nat)) Y (fun i hi => by simp [hi]) (by simp) st
theorem lcl_xs {α : Type} {f : α → Va} {xs : List α} {s : Src} {g : Tg} {t : Sm Bool} {el : Sx} {e : En} {h : Hs} (k : α → Va) (hs : ∀ i, s i h = some ((xs.map f)[i]?))
    (st : ∀ x ∈ xs, ∃ e', g (f x) e h = .ok e' h ∧ t e' h = .ok true h ∧ el e' h = .ok (k x) h) : lcl s g t el xs.length 0 e h = .ok (xs.map k) h := by
  have := lcl_cnt (g := f) (xs := xs) (s := s) (gt := g) (t := t) (el := el) (e := e) (h := h) (fun _ => true) k (fun i x ex => by
    obtain ⟨e', a, b, c⟩ := st x (List.mem_of_getElem? ex)
    exact ⟨by rw [hs, List.getElem?_map, ex]; rfl, e', a, b, fun _ => c⟩) (by rw [hs]; simp)
  rwa [List.filter_eq_self.mpr (fun _ _ => rfl)] at this
theorem lst_ok {ys : List Va} {h : Hs} : lst_ [] (.ok ys h) = newL ys h := by simp [lst_]
theorem app_ok {n : Nat} {xs : List Va} {y : Va} {h : Hs} (e : h[n]? = some (.lst xs)) (l : xs.length < 16777216) : kApp (.loc n) [y] h = .ok .non (h.set n (.lst (xs ++ [y]))) := by
  simp only [kApp, e]
  rw [if_pos l]
end Fw

set_option Elab.async false
set_option linter.all false
set_option maxRecDepth 100000
set_option maxHeartbeats 4000000
set_option autoImplicit false
namespace Fw
open PySem PySem.Spec L2
open PyProof.Rows hiding St
open Pg (vN)
theorem new0 {h : Hs} : newL [] h = .ok (.loc h.length) (h ++ [.lst []]) := new_ok (by simp)
theorem new1 {a : Va} {h : Hs} : newL [a] h = .ok (.loc h.length) (h ++ [.lst [a]]) := new_ok (by simp)
theorem ln_loc {n : Nat} {xs : List Va} {h : Hs} (e : h[n]? = some (.lst xs)) : kLen [.loc n] h = .ok (.int (xs.length : Nat)) h := by simp [lsA, e]
theorem sSlW_ap (f : Sx) (lo hi : Sm (Option Int)) (e : En) (h : Hs) : sSlW f lo hi e h = fwd (f e h) fun x h1 => fwd (lo e h1) fun l h2 => fwd (hi e h2) fun u h3 => kSlW x l u h3 := (rfl)
theorem adT_ok {xs ys : List Va} {h : Hs} (l : xs.length + ys.length ≤ 16777216) : kAddW (.tup xs) (.tup ys) h = .ok (.tup (xs ++ ys)) h := if_pos l
theorem tpL_ok {n : Nat} {xs : List Va} {h : Hs} (e : h[n]? = some (.lst xs)) : kTpl [.loc n] h = .ok (.tup xs) h := by simp [kTpl, lsA, e]
end Fw

set_option Elab.async false
set_option linter.all false
set_option maxRecDepth 100000
set_option maxHeartbeats 4000000
set_option autoImplicit false
namespace Fw
open PySem PySem.Spec L2
open PyProof.Rows hiding St
open Pg (vN)
theorem ty_str (s : List Nat) (h : Hs) : tyA "str" (.str s) h = true := (rfl)
theorem ty_lst {n : Nat} {xs : List Va} {h : Hs} (e : h[n]? = some (.lst xs)) : tyA "list" (.loc n) h = true := by simp [tyA, e]
theorem adL_ok {n m : Nat} {xs ys : List Va} {h : Hs} (e1 : h[n]? = some (.lst xs)) (e2 : h[m]? = some (.lst ys)) (l : xs.length + ys.length ≤ 16777216) : kAdd (.loc n) (.loc m) h = .ok (.loc h.length) (h ++ [.lst (xs ++ ys)]) := by
  have l' : (xs ++ ys).length ≤ 16777216 := by simpa using l
  simp [kAdd, e1, e2, new_ok l', lsA]
theorem rvT_ok {xs : List Va} {h : Hs} : kRevA (.tup xs) h = .ok (.tup xs.reverse) h := (rfl)
theorem set_last {h : Hs} {a b : Ob} : (h ++ [a]).set h.length b = h ++ [b] := by
  rw [List.set_append_right _ _ (Nat.le_refl _), Nat.sub_self]
  rfl
theorem app_last {h : Hs} {xs : List Va} {y : Va} (l : xs.length < 16777216) : kApp (.loc h.length) [y] (h ++ [.lst xs]) = .ok .non (h ++ [.lst (xs ++ [y])]) := by
  rw [app_ok (last_at h _) l, set_last]
end Fw

set_option Elab.async false
set_option linter.all false
set_option maxRecDepth 100000
set_option maxHeartbeats 4000000
set_option autoImplicit false
namespace Pg
open PySem PySem.Spec L2 Fw
open PyProof.Rows hiding St
end Pg

set_option Elab.async false
set_option linter.all false
set_option maxRecDepth 100000
set_option maxHeartbeats 4000000
set_option autoImplicit false
namespace Fw
open PySem PySem.Spec L2
open PyProof.Rows hiding St
open Pg (vN)
end Fw
namespace Pg
open PySem PySem.Spec L2 Fw
open PyProof.Rows hiding St
open Dw (Mt it2 fts walk srtN rgo rds mt)
theorem q_walk_from : G_walk_from = R_walk_from := by unfold G_walk_from; rfl
theorem fts_len (u l : Nat → Nat) (f k : Nat) : (fts u l f k).length = 2 * k := by
  induction k with
  | zero => rfl
  | succ k ih =>
    rw [Dw.fts_succ, List.length_append, ih]
    simp
    omega
theorem walk_from_ok {N : Nat} {u l : Nat → Nat} (mu : Mt N u) (ml : Mt N l) {us ls : List Nat} {a b : Nat} {h : Hs} (hN : N ≤ 24) (ea : h[a]? = some (.lst (us.map vN))) (eb : h[b]? = some (.lst (ls.map vN)))
    (hu : ∀ x, x < N → us[x]? = some (u x)) (hl : ∀ x, x < N → ls[x]? = some (l x)) {f : Nat} (hf : f < N) :
    G_walk_from [.loc a, .loc b, .int (f : Nat)] h = .ok (.loc h.length) (h ++ [.lst ((walk u l N f).map vN)]) := by
  obtain ⟨k, k0, k1, k2, k3, wk⟩ := Dw.walk_fts mu ml hf
  rw [wk, q_walk_from]
  show fin (b_walk_from [some (.loc a), some (.loc b), some (.int (f : Nat)), none, none, none] h) = _
  unfold b_walk_from
  (rw [Fw.seq_ap]; conv => { pattern (Fw.thn _ _); arg 1; simp (disch := first | omega | exact rfl) only [EV0, EV1, EV2, EV3, List.set_cons_zero, List.set_cons_succ, List.length_cons, List.length_nil, List.length_map, Nat.zero_add, List.cons_append, List.nil_append, and_self, and_true, true_and, and_false, false_and, if_true, if_false, decide_true, decide_false, decide_eq_true_eq, Bool.not_true, Bool.not_false, Bool.false_eq_true, Bool.true_eq_false, Bool.not_eq_true, eq_self, not_true_eq_false, not_false_eq_true, List.cons.injEq, Nat.reduceAdd, Nat.reduceLeDiff, Nat.reduceEqDiff, Nat.reduceSub, Nat.reduceMul, ↓reduceIte, reduceCtorEq, new0] }; rw [Fw.thn_nx])
  (rw [Fw.seq_ap]; conv => { pattern (Fw.thn _ _); arg 1; simp (disch := first | omega | exact rfl) only [EV0, EV1, EV2, EV3, List.set_cons_zero, List.set_cons_succ, List.length_cons, List.length_nil, List.length_map, Nat.zero_add, List.cons_append, List.nil_append, and_self, and_true, true_and, and_false, false_and, if_true, if_false, decide_true, decide_false, decide_eq_true_eq, Bool.not_true, Bool.not_false, Bool.false_eq_true, Bool.true_eq_false, Bool.not_eq_true, eq_self, not_true_eq_false, not_false_eq_true, List.cons.injEq, Nat.reduceAdd, Nat.reduceLeDiff, Nat.reduceEqDiff, Nat.reduceSub, Nat.reduceMul, ↓reduceIte, reduceCtorEq] }; rw [Fw.thn_nx])
  rw [seq_ap]
  generalize hL : whl _ _ _ _ _ = L
  have al := (List.getElem?_eq_some_iff.mp ea).1
  have bl := (List.getElem?_eq_some_iff.mp eb).1
  obtain ⟨e', h', rfl, ⟨z5, rfl⟩, rfl⟩ := whl_any hL (fun n en hx => ∃ j z5, j + n = k ∧ en = [some (.loc a), some (.loc b), some (.int (f : Nat)), some (.loc h.length), some (.int (it2 u l j f : Nat)), z5] ∧ hx = h ++ [.lst ((fts u l f j).map vN)])
    (fun en hx => (∃ z5, en = [some (.loc a), some (.loc b), some (.int (f : Nat)), some (.loc h.length), some (.int (f : Nat)), z5]) ∧ hx = h ++ [.lst ((fts u l f k).map vN)]) k (by omega) ⟨0, none, by omega, rfl, rfl⟩ (by
    rintro n en hx ⟨j, z5, jn, rfl, rfl⟩
    have tr : trA (.loc h.length) (h ++ [Ob.lst ((fts u l f j).map vN)]) = some (decide (0 < j)) := by
      have e : (h ++ [Ob.lst ((fts u l f j).map vN)])[h.length]? = some (.lst ((fts u l f j).map vN)) := last_at h _
      have fl := fts_len u l f j
      simp only [trA, e]
      congr 1
      cases q : (fts u l f j).map vN with
      | nil =>
        have : (fts u l f j).length = 0 := by rw [← List.length_map (f := vN), q]; rfl
        simp
        omega
      | cons x r =>
        have : (fts u l f j).length = r.length + 1 := by rw [← List.length_map (f := vN), q]; rfl
        simp
        omega
    have ij := Dw.it2_lt mu ml hf j
    by_cases c : n = 0
    · subst c
      have jk : j = k := by omega
      subst jk
      refine .inl ⟨_, ?_, ⟨z5, by rw [k2]⟩, rfl⟩
      rw [k2]
      simp (disch := first | omega | exact rfl) only [EV0, EV1, EV2, EV3, List.set_cons_zero, List.set_cons_succ, List.length_cons, List.length_nil, List.length_map, Nat.zero_add, List.cons_append, List.nil_append, and_self, and_true, true_and, and_false, false_and, if_true, if_false, decide_true, decide_false, decide_eq_true_eq, Bool.not_true, Bool.not_false, Bool.false_eq_true, Bool.true_eq_false, Bool.not_eq_true, eq_self, not_true_eq_false, not_false_eq_true, List.cons.injEq, Nat.reduceAdd, Nat.reduceLeDiff, Nat.reduceEqDiff, Nat.reduceSub, Nat.reduceMul, ↓reduceIte, reduceCtorEq, tr, k0]
    · obtain ⟨n, rfl⟩ : ∃ n', n = n' + 1 := ⟨n - 1, by omega⟩
      have i1 : kIx (.loc a) (.int (it2 u l j f : Nat)) (h ++ [Ob.lst ((fts u l f j).map vN)]) = .ok (.int (u (it2 u l j f) : Nat)) (h ++ [Ob.lst ((fts u l f j).map vN)]) := ix_loc (by rw [List.getElem?_append_left al]; exact ea) (by rw [List.getElem?_map, hu _ ij]; rfl)
      have i2 : ∀ o, kIx (.loc b) (.int (u (it2 u l j f) : Nat)) (h ++ [o]) = .ok (.int (l (u (it2 u l j f)) : Nat)) (h ++ [o]) := fun o => ix_loc (by rw [List.getElem?_append_left bl]; exact eb) (by rw [List.getElem?_map, hl _ (mu.lt _ ij)]; rfl)
      have fl := fts_len u l f j
      have ty : ∀ xs, tyA "list" (.loc h.length) (h ++ [Ob.lst xs]) = true := fun xs => ty_lst (last_at h _)
      have ap := fun (xs : List Va) (y : Va) (l : xs.length < 16777216) => app_last (h := h) (xs := xs) (y := y) l
      have a1 := ap ((fts u l f j).map vN) (.int (it2 u l j f : Nat)) (by rw [List.length_map]; omega)
      have a2 := ap ((fts u l f j).map vN ++ [.int (it2 u l j f : Nat)]) (.int (u (it2 u l j f) : Nat)) (by rw [List.length_append, List.length_map]; simp; omega)
      have t : sOr (sNot (sTru (sVar 3))) (sBl (s2 kNe (sVar 4) (sVar 2))) [some (.loc a), some (.loc b), some (.int (f : Nat)), some (.loc h.length), some (.int (it2 u l j f : Nat)), z5] (h ++ [Ob.lst ((fts u l f j).map vN)]) = .ok true (h ++ [Ob.lst ((fts u l f j).map vN)]) := by
        by_cases j0 : 0 < j
        · have ne := k3 j j0 (by omega)
          simp (disch := first | omega | exact rfl) only [EV0, EV1, EV2, EV3, List.set_cons_zero, List.set_cons_succ, List.length_cons, List.length_nil, List.length_map, Nat.zero_add, List.cons_append, List.nil_append, and_self, and_true, true_and, and_false, false_and, if_true, if_false, decide_true, decide_false, decide_eq_true_eq, Bool.not_true, Bool.not_false, Bool.false_eq_true, Bool.true_eq_false, Bool.not_eq_true, eq_self, not_true_eq_false, not_false_eq_true, List.cons.injEq, Nat.reduceAdd, Nat.reduceLeDiff, Nat.reduceEqDiff, Nat.reduceSub, Nat.reduceMul, ↓reduceIte, reduceCtorEq, tr, j0, ne]
        · simp (disch := first | omega | exact rfl) only [EV0, EV1, EV2, EV3, List.set_cons_zero, List.set_cons_succ, List.length_cons, List.length_nil, List.length_map, Nat.zero_add, List.cons_append, List.nil_append, and_self, and_true, true_and, and_false, false_and, if_true, if_false, decide_true, decide_false, decide_eq_true_eq, Bool.not_true, Bool.not_false, Bool.false_eq_true, Bool.true_eq_false, Bool.not_eq_true, eq_self, not_true_eq_false, not_false_eq_true, List.cons.injEq, Nat.reduceAdd, Nat.reduceLeDiff, Nat.reduceEqDiff, Nat.reduceSub, Nat.reduceMul, ↓reduceIte, reduceCtorEq, tr, j0]
      refine .inr ⟨n, _, [some (.loc a), some (.loc b), some (.int (f : Nat)), some (.loc h.length), some (.int (it2 u l (j + 1) f : Nat)), some (.int (u (it2 u l j f) : Nat))], h ++ [.lst ((fts u l f (j + 1)).map vN)], rfl, t, ?_, j + 1, _, by omega, rfl, rfl⟩
      rw [Dw.it2_succ, Dw.fts_succ, List.map_append]
      simp (disch := first | omega | exact rfl) only [EV0, EV1, EV2, EV3, List.set_cons_zero, List.set_cons_succ, List.length_cons, List.length_nil, List.length_map, Nat.zero_add, List.cons_append, List.nil_append, and_self, and_true, true_and, and_false, false_and, if_true, if_false, decide_true, decide_false, decide_eq_true_eq, Bool.not_true, Bool.not_false, Bool.false_eq_true, Bool.true_eq_false, Bool.not_eq_true, eq_self, not_true_eq_false, not_false_eq_true, List.cons.injEq, Nat.reduceAdd, Nat.reduceLeDiff, Nat.reduceEqDiff, Nat.reduceSub, Nat.reduceMul, ↓reduceIte, reduceCtorEq, seq_ap, i1, ty, a1, a2, i2]
      simp [vN])
  rw [thn_nx]
  simp (disch := first | omega | exact rfl) only [EV0, EV1, EV2, EV3, List.set_cons_zero, List.set_cons_succ, List.length_cons, List.length_nil, List.length_map, Nat.zero_add, List.cons_append, List.nil_append, and_self, and_true, true_and, and_false, false_and, if_true, if_false, decide_true, decide_false, decide_eq_true_eq, Bool.not_true, Bool.not_false, Bool.false_eq_true, Bool.true_eq_false, Bool.not_eq_true, eq_self, not_true_eq_false, not_false_eq_true, List.cons.injEq, Nat.reduceAdd, Nat.reduceLeDiff, Nat.reduceEqDiff, Nat.reduceSub, Nat.reduceMul, ↓reduceIte, reduceCtorEq]
end Pg

set_option Elab.async false
set_option linter.all false
set_option maxRecDepth 100000
set_option maxHeartbeats 4000000
set_option autoImplicit false
namespace Fw
open PySem PySem.Spec L2
open PyProof.Rows hiding St
theorem set_at {h : Hs} {n : Nat} {o o' : Ob} (e : h[n]? = some o) : (h.set n o')[n]? = some o' := by
  rw [List.getElem?_set_self (List.getElem?_eq_some_iff.mp e).1]
theorem set_ne {h : Hs} {n m : Nat} {o o' : Ob} (ne : n ≠ m) (e : h[m]? = some o) : (h.set n o')[m]? = some o := by
  rw [List.getElem?_set_ne ne]
  exact e
theorem app_at {h r : Hs} {n : Nat} {o : Ob} (e : h[n]? = some o) : (h ++ r)[n]? = some o := by
  rw [List.getElem?_append_left (List.getElem?_eq_some_iff.mp e).1]
  exact e
theorem ks_at {n i : Nat} {xs : List Va} {y : Va} {h : Hs} (e : h[n]? = some (.lst xs)) (l : i < xs.length) : kSet (.loc n) (.int (i : Nat)) y h = some (h.set n (.lst (xs.set i y))) := by
  have : ixN xs.length (i : Int) = some i := by
    unfold ixN
    simp [l]
  simp only [kSet, e, this, Option.map_some]
end Fw
namespace Pg
open PySem PySem.Spec L2 Fw
open PyProof.Rows hiding St
open Dw (Mt it2 fts walk srtN rgo rds mt)
def vT (l : List Nat) : Va := .tup (l.map vN)
def fl (met : List Nat) (x : Nat) : Va := .bl (met.contains x)
theorem mul_rep {n N : Nat} {x : Va} {h : Hs} (e : h[n]? = some (.lst [x])) (l : N ≤ 1000000) : kMul (.loc n) (.int (N : Nat)) h = .ok (.loc h.length) (h ++ [.lst (List.replicate N x)]) := by
  simp only [kMul, e]
  rw [if_pos ⟨by omega, by omega, by simp; omega⟩, Int.toNat_natCast, flat_rep]
  exact new_ok (by simp; omega)
theorem walk_lt {N : Nat} {u l : Nat → Nat} (mu : Mt N u) (ml : Mt N l) {f : Nat} (hf : f < N) : ∀ x ∈ walk u l N f, x < N := by
  obtain ⟨k, k0, k1, k2, k3, wk⟩ := Dw.walk_fts mu ml hf
  rw [wk]
  intro x m
  unfold fts at m
  rw [List.mem_flatten] at m
  obtain ⟨ys, m1, m2⟩ := m
  obtain ⟨i, _, rfl⟩ := List.mem_map.mp m1
  have xi := Dw.it2_lt mu ml hf i
  rcases List.mem_cons.mp m2 with rfl | m2
  · exact xi
  · rw [List.mem_singleton.mp m2]
    exact mu.lt _ xi
theorem walk_len {N : Nat} {u l : Nat → Nat} (mu : Mt N u) (ml : Mt N l) {f : Nat} (hf : f < N) : (walk u l N f).length ≤ 2 * N := by
  obtain ⟨k, k0, k1, k2, k3, wk⟩ := Dw.walk_fts mu ml hf
  rw [wk, fts_len]
  omega
end Pg

set_option Elab.async false
set_option linter.all false
set_option maxRecDepth 100000
set_option maxHeartbeats 4000000
set_option autoImplicit false
namespace Pg
open PySem PySem.Spec L2 Fw
open PyProof.Rows hiding St
open Dw (Mt it2 fts walk srtN rgo rds mt)
theorem lf_N (l : List Nat) : lfL (l.map vN) = true := lfL_map (g := vN) (fun _ => rfl) l
/-- the rounds of two rows -/
abbrev rdF (f g : Dw.Fo) : List (List Nat) := rds (mt f) (mt g) (Dw.sz f)
theorem need_rows_ok {f g : Dw.Fo} {h : Hs} (l : Dw.sz f ≤ 24) (e : Dw.sz g = Dw.sz f) : G_need_rows [.str (Dw.word f), .str (Dw.word g)] h = .ok .non h := by
  have r1 := fun h => nr_ok (f := f) (h := h) l
  have r2 := fun h => nr_ok (f := g) (h := h) (by omega)
  have w1 := Dw.word_len f
  have w2 := Dw.word_len g
  refine pure_of rfl (h' := []) ?_ rfl
  show fin (b_need_rows [some (.str (Dw.word f)), some (.str (Dw.word g))] []) = _
  unfold b_need_rows
  simp (disch := first | omega | exact rfl) only [EV0, EV1, EV2, EV3, List.set_cons_zero, List.set_cons_succ, List.length_cons, List.length_nil, List.length_map, Nat.zero_add, List.cons_append, List.nil_append, and_self, and_true, true_and, and_false, false_and, if_true, if_false, decide_true, decide_false, decide_eq_true_eq, Bool.not_true, Bool.not_false, Bool.false_eq_true, Bool.true_eq_false, Bool.not_eq_true, eq_self, not_true_eq_false, not_false_eq_true, List.cons.injEq, Nat.reduceAdd, Nat.reduceLeDiff, Nat.reduceEqDiff, Nat.reduceSub, Nat.reduceMul, ↓reduceIte, reduceCtorEq, seq_ap, r1, r2, w1, w2, e]
end Pg

set_option Elab.async false
set_option linter.all false
set_option maxRecDepth 100000
set_option maxHeartbeats 4000000
set_option autoImplicit false
/-! Matchings with feet joined: each join takes two feet away and joins their mates, or closes a loop. -/
namespace Cn
structure Inv (S : Nat → Prop) (m : Nat → Nat) : Prop where
  mem : ∀ x, S x → S (m x)
  inv : ∀ x, S x → m (m x) = x
  ne : ∀ x, S x → m x ≠ x
def con (m : Nat → Nat) (p q : Nat) (x : Nat) : Nat := if m x = p then m q else if m x = q then m p else m x
def lp (m : Nat → Nat) (p q : Nat) : Nat := if m p = q then 1 else 0
def sub (S : Nat → Prop) (p q : Nat) : Nat → Prop := fun x => S x ∧ x ≠ p ∧ x ≠ q
theorem con_inv {S : Nat → Prop} {m : Nat → Nat} {p q : Nat} (i : Inv S m) (hp : S p) (hq : S q) (n : p ≠ q) : Inv (sub S p q) (con m p q) := by
  have ip := i.inv p hp
  have iq := i.inv q hq
  have np := i.ne p hp
  have nq := i.ne q hq
  have mp := i.mem p hp
  have mq := i.mem q hq
  refine ⟨fun x ⟨hx, h1, h2⟩ => ?_, fun x ⟨hx, h1, h2⟩ => ?_, fun x ⟨hx, h1, h2⟩ => ?_⟩ <;>
  · have ix := i.inv x hx
    have nx := i.ne x hx
    have mx := i.mem x hx
    unfold con
    first
      | grind
      | (unfold sub; grind)
def run (m : Nat → Nat) : List (Nat × Nat) → (Nat → Nat) × Nat
  | [] => (m, 0)
  | (p, q) :: js => ((run (con m p q) js).1, (run (con m p q) js).2 + lp m p q)
def ends : List (Nat × Nat) → List Nat
  | [] => []
  | (p, q) :: js => p :: q :: ends js
structure Good (S : Nat → Prop) (js : List (Nat × Nat)) : Prop where
  nd : (ends js).Nodup
  ss : ∀ x ∈ ends js, S x
def subs (S : Nat → Prop) (js : List (Nat × Nat)) : Nat → Prop := fun x => S x ∧ x ∉ ends js
theorem Good.cons {S : Nat → Prop} {p q : Nat} {js : List (Nat × Nat)} : Good S ((p, q) :: js) ↔ S p ∧ S q ∧ p ≠ q ∧ Good (sub S p q) js := by
  constructor
  · rintro ⟨nd, sb⟩
    simp only [ends, List.nodup_cons, List.mem_cons, not_or] at nd sb
    exact ⟨sb p (.inl rfl), sb q (.inr (.inl rfl)), nd.1.1, nd.2.2, fun x hx => ⟨sb x (.inr (.inr hx)), fun e => nd.1.2 (e ▸ hx), fun e => nd.2.1 (e ▸ hx)⟩⟩
  · rintro ⟨h1, h2, h3, nd, sb⟩
    refine ⟨?_, ?_⟩
    · simp only [ends, List.nodup_cons, List.mem_cons, not_or]
      exact ⟨⟨h3, fun m => (sb p m).2.1 rfl⟩, fun m => (sb q m).2.2 rfl, nd⟩
    · intro x hx
      simp only [ends, List.mem_cons] at hx
      rcases hx with rfl | rfl | hx
      · exact h1
      · exact h2
      · exact (sb x hx).1
theorem subs_cons {S : Nat → Prop} {p q : Nat} {js : List (Nat × Nat)} (x : Nat) : subs S ((p, q) :: js) x ↔ subs (sub S p q) js x := by
  unfold subs sub
  simp only [ends, List.mem_cons, not_or]
  grind
theorem run_inv {S : Nat → Prop} {m : Nat → Nat} {js : List (Nat × Nat)} (i : Inv S m) (g : Good S js) : Inv (subs S js) (run m js).1 := by
  induction js generalizing S m with
  | nil =>
    refine ⟨fun x hx => ⟨i.mem x hx.1, by simp [ends]⟩, fun x hx => i.inv x hx.1, fun x hx => i.ne x hx.1⟩
  | cons j js ih =>
    obtain ⟨p, q⟩ := j
    obtain ⟨h1, h2, h3, g⟩ := Good.cons.mp g
    have := ih (con_inv i h1 h2 h3) g
    refine ⟨fun x hx => (subs_cons _).mpr (this.mem x ((subs_cons x).mp hx)), fun x hx => this.inv x ((subs_cons x).mp hx), fun x hx => this.ne x ((subs_cons x).mp hx)⟩
theorem ends_perm {js ks : List (Nat × Nat)} (h : js.Perm ks) : (ends js).Perm (ends ks) := by
  have e : ∀ l : List (Nat × Nat), ends l = l.flatMap fun p => [p.1, p.2] := by
    intro l
    induction l with
    | nil => rfl
    | cons a l ih => simp [ends, ih]
  rw [e, e]
  exact h.flatMap_right _
theorem Good.perm {S : Nat → Prop} {js ks : List (Nat × Nat)} (h : js.Perm ks) (g : Good S js) : Good S ks := ⟨(ends_perm h).nodup_iff.mp g.nd, fun x hx => g.ss x ((ends_perm h).mem_iff.mpr hx)⟩
theorem run_app (m : Nat → Nat) (js ks : List (Nat × Nat)) : (run m (js ++ ks)).1 = (run (run m js).1 ks).1 ∧ (run m (js ++ ks)).2 = (run m js).2 + (run (run m js).1 ks).2 := by
  induction js generalizing m with
  | nil => exact ⟨rfl, by simp [run]⟩
  | cons j js ih =>
    obtain ⟨p, q⟩ := j
    have := ih (con m p q)
    refine ⟨this.1, ?_⟩
    show (run (con m p q) (js ++ ks)).2 + _ = (run (con m p q) js).2 + _ + (run (run (con m p q) js).1 ks).2
    rw [this.2]
    omega
/-- a join told the other way round -/
def fl (j : Nat × Nat) : Nat × Nat := (j.2, j.1)
theorem con_fl {m : Nat → Nat} {p q : Nat} (n : p ≠ q) : con m p q = con m q p := by
  funext x
  unfold con
  grind
theorem lp_fl {S : Nat → Prop} {m : Nat → Nat} {p q : Nat} (i : Inv S m) (hp : S p) (hq : S q) : lp m p q = lp m q p := by
  have ip := i.inv p hp
  have iq := i.inv q hq
  unfold lp
  grind
theorem run_fl {S : Nat → Prop} {m : Nat → Nat} {js : List (Nat × Nat)} (i : Inv S m) (g : Good S js) : run m (js.map fl) = run m js := by
  induction js generalizing S m with
  | nil => rfl
  | cons j js ih =>
    obtain ⟨p, q⟩ := j
    obtain ⟨h1, h2, h3, g⟩ := Good.cons.mp g
    have := ih (con_inv i h1 h2 h3) g
    show ((run (con m q p) (js.map fl)).1, (run (con m q p) (js.map fl)).2 + lp m q p) = _
    rw [← con_fl h3, this, ← lp_fl i h1 h2]
    rfl
/-- other names -/
def jm (σ : Nat → Nat) (js : List (Nat × Nat)) : List (Nat × Nat) := js.map fun j => (σ j.1, σ j.2)
theorem run_rel {S : Nat → Prop} {m m' σ : Nat → Nat} {js : List (Nat × Nat)} (i : Inv S m) (g : Good S js) (inj : ∀ x y, S x → S y → σ x = σ y → x = y) (e : ∀ x, S x → m' (σ x) = σ (m x)) :
    (∀ x, subs S js x → (run m' (jm σ js)).1 (σ x) = σ ((run m js).1 x)) ∧ (run m' (jm σ js)).2 = (run m js).2 := by
  induction js generalizing S m m' with
  | nil => exact ⟨fun x hx => e x hx.1, rfl⟩
  | cons j js ih =>
    obtain ⟨p, q⟩ := j
    obtain ⟨h1, h2, h3, g⟩ := Good.cons.mp g
    have mem := i.mem
    have c : ∀ x, sub S p q x → con m' (σ p) (σ q) (σ x) = σ (con m p q x) := by
      rintro x ⟨hx, _, _⟩
      have e1 := e x hx
      have e2 := e p h1
      have e3 := e q h2
      have j1 := inj (m x) p (mem x hx) h1
      have j2 := inj (m x) q (mem x hx) h2
      unfold con
      grind
    have l : lp m' (σ p) (σ q) = lp m p q := by
      have e2 := e p h1
      have j1 := inj (m p) q (mem p h1) h2
      unfold lp
      grind
    have := ih (con_inv i h1 h2 h3) g (fun x y hx hy => inj x y hx.1 hy.1) c
    refine ⟨fun x hx => this.1 x ((subs_cons x).mp hx), ?_⟩
    show _ + _ = _ + _
    rw [l]
    exact congrArg (· + _) this.2
end Cn

set_option Elab.async false
set_option linter.all false
set_option maxRecDepth 100000
set_option maxHeartbeats 4000000
set_option autoImplicit false
namespace Cn
/-- going along: from z the mates and the joins lead to e -/
def Ch (m : Nat → Nat) : Nat → List (Nat × Nat) → Nat → Prop
  | z, [], e => m z = e
  | z, (p, q) :: js, e => m z = p ∧ Ch m q js e
theorem Ch.congr {m m' : Nat → Nat} : ∀ {js : List (Nat × Nat)} {z e : Nat}, Ch m z js e → m' z = m z → (∀ x ∈ ends js, m' x = m x) → Ch m' z js e
  | [], z, e, c, a, _ => a.trans c
  | (p, q) :: js, z, e, ⟨c1, c2⟩, a, b => ⟨a.trans c1, c2.congr (b q (by simp [ends])) fun x hx => b x (by simp [ends, hx])⟩
theorem Ch.first {m : Nat → Nat} : ∀ {js : List (Nat × Nat)} {z e : Nat}, Ch m z js e → m z = e ∨ m z ∈ ends js
  | [], _, _, c => .inl c
  | (p, q) :: js, _, _, ⟨c1, _⟩ => .inr (by simp [ends, c1])
end Cn

set_option Elab.async false
set_option linter.all false
set_option maxRecDepth 100000
set_option maxHeartbeats 4000000
set_option autoImplicit false
namespace Dw
def MT : List (List (List Nat)) := [[[]], [[1, 0]], [[3, 2, 1, 0], [1, 0, 3, 2]], [[5, 4, 3, 2, 1, 0], [5, 2, 1, 4, 3, 0], [3, 2, 1, 0, 5, 4], [1, 0, 5, 4, 3, 2], [1, 0, 3, 2, 5, 4]], [[7, 6, 5, 4, 3, 2, 1, 0], [7, 6, 3, 2, 5, 4, 1, 0], [7, 4, 3, 2, 1, 6, 5, 0], [5, 4, 3, 2, 1, 0, 7, 6], [7, 2, 1, 6, 5, 4, 3, 0], [7, 2, 1, 4, 3, 6, 5, 0], [5, 2, 1, 4, 3, 0, 7, 6], [3, 2, 1, 0, 7, 6, 5, 4], [3, 2, 1, 0, 5, 4, 7, 6], [1, 0, 7, 6, 5, 4, 3, 2], [1, 0, 7, 4, 3, 6, 5, 2], [1, 0, 5, 4, 3, 2, 7, 6], [1, 0, 3, 2, 7, 6, 5, 4], [1, 0, 3, 2, 5, 4, 7, 6]], [[9, 8, 7, 6, 5, 4, 3, 2, 1, 0], [9, 8, 7, 4, 3, 6, 5, 2, 1, 0], [9, 8, 5, 4, 3, 2, 7, 6, 1, 0], [9, 6, 5, 4, 3, 2, 1, 8, 7, 0], [7, 6, 5, 4, 3, 2, 1, 0, 9, 8], [9, 8, 3, 2, 7, 6, 5, 4, 1, 0], [9, 8, 3, 2, 5, 4, 7, 6, 1, 0], [9, 6, 3, 2, 5, 4, 1, 8, 7, 0], [7, 6, 3, 2, 5, 4, 1, 0, 9, 8], [9, 4, 3, 2, 1, 8, 7, 6, 5, 0], [9, 4, 3, 2, 1, 6, 5, 8, 7, 0], [7, 4, 3, 2, 1, 6, 5, 0, 9, 8], [5, 4, 3, 2, 1, 0, 9, 8, 7, 6], [5, 4, 3, 2, 1, 0, 7, 6, 9, 8], [9, 2, 1, 8, 7, 6, 5, 4, 3, 0], [9, 2, 1, 8, 5, 4, 7, 6, 3, 0], [9, 2, 1, 6, 5, 4, 3, 8, 7, 0], [7, 2, 1, 6, 5, 4, 3, 0, 9, 8], [9, 2, 1, 4, 3, 8, 7, 6, 5, 0], [9, 2, 1, 4, 3, 6, 5, 8, 7, 0], [7, 2, 1, 4, 3, 6, 5, 0, 9, 8], [5, 2, 1, 4, 3, 0, 9, 8, 7, 6], [5, 2, 1, 4, 3, 0, 7, 6, 9, 8], [3, 2, 1, 0, 9, 8, 7, 6, 5, 4], [3, 2, 1, 0, 9, 6, 5, 8, 7, 4], [3, 2, 1, 0, 7, 6, 5, 4, 9, 8], [3, 2, 1, 0, 5, 4, 9, 8, 7, 6], [3, 2, 1, 0, 5, 4, 7, 6, 9, 8], [1, 0, 9, 8, 7, 6, 5, 4, 3, 2], [1, 0, 9, 8, 5, 4, 7, 6, 3, 2], [1, 0, 9, 6, 5, 4, 3, 8, 7, 2], [1, 0, 7, 6, 5, 4, 3, 2, 9, 8], [1, 0, 9, 4, 3, 8, 7, 6, 5, 2], [1, 0, 9, 4, 3, 6, 5, 8, 7, 2], [1, 0, 7, 4, 3, 6, 5, 2, 9, 8], [1, 0, 5, 4, 3, 2, 9, 8, 7, 6], [1, 0, 5, 4, 3, 2, 7, 6, 9, 8], [1, 0, 3, 2, 9, 8, 7, 6, 5, 4], [1, 0, 3, 2, 9, 6, 5, 8, 7, 4], [1, 0, 3, 2, 7, 6, 5, 4, 9, 8], [1, 0, 3, 2, 5, 4, 9, 8, 7, 6], [1, 0, 3, 2, 5, 4, 7, 6, 9, 8]]]
def RC : List (List (List Nat)) := [[[0]], [[1]], [[2, 1], [1, 2]], [[3, 2, 1, 1, 2], [2, 3, 2, 2, 1], [1, 2, 3, 1, 2], [1, 2, 1, 3, 2], [2, 1, 2, 2, 3]], [[4, 3, 2, 1, 2, 3, 2, 2, 1, 1, 2, 3, 1, 2], [3, 4, 3, 2, 3, 2, 1, 1, 2, 2, 1, 2, 2, 3], [2, 3, 4, 3, 2, 3, 2, 2, 1, 1, 2, 1, 3, 2], [1, 2, 3, 4, 1, 2, 3, 1, 2, 2, 1, 2, 2, 3], [2, 3, 2, 1, 4, 3, 2, 2, 3, 3, 2, 1, 1, 2], [3, 2, 3, 2, 3, 4, 3, 3, 2, 2, 3, 2, 2, 1], [2, 1, 2, 3, 2, 3, 4, 2, 3, 1, 2, 3, 1, 2], [2, 1, 2, 1, 2, 3, 2, 4, 3, 1, 2, 1, 3, 2], [1, 2, 1, 2, 3, 2, 3, 3, 4, 2, 1, 2, 2, 3], [1, 2, 1, 2, 3, 2, 1, 1, 2, 4, 3, 2, 2, 3], [2, 1, 2, 1, 2, 3, 2, 2, 1, 3, 4, 3, 3, 2], [3, 2, 1, 2, 1, 2, 3, 1, 2, 2, 3, 4, 2, 3], [1, 2, 3, 2, 1, 2, 1, 3, 2, 2, 3, 2, 4, 3], [2, 3, 2, 3, 2, 1, 2, 2, 3, 3, 2, 3, 3, 4]], [[5, 4, 3, 2, 1, 3, 4, 3, 2, 3, 2, 1, 1, 2, 2, 3, 4, 3, 2, 3, 2, 2, 1, 1, 2, 1, 3, 2, 1, 2, 3, 4, 1, 2, 3, 1, 2, 2, 1, 2, 2, 3], [4, 5, 4, 3, 2, 4, 3, 2, 1, 2, 3, 2, 2, 1, 3, 2, 3, 2, 3, 4, 3, 3, 2, 2, 3, 2, 2, 1, 2, 1, 2, 3, 2, 3, 4, 2, 3, 1, 2, 3, 1, 2], [3, 4, 5, 4, 3, 3, 4, 3, 2, 3, 2, 1, 1, 2, 2, 3, 2, 1, 4, 3, 2, 2, 3, 3, 2, 1, 1, 2, 1, 2, 1, 2, 3, 2, 3, 3, 4, 2, 1, 2, 2, 3], [2, 3, 4, 5, 4, 2, 3, 4, 3, 2, 3, 2, 2, 1, 3, 2, 3, 2, 3, 4, 3, 3, 2, 2, 3, 2, 2, 1, 2, 1, 2, 1, 2, 3, 2, 4, 3, 1, 2, 1, 3, 2], [1, 2, 3, 4, 5, 1, 2, 3, 4, 1, 2, 3, 1, 2, 2, 1, 2, 3, 2, 3, 4, 2, 3, 1, 2, 3, 1, 2, 1, 2, 1, 2, 3, 2, 3, 3, 4, 2, 1, 2, 2, 3], [3, 4, 3, 2, 1, 5, 4, 3, 2, 3, 4, 3, 3, 2, 4, 3, 2, 1, 2, 3, 2, 2, 1, 1, 2, 3, 1, 2, 3, 2, 1, 2, 1, 2, 3, 1, 2, 2, 3, 4, 2, 3], [4, 3, 4, 3, 2, 4, 5, 4, 3, 4, 3, 2, 2, 3, 3, 4, 3, 2, 3, 2, 1, 1, 2, 2, 1, 2, 2, 3, 2, 3, 2, 3, 2, 1, 2, 2, 3, 3, 2, 3, 3, 4], [3, 2, 3, 4, 3, 3, 4, 5, 4, 3, 4, 3, 3, 2, 2, 3, 4, 3, 2, 3, 2, 2, 1, 1, 2, 1, 3, 2, 1, 2, 3, 2, 1, 2, 1, 3, 2, 2, 3, 2, 4, 3], [2, 1, 2, 3, 4, 2, 3, 4, 5, 2, 3, 4, 2, 3, 1, 2, 3, 4, 1, 2, 3, 1, 2, 2, 1, 2, 2, 3, 2, 3, 2, 3, 2, 1, 2, 2, 3, 3, 2, 3, 3, 4], [3, 2, 3, 2, 1, 3, 4, 3, 2, 5, 4, 3, 3, 4, 2, 3, 2, 1, 4, 3, 2, 2, 3, 3, 2, 1, 1, 2, 1, 2, 1, 2, 3, 2, 1, 1, 2, 4, 3, 2, 2, 3], [2, 3, 2, 3, 2, 4, 3, 4, 3, 4, 5, 4, 4, 3, 3, 2, 3, 2, 3, 4, 3, 3, 2, 2, 3, 2, 2, 1, 2, 1, 2, 1, 2, 3, 2, 2, 1, 3, 4, 3, 3, 2], [1, 2, 1, 2, 3, 3, 2, 3, 4, 3, 4, 5, 3, 4, 2, 1, 2, 3, 2, 3, 4, 2, 3, 1, 2, 3, 1, 2, 3, 2, 1, 2, 1, 2, 3, 1, 2, 2, 3, 4, 2, 3], [1, 2, 1, 2, 1, 3, 2, 3, 2, 3, 4, 3, 5, 4, 2, 1, 2, 1, 2, 3, 2, 4, 3, 1, 2, 1, 3, 2, 1, 2, 3, 2, 1, 2, 1, 3, 2, 2, 3, 2, 4, 3], [2, 1, 2, 1, 2, 2, 3, 2, 3, 4, 3, 4, 4, 5, 1, 2, 1, 2, 3, 2, 3, 3, 4, 2, 1, 2, 2, 3, 2, 3, 2, 3, 2, 1, 2, 2, 3, 3, 2, 3, 3, 4], [2, 3, 2, 3, 2, 4, 3, 2, 1, 2, 3, 2, 2, 1, 5, 4, 3, 2, 3, 4, 3, 3, 2, 2, 3, 4, 2, 3, 4, 3, 2, 1, 2, 3, 2, 2, 1, 1, 2, 3, 1, 2], [3, 2, 3, 2, 1, 3, 4, 3, 2, 3, 2, 1, 1, 2, 4, 5, 4, 3, 4, 3, 2, 2, 3, 3, 2, 3, 3, 4, 3, 4, 3, 2, 3, 2, 1, 1, 2, 2, 1, 2, 2, 3], [4, 3, 2, 3, 2, 2, 3, 4, 3, 2, 3, 2, 2, 1, 3, 4, 5, 4, 3, 4, 3, 3, 2, 2, 3, 2, 4, 3, 2, 3, 4, 3, 2, 3, 2, 2, 1, 1, 2, 1, 3, 2], [3, 2, 1, 2, 3, 1, 2, 3, 4, 1, 2, 3, 1, 2, 2, 3, 4, 5, 2, 3, 4, 2, 3, 3, 2, 3, 3, 4, 1, 2, 3, 4, 1, 2, 3, 1, 2, 2, 1, 2, 2, 3], [2, 3, 4, 3, 2, 2, 3, 2, 1, 4, 3, 2, 2, 3, 3, 4, 3, 2, 5, 4, 3, 3, 4, 4, 3, 2, 2, 3, 2, 3, 2, 1, 4, 3, 2, 2, 3, 3, 2, 1, 1, 2], [3, 4, 3, 4, 3, 3, 2, 3, 2, 3, 4, 3, 3, 2, 4, 3, 4, 3, 4, 5, 4, 4, 3, 3, 4, 3, 3, 2, 3, 2, 3, 2, 3, 4, 3, 3, 2, 2, 3, 2, 2, 1], [2, 3, 2, 3, 4, 2, 1, 2, 3, 2, 3, 4, 2, 3, 3, 2, 3, 4, 3, 4, 5, 3, 4, 2, 3, 4, 2, 3, 2, 1, 2, 3, 2, 3, 4, 2, 3, 1, 2, 3, 1, 2], [2, 3, 2, 3, 2, 2, 1, 2, 1, 2, 3, 2, 4, 3, 3, 2, 3, 2, 3, 4, 3, 5, 4, 2, 3, 2, 4, 3, 2, 1, 2, 1, 2, 3, 2, 4, 3, 1, 2, 1, 3, 2], [1, 2, 3, 2, 3, 1, 2, 1, 2, 3, 2, 3, 3, 4, 2, 3, 2, 3, 4, 3, 4, 4, 5, 3, 2, 3, 3, 4, 1, 2, 1, 2, 3, 2, 3, 3, 4, 2, 1, 2, 2, 3], [1, 2, 3, 2, 1, 1, 2, 1, 2, 3, 2, 1, 1, 2, 2, 3, 2, 3, 4, 3, 2, 2, 3, 5, 4, 3, 3, 4, 1, 2, 1, 2, 3, 2, 1, 1, 2, 4, 3, 2, 2, 3], [2, 3, 2, 3, 2, 2, 1, 2, 1, 2, 3, 2, 2, 1, 3, 2, 3, 2, 3, 4, 3, 3, 2, 4, 5, 4, 4, 3, 2, 1, 2, 1, 2, 3, 2, 2, 1, 3, 4, 3, 3, 2], [1, 2, 1, 2, 3, 3, 2, 1, 2, 1, 2, 3, 1, 2, 4, 3, 2, 3, 2, 3, 4, 2, 3, 3, 4, 5, 3, 4, 3, 2, 1, 2, 1, 2, 3, 1, 2, 2, 3, 4, 2, 3], [3, 2, 1, 2, 1, 1, 2, 3, 2, 1, 2, 1, 3, 2, 2, 3, 4, 3, 2, 3, 2, 4, 3, 3, 4, 3, 5, 4, 1, 2, 3, 2, 1, 2, 1, 3, 2, 2, 3, 2, 4, 3], [2, 1, 2, 1, 2, 2, 3, 2, 3, 2, 1, 2, 2, 3, 3, 4, 3, 4, 3, 2, 3, 3, 4, 4, 3, 4, 4, 5, 2, 3, 2, 3, 2, 1, 2, 2, 3, 3, 2, 3, 3, 4], [1, 2, 1, 2, 1, 3, 2, 1, 2, 1, 2, 3, 1, 2, 4, 3, 2, 1, 2, 3, 2, 2, 1, 1, 2, 3, 1, 2, 5, 4, 3, 2, 3, 4, 3, 3, 2, 2, 3, 4, 2, 3], [2, 1, 2, 1, 2, 2, 3, 2, 3, 2, 1, 2, 2, 3, 3, 4, 3, 2, 3, 2, 1, 1, 2, 2, 1, 2, 2, 3, 4, 5, 4, 3, 4, 3, 2, 2, 3, 3, 2, 3, 3, 4], [3, 2, 1, 2, 1, 1, 2, 3, 2, 1, 2, 1, 3, 2, 2, 3, 4, 3, 2, 3, 2, 2, 1, 1, 2, 1, 3, 2, 3, 4, 5, 4, 3, 4, 3, 3, 2, 2, 3, 2, 4, 3], [4, 3, 2, 1, 2, 2, 3, 2, 3, 2, 1, 2, 2, 3, 1, 2, 3, 4, 1, 2, 3, 1, 2, 2, 1, 2, 2, 3, 2, 3, 4, 5, 2, 3, 4, 2, 3, 3, 2, 3, 3, 4], [1, 2, 3, 2, 3, 1, 2, 1, 2, 3, 2, 1, 1, 2, 2, 3, 2, 1, 4, 3, 2, 2, 3, 3, 2, 1, 1, 2, 3, 4, 3, 2, 5, 4, 3, 3, 4, 4, 3, 2, 2, 3], [2, 3, 2, 3, 2, 2, 1, 2, 1, 2, 3, 2, 2, 1, 3, 2, 3, 2, 3, 4, 3, 3, 2, 2, 3, 2, 2, 1, 4, 3, 4, 3, 4, 5, 4, 4, 3, 3, 4, 3, 3, 2], [3, 4, 3, 2, 3, 3, 2, 1, 2, 1, 2, 3, 1, 2, 2, 1, 2, 3, 2, 3, 4, 2, 3, 1, 2, 3, 1, 2, 3, 2, 3, 4, 3, 4, 5, 3, 4, 2, 3, 4, 2, 3], [1, 2, 3, 4, 3, 1, 2, 3, 2, 1, 2, 1, 3, 2, 2, 1, 2, 1, 2, 3, 2, 4, 3, 1, 2, 1, 3, 2, 3, 2, 3, 2, 3, 4, 3, 5, 4, 2, 3, 2, 4, 3], [2, 3, 4, 3, 4, 2, 3, 2, 3, 2, 1, 2, 2, 3, 1, 2, 1, 2, 3, 2, 3, 3, 4, 2, 1, 2, 2, 3, 2, 3, 2, 3, 4, 3, 4, 4, 5, 3, 2, 3, 3, 4], [2, 1, 2, 1, 2, 2, 3, 2, 3, 4, 3, 2, 2, 3, 1, 2, 1, 2, 3, 2, 1, 1, 2, 4, 3, 2, 2, 3, 2, 3, 2, 3, 4, 3, 2, 2, 3, 5, 4, 3, 3, 4], [1, 2, 1, 2, 1, 3, 2, 3, 2, 3, 4, 3, 3, 2, 2, 1, 2, 1, 2, 3, 2, 2, 1, 3, 4, 3, 3, 2, 3, 2, 3, 2, 3, 4, 3, 3, 2, 4, 5, 4, 4, 3], [2, 3, 2, 1, 2, 4, 3, 2, 3, 2, 3, 4, 2, 3, 3, 2, 1, 2, 1, 2, 3, 1, 2, 2, 3, 4, 2, 3, 4, 3, 2, 3, 2, 3, 4, 2, 3, 3, 4, 5, 3, 4], [2, 1, 2, 3, 2, 2, 3, 4, 3, 2, 3, 2, 4, 3, 1, 2, 3, 2, 1, 2, 1, 3, 2, 2, 3, 2, 4, 3, 2, 3, 4, 3, 2, 3, 2, 4, 3, 3, 4, 3, 5, 4], [3, 2, 3, 2, 3, 3, 4, 3, 4, 3, 2, 3, 3, 4, 2, 3, 2, 3, 2, 1, 2, 2, 3, 3, 2, 3, 3, 4, 3, 4, 3, 4, 3, 2, 3, 3, 4, 4, 3, 4, 4, 5]]]
/-- a row from its word -/
def ps : Nat → List Nat → Fo × List Nat
  | 0, s => (.nil, s)
  | k + 1, s => match s with
    | 40 :: s => match ps k s with
      | (a, 41 :: s) => match ps k s with
        | (b, s) => (.node a b, s)
      | (a, s) => (a, s)
    | s => (.nil, s)
def FO (n : Nat) : List Fo := (all (2 * n) 0).map fun s => (ps 12 s).1
def mtT (n : Nat) : List (List Nat) := MT[n]?.getD []
def rcT (n : Nat) : List (List Nat) := RC[n]?.getD []
end Dw

set_option Elab.async false
set_option linter.all false
set_option maxRecDepth 100000
set_option maxHeartbeats 4000000
set_option autoImplicit false
namespace Pg
open PySem PySem.Spec L2 Fw
open PyProof.Rows hiding St
open Dw (Mt it2 fts walk srtN rgo rds mt FO mtT rcT)
/-- heap after heap: what was there stays -/
def Ke (h h' : Hs) : Prop := ∀ (i : Nat) (o : Ob), h[i]? = some o → h'[i]? = some o
theorem Ke.refl (h : Hs) : Ke h h := fun _ _ e => e
theorem Ke.trans {a b c : Hs} (p : Ke a b) (q : Ke b c) : Ke a c := fun i o e => q i o (p i o e)
theorem Ke.app (h r : Hs) : Ke h (h ++ r) := fun i o e => app_at e
theorem Ke.len {h h' : Hs} (k : Ke h h') : h.length ≤ h'.length := by
  refine Classical.byContradiction fun c => ?_
  have l : h'.length < h.length := by omega
  have := (List.getElem?_eq_some_iff.mp (k h'.length _ (List.getElem?_eq_getElem l))).1
  omega
end Pg

set_option Elab.async false
set_option linter.all false
set_option maxRecDepth 100000
set_option maxHeartbeats 4000000
set_option autoImplicit false
namespace Dw
def addN (cs : List Nat) (m : Nat) : List Nat := cs.set (m - 1) (cs[m - 1]?.getD 0 + 1)
def spT (n : Nat) : List Nat := (rcT n).foldl (fun cs r => r.foldl addN cs) (List.replicate n 0)
end Dw
namespace Fw
open PySem PySem.Spec L2
open PyProof.Rows hiding St
end Fw
namespace Pg
open PySem PySem.Spec L2 Fw
open PyProof.Rows hiding St
open Dw (Mt it2 fts walk srtN rgo rds mt FO mtT rcT addN spT)
end Pg

set_option Elab.async false
set_option linter.all false
set_option maxRecDepth 100000
set_option maxHeartbeats 4000000
set_option autoImplicit false
namespace Fw
open PySem PySem.Spec L2
open PyProof.Rows hiding St
open Pg (vN)
/-- a number in a list of numbers -/
theorem in_N {neg : Bool} {h : Hs} {n x : Nat} {xs : List Nat} (q : h[n]? = some (.lst (xs.map vN))) : kIn neg (.int (x : Nat)) (.loc n) h = .ok (.bl (ngB neg (decide (x ∈ xs)))) h := by
  have ia : inA (.int (x : Nat)) (xs.map vN) = decide (x ∈ xs) := by
    clear q
    induction xs with
    | nil => rfl
    | cons y ys ih =>
      have e : eqA (vN y) (.int (x : Nat)) = decide (x = y) := by
        show ((y : Int) == (x : Int)) = decide (x = y)
        rw [Bool.eq_iff_iff]
        simp
        omega
      show (eqA (vN y) (.int (x : Nat)) || inA (.int (x : Nat)) (ys.map vN)) = _
      rw [e, ih]
      simp [Bool.or_comm]
  have fl : (xs.map vN).all flA = true := by
    rw [List.all_map]
    exact List.all_eq_true.mpr fun _ _ => rfl
  simp only [kIn, q, kInQ]
  rw [if_pos ⟨rfl, fl⟩, if_pos ⟨rfl, fl⟩, ia]
end Fw
namespace Dw
def chn (w : Int) : Nat → Int × Int
  | 0 => (0, 1)
  | n + 1 => ((chn w n).2, w * (chn w n).2 - (chn w n).1)
end Dw
namespace Pg
open PySem PySem.Spec L2 Fw
open PyProof.Rows hiding St
open Dw (Mt it2 fts walk srtN rgo rds mt FO mtT rcT addN spT chn)
end Pg

set_option Elab.async false
set_option linter.all false
set_option maxRecDepth 100000
set_option maxHeartbeats 8000000
set_option autoImplicit false
namespace Dw
theorem fts_mem_iff {u l : Nat → Nat} {f k x : Nat} : x ∈ fts u l f k ↔ ∃ j, j < k ∧ (x = it2 u l j f ∨ x = u (it2 u l j f)) := by
  unfold fts
  rw [List.mem_flatten]
  constructor
  · rintro ⟨ys, m1, m2⟩
    obtain ⟨i, hi, rfl⟩ := List.mem_map.mp m1
    refine ⟨i, List.mem_range.mp hi, ?_⟩
    simpa using m2
  · rintro ⟨j, hj, h⟩
    exact ⟨_, List.mem_map.mpr ⟨j, List.mem_range.mpr hj, rfl⟩, by simpa using h⟩
/-- closed under both kinds of arches -/
def Clo (u l : Nat → Nat) (N : Nat) (S : List Nat) : Prop := (∀ x ∈ S, x < N) ∧ (∀ x ∈ S, u x ∈ S) ∧ ∀ x ∈ S, l x ∈ S
section
variable {N : Nat} {u l : Nat → Nat} (mu : Mt N u) (ml : Mt N l)
include mu ml
theorem walk_clo {f : Nat} (hf : f < N) : Clo u l N (walk u l N f) ∧ f ∈ walk u l N f := by
  obtain ⟨k, k0, k1, k2, k3, wk⟩ := walk_fts mu ml hf
  rw [wk]
  have lt := fun j => it2_lt mu ml hf j
  refine ⟨⟨fun x m => ?_, fun x m => ?_, fun x m => ?_⟩, fts_mem_iff.mpr ⟨0, k0, .inl rfl⟩⟩
  · obtain ⟨j, hj, rfl | rfl⟩ := fts_mem_iff.mp m
    · exact lt j
    · exact mu.lt _ (lt j)
  · obtain ⟨j, hj, rfl | rfl⟩ := fts_mem_iff.mp m
    · exact fts_mem_iff.mpr ⟨j, hj, .inr rfl⟩
    · rw [mu.inv _ (lt j)]
      exact fts_mem_iff.mpr ⟨j, hj, .inl rfl⟩
  · obtain ⟨j, hj, rfl | rfl⟩ := fts_mem_iff.mp m
    · cases j with
      | zero =>
        have e : l f = u (it2 u l (k - 1) f) := by
          have : f = l (u (it2 u l (k - 1) f)) := by rw [← it2_succ u l, show k - 1 + 1 = k by omega, k2]
          conv => lhs; rw [this]
          exact ml.inv _ (mu.lt _ (lt _))
        show l f ∈ _
        rw [e]
        exact fts_mem_iff.mpr ⟨k - 1, by omega, .inr rfl⟩
      | succ j =>
        rw [it2_succ, ml.inv _ (mu.lt _ (lt j))]
        exact fts_mem_iff.mpr ⟨j, by omega, .inr rfl⟩
    · rw [← it2_succ u l]
      by_cases c : j + 1 = k
      · rw [c, k2]
        exact fts_mem_iff.mpr ⟨0, k0, .inl rfl⟩
      · exact fts_mem_iff.mpr ⟨j + 1, by omega, .inl rfl⟩
end
end Dw
namespace Fw
open PySem PySem.Spec L2
open PyProof.Rows hiding St
open Pg (vN)
/-- heap after heap: what was there stays, but for one place -/
def Kx (F : Nat) (h h' : Hs) : Prop := ∀ (i : Nat) (o : Ob), i ≠ F → h[i]? = some o → h'[i]? = some o
theorem Kx.refl {F : Nat} (h : Hs) : Kx F h h := fun _ _ _ e => e
theorem Kx.trans {F : Nat} {a b c : Hs} (p : Kx F a b) (q : Kx F b c) : Kx F a c := fun i o n e => q i o n (p i o n e)
theorem Kx.app {F : Nat} (h r : Hs) : Kx F h (h ++ r) := fun i o _ e => app_at e
theorem Kx.set {F : Nat} (h : Hs) (o : Ob) : Kx F h (h.set F o) := fun i o n e => set_ne (Ne.symm n) e
end Fw

set_option Elab.async false
set_option linter.all false
set_option maxRecDepth 100000
set_option maxHeartbeats 4000000
set_option autoImplicit false
namespace Cn
open Dw (Mt it2 fts walk srtN rgo rds mt Clo)
theorem ends_F (F : Nat × Nat → Nat × Nat) (hF : ∀ j, F j = j ∨ F j = fl j) (js : List (Nat × Nat)) : (ends (js.map F)).Perm (ends js) := by
  induction js with
  | nil => exact .refl _
  | cons j js ih =>
    obtain ⟨p, q⟩ := j
    rw [List.map_cons]
    rcases hF (p, q) with e | e
    · rw [e]
      exact (ih.cons q).cons p
    · rw [e]
      exact ((ih.cons p).cons q).trans (.swap ..)
theorem Good.F {S : Nat → Prop} (F : Nat × Nat → Nat × Nat) (hF : ∀ j, F j = j ∨ F j = fl j) {js : List (Nat × Nat)} (g : Good S (js.map F)) : Good S js := ⟨(ends_F F hF js).nodup_iff.mp g.nd, fun x hx => g.ss x ((ends_F F hF js).mem_iff.mpr hx)⟩
theorem ends_app (a b : List (Nat × Nat)) : ends (a ++ b) = ends a ++ ends b := by
  induction a with
  | nil => rfl
  | cons x a ih => obtain ⟨p, q⟩ := x; simp [ends, ih]
/-! ### two rows, foot upon foot -/
def mm (u l : Nat → Nat) (N : Nat) (x : Nat) : Nat := if x < N then u x else N + l (x - N)
def jJ (N : Nat) (x : Nat) : Nat × Nat := (x, N + x)
def jn (N : Nat) : List (Nat × Nat) := (List.range N).map (jJ N)
def S2 (N : Nat) : Nat → Prop := fun x => x < 2 * N
theorem mm_inv {u l : Nat → Nat} {N : Nat} (mu : Mt N u) (ml : Mt N l) : Inv (S2 N) (mm u l N) := by
  unfold S2
  refine ⟨fun x hx => ?_, fun x hx => ?_, fun x hx => ?_⟩ <;> unfold mm <;> by_cases c : x < N
  · have := mu.lt x c
    rw [if_pos c]; omega
  · have := ml.lt (x - N) (by omega)
    rw [if_neg c]; omega
  · have := mu.lt x c
    rw [if_pos c, if_pos this, mu.inv x c]
  · have := ml.lt (x - N) (by omega)
    rw [if_neg c, if_neg (by omega), Nat.add_sub_cancel_left, ml.inv _ (by omega)]
    omega
  · have := mu.par x c
    rw [if_pos c]; omega
  · have := ml.par (x - N) (by omega)
    rw [if_neg c]; omega
def cf (u l : Nat → Nat) : Nat → Nat → List Nat
  | 0, _ => []
  | 1, x => [u x]
  | k + 2, x => u x :: l (u x) :: cf u l (k + 1) (l (u x))
section
variable {N : Nat} {u l : Nat → Nat} (mu : Mt N u) (ml : Mt N l)
include mu ml
theorem fts_nodup {f : Nat} (hf : f < N) {k : Nat} (hk : ∀ j, 0 < j → j < k → it2 u l j f ≠ f) : ∀ j, j ≤ k → (fts u l f j).Nodup
  | 0, _ => by simp [fts]
  | j + 1, h => by
    rw [Dw.fts_succ, List.nodup_append]
    have ih := fts_nodup hf hk j (by omega)
    have n1 := Dw.fts_mem mu ml hf hk (show j < k by omega)
    have xl := Dw.it2_lt mu ml hf j
    have pu := mu.par _ xl
    refine ⟨ih, ?_, ?_⟩
    · rw [List.nodup_cons]
      refine ⟨?_, by simp⟩
      rw [List.mem_singleton]
      intro e
      rw [← e] at pu
      omega
    · intro a ha b hb e
      subst e
      simp only [List.mem_cons, List.not_mem_nil, or_false] at hb
      rcases hb with rfl | rfl
      · exact n1 ha
      · obtain ⟨i, hi, e | e⟩ := Dw.fts_mem_iff.mp ha
        · have p1 := Dw.it2_par mu ml hf i
          have p2 := Dw.it2_par mu ml hf j
          rw [e] at pu
          omega
        · have il := Dw.it2_lt mu ml hf i
          have := congrArg u e
          rw [mu.inv _ xl, mu.inv _ il] at this
          apply n1
          rw [this]
          exact Dw.fts_mem_iff.mpr ⟨i, hi, .inl rfl⟩
end
end Cn

set_option Elab.async false
set_option linter.all false
set_option maxRecDepth 100000
set_option maxHeartbeats 4000000
set_option autoImplicit false
/-! no two arches cross; feet side by side may be joined -/
namespace Cn
open Dw (Mt it2 fts walk srtN rgo rds mt Clo)
def btw (a b x : Nat) : Prop := (a < x ∧ x < b) ∨ (b < x ∧ x < a)
/-- no two arches cross -/
def NC (S : Nat → Prop) (m : Nat → Nat) : Prop := ∀ a x, S a → S x → x ≠ a → x ≠ m a → (btw a (m a) x ↔ btw a (m a) (m x))
theorem btw_sym {a b x y : Nat} (h1 : a ≠ b) (h2 : a ≠ x) (h3 : a ≠ y) (h4 : b ≠ x) (h5 : b ≠ y) (h6 : x ≠ y) (h : btw a b x ↔ btw a b y) : btw x y a ↔ btw x y b := by
  unfold btw at *
  omega
theorem NC_con {S : Nat → Prop} {m : Nat → Nat} {p q : Nat} (i : Inv S m) (c : NC S m) (hp : S p) (hq : S q) (n : p ≠ q) (adj : ∀ z, S z → z ≠ p → z ≠ q → (z < p ↔ z < q)) : NC (sub S p q) (con m p q) := by
  have ip := i.inv p hp
  have iq := i.inv q hq
  have mp := i.mem p hp
  have mq := i.mem q hq
  have np := i.ne p hp
  have nq := i.ne q hq
  -- p and q lie on one side of each other arch
  have sd : ∀ a b, S a → S b → a ≠ p → a ≠ q → b ≠ p → b ≠ q → (btw a b p ↔ btw a b q) := fun a b ha hb h1 h2 h3 h4 => by
    have := adj a ha h1 h2
    have := adj b hb h3 h4
    unfold btw
    omega
  rintro a x ⟨ha, a1, a2⟩ ⟨hx, x1, x2⟩ xa xm
  have ia := i.inv a ha
  have ix := i.inv x hx
  have ma := i.mem a ha
  have mx := i.mem x hx
  have na := i.ne a ha
  have nx := i.ne x hx
  have old : ∀ y, S y → y ≠ a → y ≠ m a → (btw a (m a) y ↔ btw a (m a) (m y)) := fun y hy => c a y ha hy
  by_cases ap : m a = p
  · -- a's arch is the new one: a = m p, its other foot m q
    have ea : con m p q a = m q := by unfold con; rw [if_pos ap]
    rw [ea] at xm ⊢
    have eap : a = m p := by rw [← ap, ia]
    have mxp : m x ≠ p := fun w => xa (by rw [eap, ← w, ix])
    have mxq : m x ≠ q := fun w => xm (by rw [← w, ix])
    have ex : con m p q x = m x := by unfold con; rw [if_neg mxp, if_neg mxq]
    rw [ex]
    by_cases e : a = m q
    · have := congrArg m e
      rw [ap, iq] at this
      exact absurd this n
    have t1 := c x p hx hp (Ne.symm x1) (Ne.symm mxp)
    have t2 := c x q hx hq (Ne.symm x2) (Ne.symm mxq)
    have t3 := sd x (m x) hx mx x1 x2 mxp mxq
    rw [← eap] at t1
    have na' : a ≠ m x := fun w => x1 (by rw [← ap, w, ix])
    have nb' : m q ≠ m x := fun w => x2 (by have := congrArg m w; rw [iq, ix] at this; exact this.symm)
    exact btw_sym (Ne.symm nx) xa xm (Ne.symm na') (Ne.symm nb') e (by rw [← t1, t3, t2])
  · by_cases aq : m a = q
    · have ea : con m p q a = m p := by unfold con; rw [if_neg ap, if_pos aq]
      rw [ea] at xm ⊢
      have eap : a = m q := by rw [← aq, ia]
      have mxq : m x ≠ q := fun w => xa (by rw [eap, ← w, ix])
      have mxp : m x ≠ p := fun w => xm (by rw [← w, ix])
      have ex : con m p q x = m x := by unfold con; rw [if_neg mxp, if_neg mxq]
      rw [ex]
      by_cases e : a = m p
      · have := congrArg m e
        rw [aq, ip] at this
        exact absurd this (Ne.symm n)
      have t1 := c x q hx hq (Ne.symm x2) (Ne.symm mxq)
      have t2 := c x p hx hp (Ne.symm x1) (Ne.symm mxp)
      have t3 := sd x (m x) hx mx x1 x2 mxp mxq
      rw [← eap] at t1
      have na' : a ≠ m x := fun w => x2 (by rw [← aq, w, ix])
      have nb' : m p ≠ m x := fun w => x1 (by have := congrArg m w; rw [ip, ix] at this; exact this.symm)
      exact btw_sym (Ne.symm nx) xa xm (Ne.symm na') (Ne.symm nb') e (by rw [← t1, ← t3, t2])
    · have ea : con m p q a = m a := by unfold con; rw [if_neg ap, if_neg aq]
      rw [ea] at xm ⊢
      have o := old x hx xa xm
      have t3 := sd a (m a) ha ma a1 a2 ap aq
      have op := old p hp (Ne.symm a1) (Ne.symm ap)
      have oq := old q hq (Ne.symm a2) (Ne.symm aq)
      unfold con
      split
      · rename_i w
        rw [o, w, t3, oq]
      · split
        · rename_i w
          rw [o, w, ← t3, op]
        · exact o
end Cn

set_option Elab.async false
set_option linter.all false
set_option maxRecDepth 100000
set_option maxHeartbeats 4000000
set_option autoImplicit false
namespace Cn
open Dw (Mt it2 fts walk srtN rgo rds mt Clo Fo sz M)
/-- a matching without crossings is a row -/
theorem fo_of {m : Nat → Nat} : ∀ (k a : Nat), (∀ x, a ≤ x → x < a + k → a ≤ m x ∧ m x < a + k ∧ m (m x) = x ∧ m x ≠ x) → NC (fun x => a ≤ x ∧ x < a + k) m → ∃ f, sz f = k ∧ M a f = (List.range' a k).map m := by
  intro k
  induction k using Nat.strongRecOn with
  | _ k ih =>
    intro a i c
    by_cases k0 : k = 0
    · subst k0
      exact ⟨.nil, rfl, rfl⟩
    · obtain ⟨b1, b2, b3, b4⟩ := i a (Nat.le_refl a) (by omega)
      generalize hb : m a = b at *
      have reg : ∀ x, a ≤ x → x < a + k → x ≠ a → x ≠ b → m x ≠ a ∧ m x ≠ b ∧ ((a < x ∧ x < b) ↔ (a < m x ∧ m x < b)) := fun x h1 h2 h3 h4 => by
        obtain ⟨x1, x2, x3, x4⟩ := i x h1 h2
        have cc := c a x ⟨Nat.le_refl a, by omega⟩ ⟨h1, h2⟩ h3 (by rw [hb]; exact h4)
        rw [hb] at cc
        have e1 : m x ≠ a := fun w => h4 (by rw [← x3, w, hb])
        have e2 : m x ≠ b := fun w => h3 (by rw [← x3, w, b3])
        refine ⟨e1, e2, ?_⟩
        unfold btw at cc
        omega
      obtain ⟨f1, s1, m1⟩ := ih (b - a - 1) (by omega) (a + 1) (fun x h1 h2 => by
        obtain ⟨x1, x2, x3, x4⟩ := i x (by omega) (by omega)
        obtain ⟨r1, r2, r3⟩ := reg x (by omega) (by omega) (by omega) (by omega)
        omega) (fun y x hy hx => c y x ⟨by omega, by omega⟩ ⟨by omega, by omega⟩)
      obtain ⟨f2, s2, m2⟩ := ih (a + k - (b + 1)) (by omega) (b + 1) (fun x h1 h2 => by
        obtain ⟨x1, x2, x3, x4⟩ := i x (by omega) (by omega)
        obtain ⟨r1, r2, r3⟩ := reg x (by omega) (by omega) (by omega) (by omega)
        omega) (fun y x hy hx => c y x ⟨by omega, by omega⟩ ⟨by omega, by omega⟩)
      refine ⟨.node f1 f2, by simp only [sz]; omega, ?_⟩
      have e1 : a + sz f1 + 1 = b := by omega
      have e2 : a + sz f1 + 2 = b + 1 := by omega
      rw [M, e1, e2, m1, m2]
      have r : List.range' a k = a :: (List.range' (a + 1) (b - a - 1) ++ b :: List.range' (b + 1) (a + k - (b + 1))) := by
        have q1 : List.range' a k = List.range' a 1 ++ List.range' (a + 1) (k - 1) := by rw [List.range'_append_1]; congr 1; omega
        have q2 : List.range' (a + 1) (k - 1) = List.range' (a + 1) (b - a - 1) ++ List.range' b (k - 1 - (b - a - 1)) := by
          rw [show b = a + 1 + (b - a - 1) by omega, show a + 1 + (b - a - 1) - a - 1 = b - a - 1 by omega, List.range'_append_1]
          congr 1; omega
        have q3 : List.range' b (k - 1 - (b - a - 1)) = List.range' b 1 ++ List.range' (b + 1) (a + k - (b + 1)) := by rw [List.range'_append_1]; congr 1; omega
        rw [q1, q2, q3]
        rfl
      rw [r, List.map_cons, List.map_append, List.map_cons, hb, b3]
theorem fo_ex {m : Nat → Nat} {N : Nat} (i : Inv (fun x => x < N) m) (c : NC (fun x => x < N) m) : ∃ f, sz f = N ∧ ∀ x, x < N → mt f x = m x := by
  obtain ⟨f, s, e⟩ := fo_of (m := m) N 0 (fun x _ h => ⟨by omega, by have := i.mem x (by omega); omega, i.inv x (by omega), i.ne x (by omega)⟩) (fun a x ha hx => c a x (by omega) (by omega))
  refine ⟨f, s, fun x hx => ?_⟩
  unfold Dw.mt
  rw [e, List.getElem?_map, ← List.range_eq_range', List.getElem?_range hx]
  rfl
/-- the mates of a row that begins at p -/
def mf (p : Nat) (f : Fo) (x : Nat) : Nat := (M p f)[x - p]?.getD 0
theorem mf_in {f : Fo} {p x : Nat} (h1 : p ≤ x) (h2 : x < p + sz f) : p ≤ mf p f x ∧ mf p f x < p + sz f := by
  unfold mf
  have l := Dw.M_len f p
  have := Dw.M_in f p ((M p f)[x - p]'(by omega)) (List.getElem_mem _)
  rw [List.getElem?_eq_getElem (by omega)]
  simpa using this
theorem mf_node {a b : Fo} {p x : Nat} (h1 : p ≤ x) (h2 : x < p + sz a + sz b + 2) : mf p (.node a b) x = if x = p then p + sz a + 1 else if x < p + sz a + 1 then mf (p + 1) a x else if x = p + sz a + 1 then p else mf (p + sz a + 2) b x := by
  have la := Dw.M_len a (p + 1)
  unfold mf
  rw [M]
  by_cases c1 : x = p
  · subst c1
    simp
  · rw [if_neg c1, show x - p = (x - p - 1) + 1 by omega, List.getElem?_cons_succ]
    by_cases c2 : x < p + sz a + 1
    · rw [if_pos c2, List.getElem?_append_left (by omega), show x - p - 1 = x - (p + 1) by omega]
    · rw [if_neg c2, List.getElem?_append_right (by omega), la]
      by_cases c3 : x = p + sz a + 1
      · subst c3
        rw [if_pos rfl, show p + sz a + 1 - p - 1 - sz a = 0 by omega]
        rfl
      · rw [if_neg c3, show x - p - 1 - sz a = (x - (p + sz a + 2)) + 1 by omega, List.getElem?_cons_succ]
theorem NC_mf : ∀ (f : Fo) (p : Nat), NC (fun x => p ≤ x ∧ x < p + sz f) (mf p f)
  | .nil, p => fun a x ⟨h1, h2⟩ => by simp only [sz] at h2; omega
  | .node a b, p => by
    have ia := NC_mf a (p + 1)
    have ib := NC_mf b (p + sz a + 2)
    have na : ∀ x, p + 1 ≤ x → x < p + 1 + sz a → p + 1 ≤ mf (p + 1) a x ∧ mf (p + 1) a x < p + 1 + sz a := fun x => mf_in
    have nb : ∀ x, p + sz a + 2 ≤ x → x < p + sz a + 2 + sz b → p + sz a + 2 ≤ mf (p + sz a + 2) b x ∧ mf (p + sz a + 2) b x < p + sz a + 2 + sz b := fun x => mf_in
    rintro y x ⟨y1, y2⟩ ⟨x1, x2⟩ n1 n2
    simp only [sz] at y2 x2
    have ey := mf_node (a := a) (b := b) y1 (by omega)
    have ex := mf_node (a := a) (b := b) x1 (by omega)
    have iax := ia y x
    have ibx := ib y x
    rw [ey] at n2 ⊢
    rw [ex]
    have nay := na y
    have nax := na x
    have nby := nb y
    have nbx := nb x
    generalize mf (p + 1) a y = ay at *
    generalize mf (p + 1) a x = ax at *
    generalize mf (p + sz a + 2) b y = by' at *
    generalize mf (p + sz a + 2) b x = bx at *
    clear ey ex
    unfold btw at *
    have key : ∀ vy vx : Nat, ((y = p ∧ vy = p + sz a + 1) ∨ (y ≠ p ∧ y < p + sz a + 1 ∧ vy = ay) ∨ (y = p + sz a + 1 ∧ vy = p) ∨ (p + sz a + 1 < y ∧ vy = by')) → ((x = p ∧ vx = p + sz a + 1) ∨ (x ≠ p ∧ x < p + sz a + 1 ∧ vx = ax) ∨ (x = p + sz a + 1 ∧ vx = p) ∨ (p + sz a + 1 < x ∧ vx = bx)) → x ≠ vy → ((y < x ∧ x < vy ∨ vy < x ∧ x < y) ↔ (y < vx ∧ vx < vy ∨ vy < vx ∧ vx < y)) := by
      clear n2
      intro vy vx h1 h2 h3
      rcases h1 with ⟨u1, rfl⟩ | ⟨u1, u2, rfl⟩ | ⟨u1, rfl⟩ | ⟨u1, rfl⟩ <;> rcases h2 with ⟨v1, rfl⟩ | ⟨v1, v2, rfl⟩ | ⟨v1, rfl⟩ | ⟨v1, rfl⟩ <;> first | omega | (have nay := nay (by omega) (by omega); omega) | (have nby := nby (by omega) (by omega); omega) | (have nax := nax (by omega) (by omega); omega) | (have nbx := nbx (by omega) (by omega); omega) | (have nay := nay (by omega) (by omega); have nbx := nbx (by omega) (by omega); omega) | (have nby := nby (by omega) (by omega); have nax := nax (by omega) (by omega); omega) | exact iax ⟨by omega, by omega⟩ ⟨by omega, by omega⟩ (by omega) (by omega) | exact ibx ⟨by omega, by omega⟩ ⟨by omega, by omega⟩ (by omega) (by omega)
    refine key _ _ ?_ ?_ n2
    · split
      · omega
      · split
        · omega
        · split <;> omega
    · split
      · omega
      · split
        · omega
        · split <;> omega
theorem NC_mt (f : Fo) : NC (fun x => x < sz f) (mt f) := fun a x ha hx => NC_mf f 0 a x ⟨by omega, by omega⟩ ⟨by omega, by omega⟩
end Cn

set_option Elab.async false
set_option linter.all false
set_option maxRecDepth 100000
set_option maxHeartbeats 4000000
set_option autoImplicit false
/-! the product of two rows as joins -/
namespace Cn
open Dw (Mt it2 fts walk srtN rgo rds mt Clo Fo sz M)
/-- the last foot but i of the one with foot i of the other -/
def jM (N i : Nat) : Nat × Nat := (N - 1 - i, N + i)
def jm0 (N n : Nat) : List (Nat × Nat) := (List.range n).map (jM N)
/-- the outer feet under their own names -/
def oo (N n x : Nat) : Nat := if x < n then x else N + x
theorem NC_mm {f g : Fo} (e : sz g = sz f) : NC (S2 (sz f)) (mm (mt f) (mt g) (sz f)) := by
  have mf := Dw.mt_Mt f
  have mg := Dw.mt_Mt g
  have cf := NC_mt f
  have cg := NC_mt g
  rw [e] at mg cg
  generalize sz f = N at *
  intro a x ha hx n1 n2
  unfold S2 at ha hx
  have inv := mm_inv mf mg
  have la := mf.lt a
  have lx := mf.lt x
  have la' := mg.lt (a - N)
  have lx' := mg.lt (x - N)
  unfold mm at *
  by_cases c : a < N <;> by_cases d : x < N
  · rw [if_pos c] at n2 ⊢
    rw [if_pos d]
    exact cf a x c d n1 n2
  · rw [if_pos c, if_neg d]
    have := la c
    have := lx' (by omega)
    unfold btw
    omega
  · rw [if_neg c, if_pos d]
    have := lx d
    have := la' (by omega)
    unfold btw
    omega
  · rw [if_neg c] at n2 ⊢
    rw [if_neg d]
    have h := cg (a - N) (x - N) (by omega) (by omega) (by omega) (by omega)
    unfold btw at h ⊢
    omega
theorem jM_good {N : Nat} : ∀ n, n ≤ N → Good (S2 N) (jm0 N n) := by
  intro n hn
  have mem : ∀ (xs : List Nat) (y : Nat), y ∈ ends (xs.map (jM N)) ↔ ∃ x ∈ xs, y = N - 1 - x ∨ y = N + x := by
    intro xs y
    induction xs with
    | nil => simp [ends]
    | cons x xs ih => simp [ends, jM] at ih ⊢; rw [ih]; grind
  have nd : ∀ xs : List Nat, (∀ x ∈ xs, x < N) → xs.Nodup → (ends (xs.map (jM N))).Nodup := by
    intro xs
    induction xs with
    | nil => intro _ _; simp [ends]
    | cons x xs ih =>
      intro q nd
      have qx := q x List.mem_cons_self
      rw [List.nodup_cons] at nd
      show ((N - 1 - x) :: (N + x) :: ends (xs.map (jM N))).Nodup
      rw [List.nodup_cons, List.nodup_cons, List.mem_cons, mem, mem]
      refine ⟨?_, ?_, ih (fun y hy => q y (List.mem_cons_of_mem _ hy)) nd.2⟩
      · rintro (h | ⟨y, hy, h | h⟩)
        · omega
        · have := q y (List.mem_cons_of_mem _ hy)
          have : x = y := by omega
          exact nd.1 (this ▸ hy)
        · omega
      · rintro ⟨y, hy, h | h⟩
        · omega
        · have : x = y := by omega
          exact nd.1 (this ▸ hy)
  refine ⟨nd _ (fun x hx => by have := List.mem_range.mp hx; omega) List.nodup_range, fun y hy => ?_⟩
  obtain ⟨x, hx, h⟩ := (mem _ y).mp hy
  have := List.mem_range.mp hx
  unfold S2
  omega
theorem jm_ends {N n : Nat} (hn : n ≤ N) (y : Nat) : y ∈ ends (jm0 N n) ↔ N - n ≤ y ∧ y < N + n ∧ 0 < n := by
  have mem : ∀ (xs : List Nat) (y : Nat), y ∈ ends (xs.map (jM N)) ↔ ∃ x ∈ xs, y = N - 1 - x ∨ y = N + x := by
    intro xs y
    induction xs with
    | nil => simp [ends]
    | cons x xs ih => simp [ends, jM] at ih ⊢; rw [ih]; grind
  unfold jm0
  rw [mem]
  constructor
  · rintro ⟨x, hx, h⟩
    have := List.mem_range.mp hx
    omega
  · rintro ⟨h1, h2, h3⟩
    by_cases c : y < N
    · exact ⟨N - 1 - y, List.mem_range.mpr (by omega), .inl (by omega)⟩
    · exact ⟨y - N, List.mem_range.mpr (by omega), .inr (by omega)⟩
theorem jm_succ (N n : Nat) : jm0 N (n + 1) = jm0 N n ++ [jM N n] := by
  unfold jm0
  rw [List.range_succ, List.map_append]
  rfl
/-- joined from the middle on, no arches come to cross -/
theorem NC_run {m : Nat → Nat} {N : Nat} (i : Inv (S2 N) m) (c : NC (S2 N) m) : ∀ n, n ≤ N → NC (subs (S2 N) (jm0 N n)) (run m (jm0 N n)).1
  | 0, _ => fun a x ha hx => c a x ha.1 hx.1
  | n + 1, h => by
    have ih := NC_run i c n (by omega)
    have g := jM_good n (show n ≤ N by omega)
    have inv := run_inv i g
    have en := jm_ends (show n ≤ N by omega)
    have sp : subs (S2 N) (jm0 N n) (N - 1 - n) := ⟨by unfold S2; omega, by rw [en]; omega⟩
    have sq : subs (S2 N) (jm0 N n) (N + n) := ⟨by unfold S2; omega, by rw [en]; omega⟩
    have := NC_con inv ih sp sq (by omega) (fun z hz h1 h2 => by
      have := hz.2
      rw [en] at this
      have := hz.1
      unfold S2 at this
      omega)
    rw [jm_succ]
    rw [(run_app m (jm0 N n) [jM N n]).1]
    intro a x ha hx
    have cv : ∀ z, subs (S2 N) (jm0 N n ++ [jM N n]) z → sub (subs (S2 N) (jm0 N n)) (N - 1 - n) (N + n) z := fun z ⟨z1, z2⟩ => by
      rw [ends_app, List.mem_append, not_or] at z2
      have z3 := z2.2
      simp only [jM, ends, List.mem_cons, List.not_mem_nil, or_false, not_or] at z3
      exact ⟨⟨z1, z2.1⟩, z3.1, z3.2⟩
    exact this a x (cv a ha) (cv x hx)
/-- the product of two rows of n arches: a row, and how many loops -/
theorem prd_ex {f g : Fo} {n : Nat} (hf : sz f = 2 * n) (hg : sz g = 2 * n) : ∃ h, sz h = 2 * n ∧ ∀ x, x < 2 * n → oo (2 * n) n (mt h x) = (run (mm (mt f) (mt g) (2 * n)) (jm0 (2 * n) n)).1 (oo (2 * n) n x) := by
  have mf := Dw.mt_Mt f
  have mg := Dw.mt_Mt g
  have c := NC_mm (f := f) (g := g) (by omega)
  rw [hf] at mf c
  rw [hg] at mg
  have i := mm_inv mf mg
  have nc := NC_run i c n (by omega)
  have inv := run_inv i (jM_good n (show n ≤ 2 * n by omega))
  have en := jm_ends (show n ≤ 2 * n by omega)
  generalize (run (mm (mt f) (mt g) (2 * n)) (jm0 (2 * n) n)).1 = r at *
  let back : Nat → Nat := fun y => if y < n then y else y - 2 * n
  have so : ∀ x, x < 2 * n → subs (S2 (2 * n)) (jm0 (2 * n) n) (oo (2 * n) n x) := fun x hx => by
    refine ⟨?_, ?_⟩
    · unfold S2 oo
      split <;> omega
    · rw [en]
      unfold oo
      split <;> omega
  have sb : ∀ y, subs (S2 (2 * n)) (jm0 (2 * n) n) y → back y < 2 * n ∧ oo (2 * n) n (back y) = y := fun y ⟨h1, h2⟩ => by
    rw [en] at h2
    unfold S2 at h1
    simp only [back, oo]
    split <;> (try split) <;> omega
  have bo : ∀ x, x < 2 * n → back (oo (2 * n) n x) = x := fun x hx => by
    simp only [back, oo]
    split <;> (try split) <;> omega
  have om : ∀ x y, x < 2 * n → y < 2 * n → (oo (2 * n) n x < oo (2 * n) n y ↔ x < y) := fun x y hx hy => by
    unfold oo
    split <;> split <;> omega
  have oi : ∀ x y, x < 2 * n → y < 2 * n → oo (2 * n) n x = oo (2 * n) n y → x = y := fun x y hx hy h => by
    have := congrArg back h
    rwa [bo x hx, bo y hy] at this
  obtain ⟨h, s, e⟩ := fo_ex (m := fun x => back (r (oo (2 * n) n x))) (N := 2 * n) ⟨fun x hx => (sb _ (inv.mem _ (so x hx))).1, fun x hx => by
      have q := sb _ (inv.mem _ (so x hx))
      simp only [q.2, inv.inv _ (so x hx), bo x hx], fun x hx w => by
      have q := sb _ (inv.mem _ (so x hx))
      have w : back (r (oo (2 * n) n x)) = x := w
      have := q.2
      rw [w] at this
      exact inv.ne _ (so x hx) this.symm⟩ (by
    intro a x ha hx n1 n2
    have qa := sb _ (inv.mem _ (so a ha))
    have qx := sb _ (inv.mem _ (so x hx))
    have t := nc (oo (2 * n) n a) (oo (2 * n) n x) (so a ha) (so x hx) (fun w => n1 (oi x a hx ha w)) (fun w => n2 (by
      show x = back (r (oo (2 * n) n a))
      rw [← w, bo x hx]))
    show btw a (back (r (oo (2 * n) n a))) x ↔ btw a (back (r (oo (2 * n) n a))) (back (r (oo (2 * n) n x)))
    have tr : ∀ a b x, a < 2 * n → b < 2 * n → x < 2 * n → (btw (oo (2 * n) n a) (oo (2 * n) n b) (oo (2 * n) n x) ↔ btw a b x) := fun a b x ha hb hx => by
      unfold btw
      rw [om a x ha hx, om x b hx hb, om b x hb hx, om x a hx ha]
    rw [← tr _ _ _ ha qa.1 hx, ← tr _ _ _ ha qa.1 qx.1, qa.2, qx.2]
    exact t)
  refine ⟨h, s, fun x hx => ?_⟩
  rw [e x hx]
  exact (sb _ (inv.mem _ (so x hx))).2
end Cn

set_option Elab.async false
set_option linter.all false
set_option maxRecDepth 100000
set_option maxHeartbeats 4000000
set_option autoImplicit false
namespace Cn
open Dw (Mt it2 fts walk srtN rgo rds mt Clo Fo sz M ns mir)
theorem mt_mir {f : Fo} {x : Nat} (h : x < sz f) : mt (mir f) x = sz f - 1 - mt f (sz f - 1 - x) := by
  have l := Dw.M_len f 0
  unfold Dw.mt
  rw [Dw.M_mir, List.getElem?_map, List.getElem?_reverse (by omega), l]
  rw [List.getElem?_eq_getElem (by omega)]
  simp only [Option.map_some, Option.getD_some]
  omega
/-- joins to a row below, two feet of one arch at a time -/
def two (N : Nat) (l : Nat → Nat) (xs : List Nat) : List (Nat × Nat) := xs.flatMap fun x => [(x, N + x), (l x, N + l x)]
def one (l : Nat → Nat) (xs : List Nat) : List (Nat × Nat) := xs.map fun x => (x, l x)
end Cn

set_option Elab.async false
set_option linter.all false
set_option maxRecDepth 100000
set_option maxHeartbeats 4000000
set_option autoImplicit false
namespace Cn
open Dw (Mt it2 fts walk srtN rgo rds mt Clo Fo sz M ns mir)
/-- how many rounds closing makes -/
def cl (n : Nat) (h : Fo) : Nat := (run (mt h) (one (fun x => 2 * n - 1 - x) (List.range n))).2
end Cn

set_option Elab.async false
set_option linter.all false
set_option maxRecDepth 100000
set_option maxHeartbeats 4000000
set_option autoImplicit false
namespace Cn
open Dw (Mt it2 fts walk srtN rgo rds mt Clo Fo sz M ns mir)
/-! ### products -/
/-- h is the product of f and g, k its closed rounds -/
structure PR (n : Nat) (f g h : Fo) (k : Nat) : Prop where
  hf : sz f = 2 * n
  hg : sz g = 2 * n
  hh : sz h = 2 * n
  at' : ∀ x, x < 2 * n → oo (2 * n) n (mt h x) = (run (mm (mt f) (mt g) (2 * n)) (jm0 (2 * n) n)).1 (oo (2 * n) n x)
  lo : (run (mm (mt f) (mt g) (2 * n)) (jm0 (2 * n) n)).2 = k
theorem PR.ex {n : Nat} {f g : Fo} (hf : sz f = 2 * n) (hg : sz g = 2 * n) : ∃ h k, PR n f g h k := by
  obtain ⟨h, a, b⟩ := prd_ex hf hg
  exact ⟨h, _, hf, hg, a, b, rfl⟩
/-- the flip of a product -/
theorem PR.flip {n : Nat} {f g h : Fo} {k : Nat} (a : PR n f g h k) : PR n (mir g) (mir f) (mir h) k := by
  have mf := Dw.mt_Mt f
  have mg := Dw.mt_Mt g
  have mh := Dw.mt_Mt h
  rw [a.hf] at mf
  rw [a.hg] at mg
  rw [a.hh] at mh
  have inv := mm_inv mf mg
  have gd := jM_good (N := 2 * n) n (by omega)
  have cf : ∀ x, x < 2 * n → mt (mir f) (2 * n - 1 - x) = 2 * n - 1 - mt f x := fun x hx => by
    have := mt_mir (f := f) (x := 2 * n - 1 - x) (by rw [a.hf]; omega)
    rw [a.hf] at this
    rw [this]
    congr 2
    omega
  have cg : ∀ x, x < 2 * n → mt (mir g) (2 * n - 1 - x) = 2 * n - 1 - mt g x := fun x hx => by
    have := mt_mir (f := g) (x := 2 * n - 1 - x) (by rw [a.hg]; omega)
    rw [a.hg] at this
    rw [this]
    congr 2
    omega
  have r := run_rel (σ := fun z => 2 * (2 * n) - 1 - z) (m' := mm (mt (mir g)) (mt (mir f)) (2 * n)) inv gd (fun x y hx hy h => by
    unfold S2 at hx hy
    try simp only at h
    omega) (fun x hx => by
    unfold S2 at hx
    have lf := mf.lt x
    have lg := mg.lt (x - 2 * n)
    unfold mm
    try simp only
    by_cases c : x < 2 * n
    · have := lf c
      rw [if_neg (by omega), if_pos c, show 2 * (2 * n) - 1 - x - 2 * n = 2 * n - 1 - x by omega, cf x c]
      omega
    · have := lg (by omega)
      rw [if_pos (by omega), if_neg c, show 2 * (2 * n) - 1 - x = 2 * n - 1 - (x - 2 * n) by omega, cg _ (by omega)]
      omega)
  have e : jm (fun z => 2 * (2 * n) - 1 - z) (jm0 (2 * n) n) = (jm0 (2 * n) n).map fl := by
    unfold jm jm0
    rw [List.map_map, List.map_map]
    refine List.map_congr_left fun i hi => ?_
    have := List.mem_range.mp hi
    simp only [jM, fl, Function.comp, Prod.mk.injEq]
    omega
  have mG := Dw.mt_Mt (mir g)
  have mF := Dw.mt_Mt (mir f)
  rw [Dw.sz_mir, a.hg] at mG
  rw [Dw.sz_mir, a.hf] at mF
  rw [e, run_fl (mm_inv mG mF) gd] at r
  refine ⟨by rw [Dw.sz_mir, a.hg], by rw [Dw.sz_mir, a.hf], by rw [Dw.sz_mir, a.hh], fun x hx => ?_, by rw [r.2, a.lo]⟩
  have en := jm_ends (N := 2 * n) (n := n) (by omega)
  have lx := mh.lt (2 * n - 1 - x) (by omega)
  have eh := mt_mir (f := h) (x := x) (by rw [a.hh]; exact hx)
  rw [a.hh] at eh
  have ox : oo (2 * n) n x = 2 * (2 * n) - 1 - oo (2 * n) n (2 * n - 1 - x) := by
    unfold oo
    split <;> split <;> omega
  have om : oo (2 * n) n (mt (mir h) x) = 2 * (2 * n) - 1 - oo (2 * n) n (mt h (2 * n - 1 - x)) := by
    rw [eh]
    unfold oo
    split <;> split <;> omega
  have t := r.1 (oo (2 * n) n (2 * n - 1 - x)) ⟨by unfold S2 oo; split <;> omega, by rw [en]; unfold oo; split <;> omega⟩
  rw [om, a.at' _ (by omega), ox]
  exact t.symm
end Cn

set_option Elab.async false
set_option linter.all false
set_option maxRecDepth 100000
set_option maxHeartbeats 4000000
set_option autoImplicit false
namespace Cn
open Dw (Mt it2 fts walk srtN rgo rds mt Clo Fo sz M ns mir)
/-- what no join touches stays -/
theorem run_out {S : Nat → Prop} {m : Nat → Nat} {js : List (Nat × Nat)} (i : Inv S m) (g : Good S js) {x : Nat} (hx : S x) (h1 : x ∉ ends js) (h2 : m x ∉ ends js) : (run m js).1 x = m x := by
  induction js generalizing S m with
  | nil => rfl
  | cons j js ih =>
    obtain ⟨p, q⟩ := j
    obtain ⟨a1, a2, a3, g⟩ := Good.cons.mp g
    simp only [ends, List.mem_cons, not_or] at h1 h2
    have e : con m p q x = m x := by unfold con; rw [if_neg h2.1, if_neg h2.2.1]
    have := ih (con_inv i a1 a2 a3) g ⟨hx, h1.1, h1.2.1⟩ h1.2.2 (by rw [e]; exact h2.2.2)
    show (run (con m p q) js).1 x = m x
    rw [this, e]
/-- an arch of the upper row between two tops is one of the product -/
theorem PR.top {n : Nat} {f g h : Fo} {k : Nat} (a : PR n f g h k) {x : Nat} (hx : x < n) (e : mt f x < n) : mt h x = mt f x := by
  have mf := Dw.mt_Mt f
  have mg := Dw.mt_Mt g
  have mh := Dw.mt_Mt h
  rw [a.hf] at mf
  rw [a.hg] at mg
  rw [a.hh] at mh
  have inv := mm_inv mf mg
  have gd := jM_good (N := 2 * n) n (by omega)
  have en := jm_ends (N := 2 * n) (n := n) (by omega)
  have ex : mm (mt f) (mt g) (2 * n) x = mt f x := if_pos (by omega)
  have := a.at' x (by omega)
  rw [show oo (2 * n) n x = x from if_pos hx, run_out inv gd (by unfold S2; omega) (by rw [en]; omega) (by rw [ex, en]; omega), ex] at this
  have l := mh.lt x (by omega)
  unfold oo at this
  split at this <;> omega
/-- strands: tops that lead to bottoms -/
def str (n : Nat) (f : Fo) : Nat := ((List.range n).filter fun x => decide (n ≤ mt f x)).length
end Cn

set_option Elab.async false
set_option linter.all false
set_option maxRecDepth 100000
set_option maxHeartbeats 4000000
set_option autoImplicit false
namespace Cn
open Dw (Mt it2 fts walk srtN rgo rds mt Clo Fo sz M ns mir)
/-! ### three tangles -/
def m3 (u v w : Nat → Nat) (N x : Nat) : Nat := if x < N then u x else if x < 2 * N then N + v (x - N) else 2 * N + w (x - 2 * N)
section
variable {n : Nat} {a b c : Fo}
end
end Cn

set_option Elab.async false
set_option linter.all false
set_option maxRecDepth 100000
set_option maxHeartbeats 4000000
set_option autoImplicit false
namespace Cn
open Dw (Mt it2 fts walk srtN rgo rds mt Clo Fo sz M ns mir tu aP thr)
end Cn

set_option Elab.async false
set_option linter.all false
set_option maxRecDepth 100000
set_option maxHeartbeats 4000000
set_option autoImplicit false
/-! joins that lead out close no loop -/
namespace Cn
/-- from y on, mates and joins lead to a foot without a join -/
inductive Rc (m : Nat → Nat) (js : List (Nat × Nat)) : Nat → Prop
  | out {y : Nat} : m y ∉ ends js → Rc m js y
  | go {y q : Nat} : (m y, q) ∈ js ∨ (q, m y) ∈ js → Rc m js q → Rc m js y
end Cn

set_option Elab.async false
set_option linter.all false
set_option maxRecDepth 100000
set_option maxHeartbeats 4000000
set_option autoImplicit false
/-! going along from an outer foot -/
namespace Cn
def pt (m : Nat → Nat) (n z : Nat) : Nat → Nat
  | 0 => m z
  | t + 1 => m (4 * n - 1 - pt m n z t)
/-- the number of the join of a foot in the middle -/
def ix (n y : Nat) : Nat := if y < 2 * n then 2 * n - 1 - y else y - 2 * n
section
variable {m : Nat → Nat} {n : Nat} (i : Inv (S2 (2 * n)) m)
include i
/-- the joins gone along, in their order -/
def pj (m : Nat → Nat) (n z : Nat) : Nat → Nat → List (Nat × Nat)
  | _, 0 => []
  | t, k + 1 => (pt m n z t, 4 * n - 1 - pt m n z t) :: pj m n z (t + 1) k
end
end Cn

set_option Elab.async false
set_option linter.all false
set_option maxRecDepth 100000
set_option maxHeartbeats 4000000
set_option autoImplicit false
namespace Cn
open Dw (Mt it2 fts walk srtN rgo rds mt Clo Fo sz M ns mir)
section
variable {m : Nat → Nat} {n : Nat} (i : Inv (S2 (2 * n)) m) (n0 : 0 < n)
include i n0
end
end Cn

set_option Elab.async false
set_option linter.all false
set_option maxRecDepth 100000
set_option maxHeartbeats 4000000
set_option autoImplicit false
/-! the closed rounds of a product are the rounds of the lower row and the upper one's flip that no path meets -/
namespace Cn
open Dw (Mt it2 fts walk srtN rgo rds mt Clo Fo sz M ns mir)
end Cn

set_option Elab.async false
set_option linter.all false
set_option maxRecDepth 100000
set_option maxHeartbeats 4000000
set_option autoImplicit false
namespace Cn
open PySem PySem.Spec L2 Fw Pg
open PyProof.Rows hiding St
open Dw (Mt it2 fts walk srtN rgo rds mt Clo Fo sz M ns mir)
def hr (N y : Nat) : Nat := if y < N then y else y - N
end Cn

set_option Elab.async false
set_option linter.all false
set_option maxRecDepth 100000
set_option maxHeartbeats 8000000
set_option autoImplicit false
namespace Cn
open PySem PySem.Spec L2 Fw Pg
open PyProof.Rows hiding St
open Dw (Mt it2 fts walk srtN rgo rds mt Clo Fo sz M ns mir)
end Cn

set_option Elab.async false
set_option linter.all false
set_option maxRecDepth 100000
set_option maxHeartbeats 4000000
set_option autoImplicit false
namespace Cn
open PySem PySem.Spec L2 Fw Pg
open PyProof.Rows hiding St
open Dw (Mt it2 fts walk srtN rgo rds mt Clo Fo sz M ns mir)
theorem sg_at : ∀ (ms : List Nat) (p i : Nat), (Dw.sg p ms)[i]? = (ms[i]?).map fun m => if p + i < m then 40 else 41
  | [], p, i => by simp [Dw.sg]
  | m :: ms, p, 0 => by simp [Dw.sg]
  | m :: ms, p, i + 1 => by
    rw [Dw.sg, List.getElem?_cons_succ, List.getElem?_cons_succ, sg_at ms (p + 1) i, show p + 1 + i = p + (i + 1) by omega]
theorem sg_len : ∀ (ms : List Nat) (p : Nat), (Dw.sg p ms).length = ms.length
  | [], p => rfl
  | m :: ms, p => by simp [Dw.sg, sg_len ms]
end Cn

set_option Elab.async false
set_option linter.all false
set_option maxRecDepth 100000
set_option maxHeartbeats 2000000
set_option autoImplicit false
namespace Sp
open PySem PySem.Spec L2 Fw Pg
open PyProof.Rows hiding St
def b_places_of : Ss :=
  (seq (sSet 1 (s2 kMul (sLst (sCons (sK (.int 0)) sNil)) (sBlt kLen (sCons (sVar 0) sNil))))
  (seq (sFor (sEnuX (sCons (sVar 0) sNil)) (gTp 2 (gsCons (gNm 2) (gsCons (gNm 3) gsNil)))
  (sAsg (sVar 2) (gSb (sVar 1) (sVar 3))))
  (sRet (sVar 1))))
abbrev R_places_of : Fn := runB 4 b_places_of
def G_places_of : Fn := pureF R_places_of
def b_ends_of : Ss :=
  (sRet (sTup (sCons (sBlt kMin (sCons (s2 kIx (sVar 0) (sVar 1)) (sCons (s2 kIx (sVar 0) (s2 kAdd (sVar 1) (sK (.int 1)))) sNil))) (sCons (sBlt kMax (sCons (s2 kIx (sVar 0) (sVar 1)) (sCons (s2 kIx (sVar 0) (s2 kAdd (sVar 1) (sK (.int 1)))) sNil))) sNil))))
abbrev R_ends_of : Fn := runB 2 b_ends_of
@[irreducible] def G_ends_of : Fn := R_ends_of
def b_is_meeting : Ss :=
  (seq (sIf (sBl (s2 kEq (s2 kMod (s2 kSub (sVar 1) (sVar 2)) (sK (.int 2))) (sK (.int 1))))
  (sRet (sK (.bl false)))
  skip)
  (sRet (sCall G_is_crossing 2 [0, 1] (sCons (sCall G_ends_of 2 [0, 1] (sCons (sVar 0) (sCons (sVar 1) sNil))) (sCons (sCall G_ends_of 2 [0, 1] (sCons (sVar 0) (sCons (sVar 2) sNil))) sNil)))))
abbrev R_is_meeting : Fn := runB 3 b_is_meeting
@[irreducible] def G_is_meeting : Fn := R_is_meeting
def b__side : Ss :=
  (seq (sSet 2 (sCall G_places_of 1 [0] (sCons (sVar 0) sNil)))
  (seq (sSet 3 (s2 kMul (sLst (sCons (sK (.str [46])) sNil)) (sBlt kLen (sCons (sVar 0) sNil))))
  (seq (sFor (sRg3 (sCons (sVar 1) (sCons (s2 kSub (sBlt kLen (sCons (sVar 0) sNil)) (sK (.int 1))) (sCons (sK (.int 2)) sNil)))) (gNm 4)
  (seq (sAsg (sCall G_ends_of 2 [0, 1] (sCons (sVar 2) (sCons (sVar 4) sNil))) (gTp 2 (gsCons (gNm 5) (gsCons (gNm 6) gsNil))))
  (seq (sAsg (sK (.str [40])) (gSb (sVar 3) (sVar 5)))
  (sAsg (sK (.str [41])) (gSb (sVar 3) (sVar 6))))))
  (sRet (sMth "str" kJoin (sK (.str [])) (sCons (sVar 3) sNil))))))
abbrev R__side : Fn := runB 7 b__side
def G__side : Fn := pureF R__side
def b_crossing : Ss :=
  (seq (sDrop (sCall G_need_layers 1 [0] (sCons (sVar 0) sNil)))
  (seq (sSet 1 (sCall G_places_of 1 [0] (sCons (sVar 0) sNil)))
  (seq (sFor (sRg1 (sCons (s2 kSub (sBlt kLen (sCons (sVar 0) sNil)) (sK (.int 1))) sNil)) (gNm 2)
  (sFor (sRg2 (sCons (s2 kAdd (sVar 2) (sK (.int 1))) (sCons (s2 kSub (sBlt kLen (sCons (sVar 0) sNil)) (sK (.int 1))) sNil))) (gNm 3)
  (sIf (sTru (sCall G_is_meeting 3 [0, 1, 2] (sCons (sVar 1) (sCons (sVar 2) (sCons (sVar 3) sNil)))))
  (sRet (sTup (sCons (sVar 2) (sCons (sVar 3) sNil))))
  skip)))
  (sRet (sK .non)))))
abbrev R_crossing : Fn := runB 4 b_crossing
def G_crossing : Fn := pureF R_crossing
def b_is_folding : Ss :=
  (sRet (s2 (kIs false) (sCall G_crossing 1 [0] (sCons (sVar 0) sNil)) (sK .non)))
abbrev R_is_folding : Fn := runB 1 b_is_folding
def G_is_folding : Fn := pureF R_is_folding
def b__need_folding : Ss :=
  (sIf (sNot (sTru (sCall G_is_folding 1 [0] (sCons (sVar 0) sNil))))
  never
  skip)
abbrev R__need_folding : Fn := runB 1 b__need_folding
def G__need_folding : Fn := pureF R__need_folding
def b_sides : Ss :=
  (seq (sDrop (sCall G__need_folding 1 [0] (sCons (sVar 0) sNil)))
  (sRet (sTup (sCons (sCall G__side 2 [0, 1] (sCons (sVar 0) (sCons (sK (.int 0)) sNil))) (sCons (sCall G__side 2 [0, 1] (sCons (sVar 0) (sCons (sK (.int 1)) sNil))) sNil)))))
abbrev R_sides : Fn := runB 1 b_sides
def G_sides : Fn := pureF R_sides
end Sp

set_option Elab.async false
set_option linter.all false
set_option maxRecDepth 100000
set_option maxHeartbeats 4000000
set_option autoImplicit false
namespace Fw
open PySem PySem.Spec L2
open PyProof.Rows hiding St
def rgk3 : List Va → Hs → Rs (Src × Nat) := fun xs h => match xs with
  | [.int i, .int j, .int c] => if (c ≠ 0 ∧ c.natAbs < 1073741824) ∧ Builtin.Range.small i j c = true ∧ 0 ≤ Builtin.Range.rangeSize i j c then .ok (srcC i c (Builtin.Range.rangeSize i j c).toNat, (Builtin.Range.rangeSize i j c).toNat) h else .bad
  | _ => .bad
theorem sRg3_k (f : Sm (List Va)) (e : En) (h : Hs) : sRg3 f e h = fwd (f e h) fun xs h' => rgk3 xs h' := by
  unfold sRg3
  rw [bnd_ap]
  congr 1
end Fw

set_option Elab.async false
set_option linter.all false
set_option maxRecDepth 100000
set_option maxHeartbeats 4000000
set_option autoImplicit false
namespace Fw
open PySem PySem.Spec L2
open PyProof.Rows hiding St
def enk : List Va → Hs → Rs (Src × Nat) := fun xs h => match xs with
  | [x] => match enU x h with
    | some s => .ok s h
    | none => .bad
  | _ => .bad
theorem enuX_ap (f : Sm (List Va)) (e : En) (h : Hs) : sEnuX f e h = fwd (f e h) fun xs h' => enk xs h' := by
  unfold sEnuX
  rw [bnd_ap]
  rfl
theorem enk_tup {xs : List Va} {h : Hs} : enk [.tup xs] h = .ok (srcEV xs, xs.length) h := (rfl)
theorem typ_tup {xs : List Va} {h : Hs} : kTyp [.tup xs] h = .ok (.ty "tuple") h := (rfl)
theorem loop_ev {xs : List Va} {b : Va → Ss} {n : Nat} {e : En} {h : Hs} {L : Rt} (hL : loop (srcEV xs) b n 0 e h = L) (hn : n = xs.length) (I : Nat → En → Hs → Prop) (h0 : I 0 e h)
    (st : ∀ i x e h, xs[i]? = some x → I i e h → ∃ e' h', b (.tpw [.int (i : Nat), x]) e h = .nx e' h' ∧ I (i + 1) e' h') : ∃ e' h', L = .nx e' h' ∧ I xs.length e' h' := by
  subst hn
  exact loop_gen hL I h0 (fun i e h hi hI => by
    obtain ⟨e', h', q, c⟩ := st i xs[i] e h (List.getElem?_eq_getElem hi) hI
    exact ⟨.tpw [.int (i : Nat), xs[i]], e', h', by simp [srcEV, hi], q, c⟩) fun e h _ => by simp [srcEV]
theorem slW_to' {xs : List Va} {c : Nat} {h : Hs} (l : c ≤ xs.length) : kSlW (.tup xs) none (some (c : Int)) h = .ok (.tup (xs.take c)) h := by
  have e : cutA xs none (some (c : Int)) = xs.take c := Pg.cut_ns xs l
  have e2 : HT.sIx xs.length xs.length (some (c : Int)) = c := sIx_nat l
  simp only [kSlW, e, e2]
  split
  · rename_i w
    rw [w.2, List.take_length]
  · rfl
theorem slW_fr' {xs : List Va} {c : Nat} {h : Hs} (l : c ≤ xs.length) : kSlW (.tup xs) (some (c : Int)) none h = .ok (.tup (xs.drop c)) h := by
  have e : cutA xs (some (c : Int)) none = xs.drop c := cut_sn xs l
  have e2 : HT.sIx xs.length 0 (some (c : Int)) = c := sIx_nat l
  simp only [kSlW, e, e2]
  split
  · rename_i w
    rw [w.1, List.drop_zero]
  · rfl
end Fw

set_option Elab.async false
set_option linter.all false
set_option maxRecDepth 100000
set_option maxHeartbeats 4000000
set_option autoImplicit false
namespace Dw
variable {N : Nat}
theorem nodup_all {xs : List Nat} (nd : xs.Nodup) (lt : ∀ x ∈ xs, x < N) : xs.length = N ↔ ∀ x, x < N → x ∈ xs := by
  constructor
  · intro e x hx
    refine Classical.byContradiction fun w => ?_
    have := nodup_le N (x :: xs) (List.nodup_cons.mpr ⟨w, nd⟩) (fun y hy => by
      rcases List.mem_cons.mp hy with rfl | hy
      · exact hx
      · exact lt y hy)
    rw [List.length_cons] at this
    omega
  · intro h
    have a := nodup_le N xs nd lt
    have b := (List.nodup_range (n := N)).length_le_of_subset (l₂ := xs) (fun x hx => h x (List.mem_range.mp hx))
    rw [List.length_range] at b
    omega
end Dw
namespace Fw
open PySem PySem.Spec L2
open PyProof.Rows hiding St
end Fw

set_option Elab.async false
set_option linter.all false
set_option maxRecDepth 100000
set_option maxHeartbeats 4000000
set_option autoImplicit false
namespace Fd
/-! ### piles -/
structure PP (n : Nat) (q : List Nat) : Prop where
  len : q.length = n
  nd : q.Nodup
  lt : ∀ x ∈ q, x < n
def pos (q : List Nat) (x : Nat) : Nat := q.idxOf x
def plc (n : Nat) (q : List Nat) : List Nat := (List.range n).map (pos q)
variable {n : Nat} {q : List Nat}
theorem PP.mem (p : PP n q) {x : Nat} (h : x < n) : x ∈ q := (Dw.nodup_all p.nd p.lt).mp p.len x h
theorem PP.pos_lt (p : PP n q) {x : Nat} (h : x < n) : pos q x < n := by
  rw [← p.len]
  exact List.idxOf_lt_length_of_mem (p.mem h)
theorem PP.at_pos (p : PP n q) {x : Nat} (h : x < n) : q[pos q x]? = some x := by
  have l := p.pos_lt h
  rw [List.getElem?_eq_getElem (by rw [p.len]; exact l)]
  exact congrArg some (List.getElem_idxOf (by rw [p.len]; exact l))
theorem PP.pos_at (p : PP n q) {k x : Nat} (h : q[k]? = some x) : pos q x = k := by
  have kl := (List.getElem?_eq_some_iff.mp h).1
  have xn := p.lt x (List.mem_of_getElem? h)
  have e := p.at_pos xn
  have l := p.pos_lt xn
  obtain ⟨l1, e1⟩ := List.getElem?_eq_some_iff.mp e
  obtain ⟨l2, e2⟩ := List.getElem?_eq_some_iff.mp h
  have pw := List.pairwise_iff_getElem.mp p.nd
  rcases Nat.lt_trichotomy (pos q x) k with c | c | c
  · exact absurd (e1.trans e2.symm) (pw _ _ l1 l2 c)
  · exact c
  · exact absurd (e2.trans e1.symm) (pw _ _ l2 l1 c)
theorem PP.inj (p : PP n q) {x y : Nat} (hx : x < n) (hy : y < n) (e : pos q x = pos q y) : x = y := by
  have a := p.at_pos hx
  have b := p.at_pos hy
  rw [e, b] at a
  exact (Option.some.inj a).symm
/-- two creases cross -/
def cr (q : List Nat) (c d : Nat) : Bool :=
  let a := min (pos q c) (pos q (c + 1))
  let b := max (pos q c) (pos q (c + 1))
  let e := min (pos q d) (pos q (d + 1))
  let f := max (pos q d) (pos q (d + 1))
  (decide (a < e) && (decide (e < b) && decide (b < f))) || (decide (e < a) && (decide (a < f) && decide (f < b)))
/-- two creases on one side cross -/
def mtg (q : List Nat) (c d : Nat) : Bool := decide ((d - c) % 2 = 0) && cr q c d
/-- the first two creases that cross -/
def fb (n : Nat) (q : List Nat) : Option (Nat × Nat) := (List.range (n - 1)).findSome? fun c => (List.range (n - 1 - (c + 1))).findSome? fun j => if mtg q c (c + 1 + j) = true then some (c, c + 1 + j) else none
end Fd
namespace Fw
open PySem PySem.Spec L2
open PyProof.Rows hiding St
theorem ch3_ap (k k' k'' : Va → Va → Hs → Rs Va) (a b c d : Sx) (e : En) (h : Hs) : sCh3 k k' k'' a b c d e h = fwd (a e h) fun x h1 => fwd (b e h1) fun y h2 => fwd (k x y h2) fun z h3 => byB (asB z) (bnd c fun w => bnd (vl (k' y w)) fun z2 => byB (asB z2) (bnd d fun u => vl (k'' w u)) (sK (.bl false))) (sK (.bl false)) e h3 := (rfl)
theorem ch3_ok {a b c d : Sx} {e : En} {h : Hs} {w x y z : Nat} (ha : ∀ h, a e h = .ok (.int (w : Nat)) h) (hb : ∀ h, b e h = .ok (.int (x : Nat)) h) (hc : ∀ h, c e h = .ok (.int (y : Nat)) h) (hd : ∀ h, d e h = .ok (.int (z : Nat)) h) : sCh3 kLt kLt kLt a b c d e h = .ok (.bl (decide (w < x) && (decide (x < y) && decide (y < z)))) h := by
  rw [ch3_ap, ha, fwd_ok, hb, fwd_ok, lt_ok, fwd_ok, asB_bl]
  by_cases p : w < x
  · rw [decide_eq_true p, byB_t, bnd_ap, hc, fwd_ok, bnd_ap, vl_ap, lt_ok, fwd_ok, asB_bl]
    by_cases q : x < y
    · rw [decide_eq_true q, byB_t, bnd_ap, hd, fwd_ok, vl_ap, lt_ok]
      simp
    · rw [decide_eq_false q, byB_f, sK_ap]
      simp
  · rw [decide_eq_false p, byB_f, sK_ap]
    simp
end Fw
namespace Sp
open PySem PySem.Spec L2 Fw Pg Fd
open PyProof.Rows hiding St
theorem lf_tN (xs : List Nat) : lfL [.tup (xs.map vN)] = true := by
  simp only [lfL, lf, lfL_map (g := vN) (fun _ => rfl) xs]
  rfl
theorem places_of_ok {n : Nat} {q : List Nat} {h : Hs} (p : PP n q) (l : n ≤ 1000) : G_places_of [.tup (q.map vN)] h = .ok (.loc h.length) (h ++ [.lst ((plc n q).map vN)]) := by
  suffices hh : ∃ h' m, R_places_of [.tup (q.map vN)] [] = .ok (.loc m) h' ∧ h'[m]? = some (.lst ((plc n q).map vN)) by
    obtain ⟨h', m, e1, e2⟩ := hh
    exact pureL_of (lf_tN q) e1 e2 (lfL_map (fun _ => rfl) _)
  have ql : (q.map vN).length = n := by rw [List.length_map, p.len]
  have mu : kMul (.loc 0) (.int (n : Nat)) [Ob.lst [Va.int (0 : Nat)]] = .ok (.loc 1) [Ob.lst [Va.int (0 : Nat)], Ob.lst (List.replicate n (Va.int (0 : Nat)))] := mul_rep (n := 0) (N := n) (x := .int (0 : Nat)) rfl (by omega)
  have rp : List.replicate n (Va.int (0 : Nat)) = (List.replicate n 0).map vN := by rw [List.map_replicate]; rfl
  have n1 : newL [Va.int (0 : Nat)] [] = .ok (.loc 0) [Ob.lst [Va.int (0 : Nat)]] := new1
  rw [rp] at mu
  simp only [R_places_of, runB_ap, List.map_cons, List.map_nil, List.length_cons, List.length_nil, Nat.zero_add, Nat.reduceAdd, Nat.reduceSub, List.replicate_succ, List.replicate_zero, List.cons_append, List.nil_append]
  unfold b_places_of
  (rw [Fw.seq_ap]; conv => { pattern (Fw.thn _ _); arg 1; simp (disch := first | omega | exact rfl) only [EV0, EV1, EV2, EV3, List.set_cons_zero, List.set_cons_succ, List.length_cons, List.length_nil, List.length_map, Nat.zero_add, List.cons_append, List.nil_append, and_self, and_true, true_and, and_false, false_and, if_true, if_false, decide_true, decide_false, decide_eq_true_eq, Bool.not_true, Bool.not_false, Bool.false_eq_true, Bool.true_eq_false, Bool.not_eq_true, eq_self, not_true_eq_false, not_false_eq_true, List.cons.injEq, Nat.reduceAdd, Nat.reduceLeDiff, Nat.reduceEqDiff, Nat.reduceSub, Nat.reduceMul, ↓reduceIte, reduceCtorEq, n1, ln_tup, ql, mu] }; rw [Fw.thn_nx])
  simp only [seq_ap, sFor_ap, enuX_ap]
  simp (disch := first | omega | exact rfl) only [EV0, EV1, EV2, EV3, List.set_cons_zero, List.set_cons_succ, List.length_cons, List.length_nil, List.length_map, Nat.zero_add, List.cons_append, List.nil_append, and_self, and_true, true_and, and_false, false_and, if_true, if_false, decide_true, decide_false, decide_eq_true_eq, Bool.not_true, Bool.not_false, Bool.false_eq_true, Bool.true_eq_false, Bool.not_eq_true, eq_self, not_true_eq_false, not_false_eq_true, List.cons.injEq, Nat.reduceAdd, Nat.reduceLeDiff, Nat.reduceEqDiff, Nat.reduceSub, Nat.reduceMul, ↓reduceIte, reduceCtorEq, enk_tup, ql]
  generalize hL : loop _ _ _ _ _ _ = L
  obtain ⟨e', h', rfl, ps, z2, z3, rfl, rfl, pl, pe⟩ := loop_ev hL ql.symm (fun i en hx => ∃ (ps : List Nat) (z2 z3 : Option Va), en = [some (.tup (q.map vN)), some (.loc 1), z2, z3] ∧ hx = [Ob.lst [Va.int (0 : Nat)], Ob.lst (ps.map vN)] ∧ ps.length = n ∧ ∀ j x, j < i → q[j]? = some x → ps[x]? = some j)
    ⟨List.replicate n 0, none, none, rfl, rfl, by simp, fun j x c => absurd c (by omega)⟩ (by
    rintro i x en hx ei ⟨ps, z2, z3, rfl, rfl, pl, pe⟩
    rw [List.getElem?_map] at ei
    obtain ⟨y, ey, rfl⟩ := Option.map_eq_some_iff.mp ei
    have yn := p.lt y (List.mem_of_getElem? ey)
    have ks := ks_at (n := 1) (h := [Ob.lst [Va.int (0 : Nat)], Ob.lst (ps.map vN)]) (y := Va.int (i : Nat)) rfl (i := y) (by rw [List.length_map]; omega)
    have e1 : (ps.map vN).set y (Va.int (i : Nat)) = (ps.set y i).map vN := by rw [List.map_set]; rfl
    rw [e1] at ks
    simp only [List.set_cons_succ, List.set_cons_zero] at ks
    (apply Exists.intro; apply Exists.intro; apply And.intro; focus (simp (disch := first | omega | exact rfl) only [EV0, EV1, EV2, EV3, List.set_cons_zero, List.set_cons_succ, List.length_cons, List.length_nil, List.length_map, Nat.zero_add, List.cons_append, List.nil_append, and_self, and_true, true_and, and_false, false_and, if_true, if_false, decide_true, decide_false, decide_eq_true_eq, Bool.not_true, Bool.not_false, Bool.false_eq_true, Bool.true_eq_false, Bool.not_eq_true, eq_self, not_true_eq_false, not_false_eq_true, List.cons.injEq, Nat.reduceAdd, Nat.reduceLeDiff, Nat.reduceEqDiff, Nat.reduceSub, Nat.reduceMul, ↓reduceIte, reduceCtorEq, stp_ap, vN, gSb_ap, ks] <;> rfl))
    refine ⟨ps.set y i, _, _, rfl, rfl, by rw [List.length_set, pl], fun j x hj e => ?_⟩
    by_cases c : j = i
    · subst c
      rw [ey] at e
      cases e
      rw [List.getElem?_set_self (by omega)]
    · have xy : y ≠ x := fun w => by
        subst w
        have a := p.pos_at ey
        have b := p.pos_at e
        omega
      rw [List.getElem?_set_ne xy]
      exact pe j x (by omega) e)
  rw [thn_nx]
  rw [ql] at pe
  have eq : ps = plc n q := by
    refine List.ext_getElem? fun x => ?_
    unfold plc
    by_cases c : x < n
    · rw [List.getElem?_map, List.getElem?_range c, pe _ x (p.pos_lt c) (p.at_pos c)]
      rfl
    · rw [List.getElem?_eq_none (by omega), List.getElem?_eq_none (by simp; omega)]
  subst eq
  exact ⟨_, 1, by simp (disch := first | omega | exact rfl) only [EV0, EV1, EV2, EV3, List.set_cons_zero, List.set_cons_succ, List.length_cons, List.length_nil, List.length_map, Nat.zero_add, List.cons_append, List.nil_append, and_self, and_true, true_and, and_false, false_and, if_true, if_false, decide_true, decide_false, decide_eq_true_eq, Bool.not_true, Bool.not_false, Bool.false_eq_true, Bool.true_eq_false, Bool.not_eq_true, eq_self, not_true_eq_false, not_false_eq_true, List.cons.injEq, Nat.reduceAdd, Nat.reduceLeDiff, Nat.reduceEqDiff, Nat.reduceSub, Nat.reduceMul, ↓reduceIte, reduceCtorEq] <;> rfl, rfl⟩
theorem is_crossing_ok {a b c d : Nat} {h : Hs} : G_is_crossing [.tup [.int (a : Nat), .int (b : Nat)], .tup [.int (c : Nat), .int (d : Nat)]] h = .ok (.bl ((decide (a < c) && (decide (c < b) && decide (b < d))) || (decide (c < a) && (decide (a < d) && decide (d < b))))) h := by
  suffices hh : ∃ h', R_is_crossing [.tup [.int (a : Nat), .int (b : Nat)], .tup [.int (c : Nat), .int (d : Nat)]] [] = .ok (.bl ((decide (a < c) && (decide (c < b) && decide (b < d))) || (decide (c < a) && (decide (a < d) && decide (d < b))))) h' by
    obtain ⟨h', hh⟩ := hh
    exact pure_of rfl hh rfl
  show ∃ h', fin (b_is_crossing [some (.tup [.int (a : Nat), .int (b : Nat)]), some (.tup [.int (c : Nat), .int (d : Nat)]), none, none, none, none] []) = _
  unfold b_is_crossing
  (rw [Fw.seq_ap]; conv => { pattern (Fw.thn _ _); arg 1; simp (disch := first | omega | exact rfl) only [EV0, EV1, EV2, EV3, List.set_cons_zero, List.set_cons_succ, List.length_cons, List.length_nil, List.length_map, Nat.zero_add, List.cons_append, List.nil_append, and_self, and_true, true_and, and_false, false_and, if_true, if_false, decide_true, decide_false, decide_eq_true_eq, Bool.not_true, Bool.not_false, Bool.false_eq_true, Bool.true_eq_false, Bool.not_eq_true, eq_self, not_true_eq_false, not_false_eq_true, List.cons.injEq, Nat.reduceAdd, Nat.reduceLeDiff, Nat.reduceEqDiff, Nat.reduceSub, Nat.reduceMul, ↓reduceIte, reduceCtorEq] }; rw [Fw.thn_nx])
  (rw [Fw.seq_ap]; conv => { pattern (Fw.thn _ _); arg 1; simp (disch := first | omega | exact rfl) only [EV0, EV1, EV2, EV3, List.set_cons_zero, List.set_cons_succ, List.length_cons, List.length_nil, List.length_map, Nat.zero_add, List.cons_append, List.nil_append, and_self, and_true, true_and, and_false, false_and, if_true, if_false, decide_true, decide_false, decide_eq_true_eq, Bool.not_true, Bool.not_false, Bool.false_eq_true, Bool.true_eq_false, Bool.not_eq_true, eq_self, not_true_eq_false, not_false_eq_true, List.cons.injEq, Nat.reduceAdd, Nat.reduceLeDiff, Nat.reduceEqDiff, Nat.reduceSub, Nat.reduceMul, ↓reduceIte, reduceCtorEq] }; rw [Fw.thn_nx])
  have c1 := ch3_ok (a := sVar 2) (b := sVar 4) (c := sVar 3) (d := sVar 5) (e := [some (.tup [.int (a : Nat), .int (b : Nat)]), some (.tup [.int (c : Nat), .int (d : Nat)]), some (.int (a : Nat)), some (.int (b : Nat)), some (.int (c : Nat)), some (.int (d : Nat))]) (h := []) (fun h => rfl) (fun h => rfl) (fun h => rfl) (fun h => rfl)
  have c2 := ch3_ok (a := sVar 4) (b := sVar 2) (c := sVar 5) (d := sVar 3) (e := [some (.tup [.int (a : Nat), .int (b : Nat)]), some (.tup [.int (c : Nat), .int (d : Nat)]), some (.int (a : Nat)), some (.int (b : Nat)), some (.int (c : Nat)), some (.int (d : Nat))]) (h := []) (fun h => rfl) (fun h => rfl) (fun h => rfl) (fun h => rfl)
  refine ⟨[], ?_⟩
  cases hb : (decide (a < c) && (decide (c < b) && decide (b < d)))
  · rw [hb] at c1
    simp (disch := first | omega | exact rfl) only [EV0, EV1, EV2, EV3, List.set_cons_zero, List.set_cons_succ, List.length_cons, List.length_nil, List.length_map, Nat.zero_add, List.cons_append, List.nil_append, and_self, and_true, true_and, and_false, false_and, if_true, if_false, decide_true, decide_false, decide_eq_true_eq, Bool.not_true, Bool.not_false, Bool.false_eq_true, Bool.true_eq_false, Bool.not_eq_true, eq_self, not_true_eq_false, not_false_eq_true, List.cons.injEq, Nat.reduceAdd, Nat.reduceLeDiff, Nat.reduceEqDiff, Nat.reduceSub, Nat.reduceMul, ↓reduceIte, reduceCtorEq, c1, c2, Bool.false_or]
  · rw [hb] at c1
    simp (disch := first | omega | exact rfl) only [EV0, EV1, EV2, EV3, List.set_cons_zero, List.set_cons_succ, List.length_cons, List.length_nil, List.length_map, Nat.zero_add, List.cons_append, List.nil_append, and_self, and_true, true_and, and_false, false_and, if_true, if_false, decide_true, decide_false, decide_eq_true_eq, Bool.not_true, Bool.not_false, Bool.false_eq_true, Bool.true_eq_false, Bool.not_eq_true, eq_self, not_true_eq_false, not_false_eq_true, List.cons.injEq, Nat.reduceAdd, Nat.reduceLeDiff, Nat.reduceEqDiff, Nat.reduceSub, Nat.reduceMul, ↓reduceIte, reduceCtorEq, c1, c2, Bool.true_or]
end Sp

set_option Elab.async false
set_option linter.all false
set_option maxRecDepth 100000
set_option maxHeartbeats 4000000
set_option autoImplicit false
/-! Candidates: a line through the feet, up and down by turns. -/
namespace Rv
open Fd (PP pos)
open Cn (Inv NC btw)
open Dw (Mt it2 fts walk mt Fo sz M sg word)
def g (c : List Nat) (k : Nat) : Nat := c[k]?.getD 0
structure Cd (m : Nat) (c : List Nat) : Prop where
  pp : PP (2 * m) c
  m0 : 0 < m
  z : g c 0 = 0
def pr (a b : Nat) : Nat × Nat := (min a b, max a b)
def ed (c : List Nat) (N k : Nat) : Nat × Nat := pr (g c k) (g c ((k + 1) % N))
def hi (m : Nat) (c : List Nat) : List (Nat × Nat) := (List.range m).map fun i => ed c (2 * m) (2 * i)
def lo (m : Nat) (c : List Nat) : List (Nat × Nat) := (List.range m).map fun i => ed c (2 * m) (2 * i + 1)
def X (p q : Nat × Nat) : Bool := (decide (p.1 < q.1) && (decide (q.1 < p.2) && decide (p.2 < q.2))) || (decide (q.1 < p.1) && (decide (p.1 < q.2) && decide (q.2 < p.2)))
def NX (ps : List (Nat × Nat)) : Prop := ∀ p ∈ ps, ∀ q ∈ ps, X p q = false
def up (c : List Nat) (x : Nat) : Nat := if pos c x % 2 = 0 then g c (pos c x + 1) else g c (pos c x - 1)
def dn (m : Nat) (c : List Nat) (x : Nat) : Nat := if pos c x % 2 = 1 then g c ((pos c x + 1) % (2 * m)) else g c ((pos c x + 2 * m - 1) % (2 * m))
def tx (ps : List (Nat × Nat)) (N : Nat) : List Nat := (List.range N).map fun k => if k ∈ ps.map Prod.fst then 40 else 41
theorem X_self (p : Nat × Nat) : X p p = false := by simp [X]
theorem X_iff {p q : Nat × Nat} : X p q = true ↔ (p.1 < q.1 ∧ q.1 < p.2 ∧ p.2 < q.2) ∨ (q.1 < p.1 ∧ p.1 < q.2 ∧ q.2 < p.2) := by simp [X]
theorem X_comm (p q : Nat × Nat) : X p q = X q p := by
  unfold X
  rw [Bool.or_comm]
variable {m : Nat} {c : List Nat}
theorem Cd.at (d : Cd m c) {k : Nat} (h : k < 2 * m) : c[k]? = some (g c k) := by
  unfold g
  rw [List.getElem?_eq_getElem (by rw [d.pp.len]; exact h)]
  rfl
theorem Cd.lt (d : Cd m c) {k : Nat} (h : k < 2 * m) : g c k < 2 * m := d.pp.lt _ (List.mem_of_getElem? (d.at h))
theorem Cd.pg (d : Cd m c) {k : Nat} (h : k < 2 * m) : pos c (g c k) = k := d.pp.pos_at (d.at h)
theorem Cd.gp (d : Cd m c) {x : Nat} (h : x < 2 * m) : g c (pos c x) = x := by
  unfold g
  rw [d.pp.at_pos h]
  rfl
theorem Cd.inj (d : Cd m c) {j k : Nat} (hj : j < 2 * m) (hk : k < 2 * m) (e : g c j = g c k) : j = k := by rw [← d.pg hj, e, d.pg hk]
theorem Cd.upI (d : Cd m c) : Inv (fun x => x < 2 * m) (up c) where
  mem x h := by
    have p := d.pp.pos_lt h
    unfold up
    split
    · exact d.lt (by omega)
    · exact d.lt (by omega)
  inv x h := by
    have p := d.pp.pos_lt h
    by_cases e : pos c x % 2 = 0
    · have a : up c x = g c (pos c x + 1) := by unfold up; rw [if_pos e]
      have b := d.pg (k := pos c x + 1) (by omega)
      rw [a]
      unfold up
      rw [b, if_neg (by omega), Nat.add_sub_cancel, d.gp h]
    · have a : up c x = g c (pos c x - 1) := by unfold up; rw [if_neg e]
      have b := d.pg (k := pos c x - 1) (by omega)
      rw [a]
      unfold up
      rw [b, if_pos (by omega), show pos c x - 1 + 1 = pos c x by omega, d.gp h]
  ne x h e := by
    have p := d.pp.pos_lt h
    by_cases o : pos c x % 2 = 0
    · have a : up c x = g c (pos c x + 1) := by unfold up; rw [if_pos o]
      have b := d.pg (k := pos c x + 1) (by omega)
      rw [← a, e] at b
      omega
    · have a : up c x = g c (pos c x - 1) := by unfold up; rw [if_neg o]
      have b := d.pg (k := pos c x - 1) (by omega)
      rw [← a, e] at b
      omega
theorem mod_nx {k N : Nat} (h : k < N) : (k + 1) % N = if k + 1 = N then 0 else k + 1 := by
  split
  · rename_i e; rw [e, Nat.mod_self]
  · exact Nat.mod_eq_of_lt (by omega)
theorem mod_pv {k N : Nat} (h : k < N) : (k + N - 1) % N = if k = 0 then N - 1 else k - 1 := by
  split
  · rename_i e; subst e; rw [Nat.zero_add]; exact Nat.mod_eq_of_lt (by omega)
  · rename_i e; rw [show k + N - 1 = (k - 1) + N by omega, Nat.add_mod_right]; exact Nat.mod_eq_of_lt (by omega)
theorem dn_odd {x : Nat} (hp : pos c x < 2 * m) (o : pos c x % 2 = 1) : dn m c x = g c (if pos c x + 1 = 2 * m then 0 else pos c x + 1) := by
  unfold dn
  rw [if_pos o, mod_nx hp]
theorem dn_even {x : Nat} (hp : pos c x < 2 * m) (o : pos c x % 2 = 0) : dn m c x = g c (if pos c x = 0 then 2 * m - 1 else pos c x - 1) := by
  unfold dn
  rw [if_neg (by omega), mod_pv hp]
theorem Cd.dnI (d : Cd m c) : Inv (fun x => x < 2 * m) (dn m c) where
  mem x h := by
    have p := d.pp.pos_lt h
    have m0 := d.m0
    rcases Nat.mod_two_eq_zero_or_one (pos c x) with o | o
    · rw [dn_even p o]
      exact d.lt (by split <;> omega)
    · rw [dn_odd p o]
      exact d.lt (by split <;> omega)
  inv x h := by
    have p := d.pp.pos_lt h
    have m0 := d.m0
    rcases Nat.mod_two_eq_zero_or_one (pos c x) with o | o
    · have a := dn_even p o
      generalize hj : (if pos c x = 0 then 2 * m - 1 else pos c x - 1) = j at a
      have jl : j < 2 * m := by subst hj; split <;> omega
      have jo : j % 2 = 1 := by subst hj; split <;> omega
      have b := d.pg jl
      rw [a, dn_odd (by rw [b]; exact jl) (by rw [b]; exact jo), b]
      have : (if j + 1 = 2 * m then 0 else j + 1) = pos c x := by split at hj <;> split <;> omega
      rw [this, d.gp h]
    · have a := dn_odd p o
      generalize hj : (if pos c x + 1 = 2 * m then 0 else pos c x + 1) = j at a
      have jl : j < 2 * m := by subst hj; split <;> omega
      have jo : j % 2 = 0 := by subst hj; split <;> omega
      have b := d.pg jl
      rw [a, dn_even (by rw [b]; exact jl) (by rw [b]; exact jo), b]
      have : (if j = 0 then 2 * m - 1 else j - 1) = pos c x := by split at hj <;> split <;> omega
      rw [this, d.gp h]
  ne x h e := by
    have p := d.pp.pos_lt h
    have m0 := d.m0
    rcases Nat.mod_two_eq_zero_or_one (pos c x) with o | o
    · have a := dn_even p o
      generalize hj : (if pos c x = 0 then 2 * m - 1 else pos c x - 1) = j at a
      have jl : j < 2 * m := by subst hj; split <;> omega
      have jo : j % 2 = 1 := by subst hj; split <;> omega
      have b := d.pg jl
      rw [← a, e] at b
      omega
    · have a := dn_odd p o
      generalize hj : (if pos c x + 1 = 2 * m then 0 else pos c x + 1) = j at a
      have jl : j < 2 * m := by subst hj; split <;> omega
      have jo : j % 2 = 0 := by subst hj; split <;> omega
      have b := d.pg jl
      rw [← a, e] at b
      omega
theorem pr_comm (a b : Nat) : pr a b = pr b a := by unfold pr; rw [Nat.min_comm, Nat.max_comm]
theorem Cd.hi_of (d : Cd m c) {x : Nat} (h : x < 2 * m) : pr x (up c x) ∈ hi m c := by
  have p := d.pp.pos_lt h
  refine List.mem_map.mpr ⟨pos c x / 2, List.mem_range.mpr (by omega), ?_⟩
  rcases Nat.mod_two_eq_zero_or_one (pos c x) with o | o
  · unfold ed up
    rw [if_pos o, show 2 * (pos c x / 2) = pos c x by omega, d.gp h, Nat.mod_eq_of_lt (by omega)]
  · unfold ed up
    rw [if_neg (by omega), show 2 * (pos c x / 2) = pos c x - 1 by omega, Nat.mod_eq_of_lt (by omega), show pos c x - 1 + 1 = pos c x by omega, d.gp h, pr_comm]
theorem Cd.lo_of (d : Cd m c) {x : Nat} (h : x < 2 * m) : pr x (dn m c x) ∈ lo m c := by
  have p := d.pp.pos_lt h
  have m0 := d.m0
  rcases Nat.mod_two_eq_zero_or_one (pos c x) with o | o
  · by_cases e : pos c x = 0
    · refine List.mem_map.mpr ⟨m - 1, List.mem_range.mpr (by omega), ?_⟩
      have gx := d.gp h
      rw [dn_even p o, if_pos e]
      unfold ed
      rw [show 2 * (m - 1) + 1 = 2 * m - 1 by omega, show 2 * m - 1 + 1 = 2 * m by omega, Nat.mod_self, pr_comm]
      rw [e] at gx
      rw [gx]
    · refine List.mem_map.mpr ⟨(pos c x - 1) / 2, List.mem_range.mpr (by omega), ?_⟩
      rw [dn_even p o, if_neg e]
      unfold ed
      rw [show 2 * ((pos c x - 1) / 2) + 1 = pos c x - 1 by omega, show pos c x - 1 + 1 = pos c x by omega, Nat.mod_eq_of_lt p, d.gp h, pr_comm]
  · refine List.mem_map.mpr ⟨pos c x / 2, List.mem_range.mpr (by omega), ?_⟩
    rw [dn_odd p o]
    unfold ed
    rw [show 2 * (pos c x / 2) + 1 = pos c x by omega, mod_nx p, d.gp h]
theorem NC_of {N : Nat} {u : Nat → Nat} (i : Inv (fun x => x < N) u) {ps : List (Nat × Nat)} (nx : NX ps) (of : ∀ x, x < N → pr x (u x) ∈ ps) : NC (fun x => x < N) u := by
  intro a x ha hx n1 n2
  have e := nx _ (of a ha) _ (of x hx)
  have m1 := i.ne a ha
  have m2 := i.ne x hx
  have n3 : u x ≠ a := fun z => n2 (by rw [← z, i.inv x hx])
  have n4 : u x ≠ u a := fun z => n1 (by rw [← i.inv x hx, z, i.inv a ha])
  have e : ¬ (X (pr a (u a)) (pr x (u x)) = true) := by rw [e]; decide
  rw [X_iff] at e
  simp only [pr] at e
  unfold btw
  omega
/-- the word tells the lows of the pairs -/
theorem word_tx {m : Nat} {f : Fo} {u : Nat → Nat} {ps : List (Nat × Nat)} (s : sz f = 2 * m) (e : ∀ x, x < 2 * m → mt f x = u x) (i : Inv (fun x => x < 2 * m) u) (of : ∀ x, x < 2 * m → pr x (u x) ∈ ps) (fo : ∀ p ∈ ps, ∃ x, x < 2 * m ∧ p = pr x (u x)) : word f = tx ps (2 * m) := by
  apply List.ext_getElem?
  intro k
  rw [Dw.word_sg f 0, Cn.sg_at]
  unfold tx
  rw [List.getElem?_map]
  by_cases h : k < 2 * m
  · rw [Dw.mt_at (by omega), List.getElem?_range h, e k h]
    simp only [Option.map_some, Option.some.injEq, Nat.zero_add]
    by_cases l : k < u k
    · rw [if_pos l, if_pos]
      exact List.mem_map.mpr ⟨_, of k h, by unfold pr; simp; omega⟩
    · rw [if_neg l, if_neg]
      intro z
      obtain ⟨p, hp, rfl⟩ := List.mem_map.mp z
      obtain ⟨x, hx, rfl⟩ := fo p hp
      have a := i.inv x hx
      have b := i.ne x hx
      unfold pr at l
      simp only at l
      by_cases q : x ≤ u x
      · rw [Nat.min_eq_left q] at l; omega
      · rw [Nat.min_eq_right (by omega), a] at l; omega
  · have ml := Dw.M_len f 0
    rw [List.getElem?_eq_none (by omega), List.getElem?_eq_none (by rw [List.length_range]; omega)]
    rfl
theorem Cd.fo_hi (d : Cd m c) : ∀ p ∈ hi m c, ∃ x, x < 2 * m ∧ p = pr x (up c x) := by
  intro p hp
  obtain ⟨i, hi', rfl⟩ := List.mem_map.mp hp
  have il := List.mem_range.mp hi'
  refine ⟨g c (2 * i), d.lt (by omega), ?_⟩
  unfold ed up
  rw [d.pg (by omega), if_pos (by omega), Nat.mod_eq_of_lt (by omega)]
theorem Cd.fo_lo (d : Cd m c) : ∀ p ∈ lo m c, ∃ x, x < 2 * m ∧ p = pr x (dn m c x) := by
  intro p hp
  obtain ⟨i, hi', rfl⟩ := List.mem_map.mp hp
  have il := List.mem_range.mp hi'
  have e := d.pg (k := 2 * i + 1) (by omega)
  refine ⟨g c (2 * i + 1), d.lt (by omega), ?_⟩
  rw [dn_odd (by rw [e]; omega) (by rw [e]; omega), e]
  unfold ed
  rw [mod_nx (by omega)]
/-- a candidate whose sides are without crossings is a river's path -/
theorem Cd.river (d : Cd m c) (nh : NX (hi m c)) (nl : NX (lo m c)) : ∃ f h : Fo, sz f = 2 * m ∧ sz h = 2 * m ∧ word f = tx (hi m c) (2 * m) ∧ word h = tx (lo m c) (2 * m) ∧ walk (mt f) (mt h) (2 * m) 0 = c := by
  obtain ⟨f, sf, ef⟩ := Cn.fo_ex d.upI (NC_of d.upI nh fun x hx => d.hi_of hx)
  obtain ⟨h, sh, eh⟩ := Cn.fo_ex d.dnI (NC_of d.dnI nl fun x hx => d.lo_of hx)
  refine ⟨f, h, sf, sh, word_tx sf ef d.upI (fun x hx => d.hi_of hx) d.fo_hi, word_tx sh eh d.dnI (fun x hx => d.lo_of hx) d.fo_lo, ?_⟩
  have m0 := d.m0
  have mu : Mt (2 * m) (mt f) := sf ▸ Dw.mt_Mt f
  have ml : Mt (2 * m) (mt h) := sh ▸ Dw.mt_Mt h
  have uu : ∀ j, j < m → mt f (g c (2 * j)) = g c (2 * j + 1) := fun j hj => by
    rw [ef _ (d.lt (by omega))]
    unfold up
    rw [d.pg (by omega), if_pos (by omega)]
  have dd : ∀ j, j < m → mt h (g c (2 * j + 1)) = g c (if j + 1 = m then 0 else 2 * (j + 1)) := fun j hj => by
    have e := d.pg (k := 2 * j + 1) (by omega)
    rw [eh _ (d.lt (by omega)), dn_odd (by rw [e]; omega) (by rw [e]; omega), e]
    congr 1
    split <;> split <;> omega
  have it : ∀ j, j < m → it2 (mt f) (mt h) j 0 = g c (2 * j) := by
    intro j
    induction j with
    | zero => intro _; exact d.z.symm
    | succ j ih =>
      intro hj
      rw [Dw.it2_succ, ih (by omega), uu j (by omega), dd j (by omega), if_neg (by omega)]
  have itm : it2 (mt f) (mt h) m 0 = 0 := by
    obtain ⟨j, rfl⟩ : ∃ j, m = j + 1 := ⟨m - 1, by omega⟩
    rw [Dw.it2_succ, it j (by omega), uu j (by omega), dd j (by omega), if_pos rfl, d.z]
  obtain ⟨k, k0, k1, k2, k3, wk⟩ := Dw.walk_fts mu ml (f := 0) (by omega)
  have km : k = m := by
    rcases Nat.lt_trichotomy k m with h1 | h1 | h1
    · have := it k h1
      rw [k2] at this
      have := d.inj (j := 0) (k := 2 * k) (by omega) (by omega) (by rw [d.z]; exact this)
      omega
    · exact h1
    · exact absurd itm (k3 m (by omega) h1)
  rw [wk, km]
  have st : ∀ j, j ≤ m → fts (mt f) (mt h) 0 j = c.take (2 * j) := by
    intro j
    induction j with
    | zero => intro _; rfl
    | succ j ih =>
      intro hj
      rw [Dw.fts_succ, ih (by omega), it j (by omega), uu j (by omega), show 2 * (j + 1) = 2 * j + 1 + 1 by omega, List.take_add_one, List.take_add_one, d.at (by omega), d.at (by omega)]
      simp
  rw [st m (Nat.le_refl _), List.take_of_length_le (by rw [d.pp.len]; omega)]
end Rv

set_option Elab.async false
set_option linter.all false
set_option maxRecDepth 100000
set_option maxHeartbeats 4000000
set_option autoImplicit false
namespace Cn
open PySem PySem.Spec L2 Fw Pg
open PyProof.Rows hiding St
open Dw (Mt it2 fts walk srtN rgo rds mt Clo Fo sz M ns mir)
end Cn

set_option Elab.async false
set_option linter.all false
set_option maxRecDepth 100000
set_option maxHeartbeats 4000000
set_option autoImplicit false
namespace Cn
open PySem PySem.Spec L2 Fw Pg
open PyProof.Rows hiding St
open Dw (Mt it2 fts walk srtN rgo rds mt Clo Fo sz M ns mir)
end Cn

set_option Elab.async false
set_option linter.all false
set_option maxRecDepth 100000
set_option maxHeartbeats 4000000
set_option autoImplicit false
namespace Cn
open PySem PySem.Spec L2 Fw Pg
open PyProof.Rows hiding St
open Dw (Mt it2 fts walk srtN rgo rds mt Clo Fo sz M ns mir tu)
end Cn

set_option Elab.async false
set_option linter.all false
set_option maxRecDepth 100000
set_option maxHeartbeats 4000000
set_option autoImplicit false
namespace Fw
open PySem PySem.Spec L2
open PyProof.Rows hiding St
end Fw
namespace Dw
variable {u l : Nat → Nat} {N : Nat}
theorem fts_nodup (mu : Mt N u) (ml : Mt N l) {f : Nat} (hf : f < N) {k : Nat} (hk : ∀ j, 0 < j → j < k → it2 u l j f ≠ f) : ∀ j, j ≤ k → (fts u l f j).Nodup := by
  intro j
  induction j with
  | zero => intro _; simp [fts]
  | succ j ih =>
    intro hj
    have xl := it2_lt mu ml hf j
    have xp := it2_par mu ml hf j
    have nm := fts_mem mu ml hf hk (show j < k by omega)
    have up := mu.par _ xl
    rw [fts_succ, List.nodup_append]
    refine ⟨ih (by omega), by simp; omega, ?_⟩
    intro a ha b hb e
    subst e
    simp only [List.mem_cons, List.not_mem_nil, or_false] at hb
    rcases hb with rfl | rfl
    · exact nm ha
    · obtain ⟨i, il, e | e⟩ := fts_mem_iff.mp ha
      · have := it2_par mu ml hf i
        rw [e] at up
        omega
      · have yl := it2_lt mu ml hf i
        have := congrArg u e
        rw [mu.inv _ xl, mu.inv _ yl] at this
        exact nm (this ▸ fts_mem_iff.mpr ⟨i, il, .inl rfl⟩)
theorem rgo_nil {u l : Nat → Nat} {N : Nat} : ∀ (fs met : List Nat), rgo u l N fs met = [] ↔ ∀ x ∈ fs, x ∈ met
  | [], met => by simp [rgo]
  | x :: fs, met => by
    rw [rgo]
    by_cases c : met.contains x = true
    · rw [if_pos c, rgo_nil fs met]
      have : x ∈ met := by simpa using c
      simp [this]
    · rw [if_neg c]
      have : x ∉ met := by simpa using c
      simp [this]
theorem rds_one (mu : Mt N u) (ml : Mt N l) (n0 : 0 < N) : (rds u l N).length = 1 ↔ (walk u l N 0).length = N := by
  obtain ⟨k, k0, k1, k2, k3, wk⟩ := walk_fts mu ml n0
  have nd := fts_nodup mu ml n0 k3 k (Nat.le_refl _)
  rw [← wk] at nd
  have lt := Pg.walk_lt mu ml n0
  rw [nodup_all nd lt]
  unfold rds
  have er : List.range N = 0 :: List.range' 1 (N - 1) := by
    rw [List.range_eq_range', show N = (N - 1) + 1 by omega, List.range'_succ]
    rfl
  have z := (walk_clo mu ml n0).2
  rw [er, rgo, if_neg (by simp), List.length_cons, List.nil_append]
  constructor
  · intro e
    have e : rgo u l N (List.range' 1 (N - 1)) (walk u l N 0) = [] := List.length_eq_zero_iff.mp (by omega)
    rw [rgo_nil] at e
    intro x hx
    by_cases c : x = 0
    · rw [c]; exact z
    · exact e x (List.mem_range'_1.mpr ⟨by omega, by omega⟩)
  · intro e
    have : rgo u l N (List.range' 1 (N - 1)) (walk u l N 0) = [] := (rgo_nil _ _).mpr fun x hx => e x (by have := List.mem_range'_1.mp hx; omega)
    rw [this]
    rfl
end Dw
namespace Cn
open PySem PySem.Spec L2 Fw Pg
open PyProof.Rows hiding St
open Dw (Mt it2 fts walk srtN rgo rds mt Clo Fo sz M ns mir tu hk)
theorem q__is_one_round : G__is_one_round = R__is_one_round := by unfold G__is_one_round; rfl
theorem is_one_round_ok {f g : Fo} {a b : Nat} {h : Hs} (l : sz f ≤ 24) (l0 : 0 < sz f) (e : sz g = sz f) (ea : h[a]? = some (.lst ((M 0 f).map vN))) (eb : h[b]? = some (.lst ((M 0 g).map vN))) :
    ∃ h', G__is_one_round [.loc a, .loc b] h = .ok (.bl (decide ((rdF f g).length = 1))) h' := by
  have mu := Dw.mt_Mt f
  have ml : Mt (sz f) (mt g) := by rw [← e]; exact Dw.mt_Mt g
  have wf := walk_from_ok mu ml l ea eb (fun x hx => Dw.mt_at hx) (fun x hx => Dw.mt_at (by omega)) l0
  have w2 := walk_len mu ml l0
  rw [q__is_one_round]
  show ∃ h', fin (b__is_one_round [some (.loc a), some (.loc b)] h) = _
  unfold b__is_one_round
  have ne : M 0 f ≠ [] := fun z => by
    have := Dw.M_len f 0
    rw [z] at this
    simp at this
    omega
  have tr : ∀ r : Hs, trA (.loc a) (h ++ r) = some true := fun r => by
    simp [trA, app_at ea, ne]
  have tr0 : trA (.loc a) h = some true := by simpa using tr []
  have wf : G_walk_from [.loc a, .loc b, .int (0 : Nat)] h = .ok (.loc h.length) (h ++ [.lst ((walk (mt f) (mt g) (sz f) 0).map vN)]) := wf
  have k1 : kLen [.loc h.length] (h ++ [.lst ((walk (mt f) (mt g) (sz f) 0).map vN)]) = .ok (.int ((walk (mt f) (mt g) (sz f) 0).length : Nat)) (h ++ [.lst ((walk (mt f) (mt g) (sz f) 0).map vN)]) := by
    simp [lsA]
  have k2 : kLen [.loc a] (h ++ [.lst ((walk (mt f) (mt g) (sz f) 0).map vN)]) = .ok (.int (sz f : Nat)) (h ++ [.lst ((walk (mt f) (mt g) (sz f) 0).map vN)]) := by
    simp [lsA, app_at ea, Dw.M_len]
  have de : decide ((rdF f g).length = 1) = decide ((walk (mt f) (mt g) (sz f) 0).length = sz f) := decide_eq_decide.mpr (Dw.rds_one mu ml l0)
  rw [de]
  (rw [Fw.seq_ap]; conv => { pattern (Fw.thn _ _); arg 1; simp (disch := first | omega | exact rfl) only [EV0, EV1, EV2, EV3, List.set_cons_zero, List.set_cons_succ, List.length_cons, List.length_nil, List.length_map, Nat.zero_add, List.cons_append, List.nil_append, and_self, and_true, true_and, and_false, false_and, if_true, if_false, decide_true, decide_false, decide_eq_true_eq, Bool.not_true, Bool.not_false, Bool.false_eq_true, Bool.true_eq_false, Bool.not_eq_true, eq_self, not_true_eq_false, not_false_eq_true, List.cons.injEq, Nat.reduceAdd, Nat.reduceLeDiff, Nat.reduceEqDiff, Nat.reduceSub, Nat.reduceMul, ↓reduceIte, reduceCtorEq, tr0] }; rw [Fw.thn_nx])
  exact ⟨_, by simp (disch := first | omega | exact rfl) only [EV0, EV1, EV2, EV3, List.set_cons_zero, List.set_cons_succ, List.length_cons, List.length_nil, List.length_map, Nat.zero_add, List.cons_append, List.nil_append, and_self, and_true, true_and, and_false, false_and, if_true, if_false, decide_true, decide_false, decide_eq_true_eq, Bool.not_true, Bool.not_false, Bool.false_eq_true, Bool.true_eq_false, Bool.not_eq_true, eq_self, not_true_eq_false, not_false_eq_true, List.cons.injEq, Nat.reduceAdd, Nat.reduceLeDiff, Nat.reduceEqDiff, Nat.reduceSub, Nat.reduceMul, ↓reduceIte, reduceCtorEq, wf, k1, k2] <;> rfl⟩
theorem is_river_ok {f g : Fo} {h : Hs} (l : sz f ≤ 24) (l0 : 0 < sz f) (e : sz g = sz f) : G_is_river [.str (Dw.word f), .str (Dw.word g)] h = .ok (.bl (decide ((rdF f g).length = 1))) h := by
  suffices hh : ∃ h', R_is_river [.str (Dw.word f), .str (Dw.word g)] [] = .ok (.bl (decide ((rdF f g).length = 1))) h' by
    obtain ⟨h', hh⟩ := hh
    exact pure_of rfl hh rfl
  have nr := fun h => need_rows_ok (f := f) (g := g) (h := h) l e
  have m1 := mates_ok (f := f) (h := []) l
  have m2 := mates_ok (f := g) (h := [] ++ [.lst ((M 0 f).map vN)]) (by omega)
  obtain ⟨h', o⟩ := is_one_round_ok (h := [] ++ [.lst ((M 0 f).map vN)] ++ [.lst ((M 0 g).map vN)]) (a := 0) (b := 1) l l0 e rfl rfl
  show ∃ h', fin (b_is_river [some (.str (Dw.word f)), some (.str (Dw.word g))] []) = _
  unfold b_is_river
  (rw [Fw.seq_ap]; conv => { pattern (Fw.thn _ _); arg 1; simp (disch := first | omega | exact rfl) only [EV0, EV1, EV2, EV3, List.set_cons_zero, List.set_cons_succ, List.length_cons, List.length_nil, List.length_map, Nat.zero_add, List.cons_append, List.nil_append, and_self, and_true, true_and, and_false, false_and, if_true, if_false, decide_true, decide_false, decide_eq_true_eq, Bool.not_true, Bool.not_false, Bool.false_eq_true, Bool.true_eq_false, Bool.not_eq_true, eq_self, not_true_eq_false, not_false_eq_true, List.cons.injEq, Nat.reduceAdd, Nat.reduceLeDiff, Nat.reduceEqDiff, Nat.reduceSub, Nat.reduceMul, ↓reduceIte, reduceCtorEq, nr] }; rw [Fw.thn_nx])
  simp only [List.length_nil, List.nil_append, List.length_cons, List.cons_append, Nat.zero_add] at m1 m2 o
  exact ⟨h', by simp (disch := first | omega | exact rfl) only [EV0, EV1, EV2, EV3, List.set_cons_zero, List.set_cons_succ, List.length_cons, List.length_nil, List.length_map, Nat.zero_add, List.cons_append, List.nil_append, and_self, and_true, true_and, and_false, false_and, if_true, if_false, decide_true, decide_false, decide_eq_true_eq, Bool.not_true, Bool.not_false, Bool.false_eq_true, Bool.true_eq_false, Bool.not_eq_true, eq_self, not_true_eq_false, not_false_eq_true, List.cons.injEq, Nat.reduceAdd, Nat.reduceLeDiff, Nat.reduceEqDiff, Nat.reduceSub, Nat.reduceMul, ↓reduceIte, reduceCtorEq, m1, m2, o]⟩
end Cn

set_option Elab.async false
set_option linter.all false
set_option maxRecDepth 100000
set_option maxHeartbeats 4000000
set_option autoImplicit false
namespace Fd
/-- no two creases cross -/
def NX (n : Nat) (q : List Nat) : Prop := ∀ c d, c < d → d + 1 < n → (d - c) % 2 = 0 → cr q c d = false
end Fd
namespace Sp
open PySem PySem.Spec L2 Fw Pg Fd
open PyProof.Rows hiding St
end Sp

set_option Elab.async false
set_option linter.all false
set_option maxRecDepth 100000
set_option maxHeartbeats 2000000
set_option autoImplicit false
namespace Un
open PySem PySem.Spec L2 Fw Pg
open PyProof.Rows hiding St
def b__law_urn : Ss :=
  (seq (sSet 2 (sIte (sBl (s2 kLt (sVar 1) (sBlt kLen (sCons (sVar 0) sNil)))) (s2 kIx (sVar 0) (sVar 1)) (s2 kAdd (s2 kMul (sK (.int 5303)) (sVar 1)) (sK (.int 89)))))
  (seq (sSet 3 (s2 kAdd (sK (.int 424243)) (s2 kMul (sK (.int 70001)) (sVar 1))))
  (seq (sFor (sItr (sSl (sVar 0) sNo (sSo (sK (.int 5))))) (gNm 4)
  (sSet 3 (s2 kMod (sBlt kInt (sCons (s2 kAdd (s2 kMul (sVar 3) (sK (.int 39019))) (sVar 4)) sNil)) (sK (.int 2147482661)))))
  (sRet (sLst (sCons (sIte (sBl (s2 kGe (sBlt kAbs (sCons (sVar 2) sNil)) (s2 kPow (sK (.int 10)) (sK (.int 16))))) (sBlt kAbs (sCons (sVar 2) sNil)) (sK (.int 0))) (sCons (s2 kMod (sBlt kInt (sCons (s2 kAdd (sVar 3) (s2 kMul (sK (.int 17)) (sVar 2))) sNil)) (sK (.int 2147482661))) (sCons (sK (.int 0)) sNil))))))))
abbrev R__law_urn : Fn := runB 5 b__law_urn
def G__law_urn : Fn := pureF R__law_urn
def b__law_ladle : Ss :=
  (seq (sIf (sBl (s2 kGt (s2 kIx (sVar 0) (sK (.int 0))) (sK (.int 0))))
  (seq (sAsg (sBlt kDvm (sCons (s2 kIx (sVar 0) (sK (.int 0))) (sCons (sVar 1) sNil))) (gTp 2 (gsCons (gSb (sVar 0) (sK (.int 0))) (gsCons (gNm 2) gsNil))))
  (sRet (sVar 2)))
  skip)
  (seq (sAsg (s2 kAdd (s2 kIx (sVar 0) (sK (.int 2))) (sK (.int 1))) (gSb (sVar 0) (sK (.int 2))))
  (seq (sAsg (s2 kMod (sBlt kInt (sCons (s2 kAdd (s2 kAdd (s2 kMul (s2 kIx (sVar 0) (sK (.int 1))) (sK (.int 47017))) (s2 kMul (sK (.int 31)) (s2 kIx (sVar 0) (sK (.int 2))))) (sK (.int 5))) sNil)) (sK (.int 2147482661))) (gSb (sVar 0) (sK (.int 1))))
  (sRet (s2 kMod (sBlt kInt (sCons (s2 kFdv (s2 kIx (sVar 0) (sK (.int 1))) (sK (.int 320))) sNil)) (sVar 1))))))
abbrev R__law_ladle : Fn := runB 3 b__law_ladle
@[irreducible] def G__law_ladle : Fn := R__law_ladle
def b__law_apart : Ss :=
  (seq (sAsg (sBlt kSrtI (sCons (sLst (sCons (s2 kIx (sVar 0) (sVar 1)) (sCons (s2 kIx (sVar 0) (s2 kAdd (sVar 1) (sK (.int 1)))) sNil))) sNil)) (gTp 2 (gsCons (gNm 3) (gsCons (gNm 4) gsNil))))
  (seq (sAsg (sBlt kSrtI (sCons (sLst (sCons (s2 kIx (sVar 0) (sVar 2)) (sCons (s2 kIx (sVar 0) (s2 kAdd (sVar 2) (sK (.int 1)))) sNil))) sNil)) (gTp 2 (gsCons (gNm 5) (gsCons (gNm 6) gsNil))))
  (sRet (sAndV (sNotV (sCh3 kLt kLt kLt (sVar 3) (sVar 5) (sVar 4) (sVar 6))) (sNotV (sCh3 kLt kLt kLt (sVar 5) (sVar 3) (sVar 6) (sVar 4)))))))
abbrev R__law_apart : Fn := runB 7 b__law_apart
@[irreducible] def G__law_apart : Fn := R__law_apart
def b__law_places : Ss :=
  (seq (sSet 1 (s2 kMul (sLst (sCons (sK (.int 0)) sNil)) (sBlt kLen (sCons (sVar 0) sNil))))
  (seq (sFor (sRg1 (sCons (sBlt kLen (sCons (sVar 0) sNil)) sNil)) (gNm 2)
  (sAsg (sVar 2) (gSb (sVar 1) (s2 kIx (sVar 0) (sVar 2)))))
  (sRet (sVar 1))))
abbrev R__law_places : Fn := runB 3 b__law_places
def G__law_places : Fn := pureF R__law_places
def b__law_of : Ss :=
  (sRet (s2 kIx (sVar 1) (sCall G__law_ladle 2 [0, 1] (sCons (sVar 0) (sCons (sBlt kLen (sCons (sVar 1) sNil)) sNil)))))
abbrev R__law_of : Fn := runB 2 b__law_of
@[irreducible] def G__law_of : Fn := R__law_of
def b__law_pile : Ss :=
  (seq (sSet 2 (sLstRg1 (sVar 1)))
  (sRet (sBlt kTpl (sCons (sLc (sRg1 (sCons (sVar 1) sNil)) (gNm 3) tru (sMth "list" kPopA (sVar 2) (sCons (sCall G__law_ladle 2 [0, 1] (sCons (sVar 0) (sCons (sBlt kLen (sCons (sVar 2) sNil)) sNil))) sNil)) [3]) sNil))))
abbrev R__law_pile : Fn := runB 4 b__law_pile
@[irreducible] def G__law_pile : Fn := R__law_pile
def b__law_put_in : Ss :=
  (seq (sSet 1 (sLst sNil))
  (seq (sFor (sRg1 (sCons (s2 kAddW (sBlt kLen (sCons (sVar 0) sNil)) (sK (.int 1))) sNil)) (gNm 2)
  (seq (sSet 3 (s2 kAddW (s2 kAddW (sSlW (sVar 0) sNo (sSo (sVar 2))) (sTup (sCons (sBlt kLen (sCons (sVar 0) sNil)) sNil))) (sSlW (sVar 0) (sSo (sVar 2)) sNo)))
  (seq (sSet 4 (sCall G__law_places 1 [0] (sCons (sVar 3) sNil)))
  (seq (sSet 5 (s2 kSub (sBlt kLen (sCons (sVar 0) sNil)) (sK (.int 1))))
  (sIf (sTru (sBlt kAll (sCons (sLc (sRg3 (sCons (s2 kSub (sVar 5) (sK (.int 2))) (sCons (s1 kNeg (sK (.int 1))) (sCons (s1 kNeg (sK (.int 2))) sNil)))) (gNm 6) tru (sCall G__law_apart 3 [0, 1, 2] (sCons (sVar 4) (sCons (sVar 6) (sCons (sVar 5) sNil)))) [6]) sNil)))
  (sDrop (sMth "list" kApp (sVar 1) (sCons (sVar 3) sNil)))
  skip)))))
  (sRet (sVar 1))))
abbrev R__law_put_in : Fn := runB 7 b__law_put_in
def G__law_put_in : Fn := pureF R__law_put_in
def b__law_first_bad : Ss :=
  (seq (sSet 1 (sCall G__law_places 1 [0] (sCons (sVar 0) sNil)))
  (seq (sFor (sRg1 (sCons (s2 kSub (sBlt kLen (sCons (sVar 0) sNil)) (sK (.int 1))) sNil)) (gNm 2)
  (sFor (sRg3 (sCons (s2 kAdd (sVar 2) (sK (.int 2))) (sCons (s2 kSub (sBlt kLen (sCons (sVar 0) sNil)) (sK (.int 1))) (sCons (sK (.int 2)) sNil)))) (gNm 3)
  (sIf (sNot (sTru (sCall G__law_apart 3 [0, 1, 2] (sCons (sVar 1) (sCons (sVar 2) (sCons (sVar 3) sNil))))))
  (sRet (sTup (sCons (sVar 2) (sCons (sVar 3) sNil))))
  skip)))
  (sRet (sK .non))))
abbrev R__law_first_bad : Fn := runB 4 b__law_first_bad
def G__law_first_bad : Fn := pureF R__law_first_bad
def b__law_folding : Ss :=
  (seq (sSet 2 (sTup (sCons (sK (.int 0)) sNil)))
  (seq (sFor (sRg1 (sCons (s2 kSub (sVar 1) (sK (.int 1))) sNil)) (gNm 3)
  (sSet 2 (sCall G__law_of 2 [0, 1] (sCons (sVar 0) (sCons (sCall G__law_put_in 1 [0] (sCons (sVar 2) sNil)) sNil)))))
  (sRet (sVar 2))))
abbrev R__law_folding : Fn := runB 4 b__law_folding
@[irreducible] def G__law_folding : Fn := R__law_folding
end Un

set_option Elab.async false
set_option linter.all false
set_option maxRecDepth 100000
set_option maxHeartbeats 2000000
set_option autoImplicit false
namespace Fk
open PySem PySem.Spec L2 Fw Pg
open PyProof.Rows hiding St
def b__law_flask : Ss :=
  (seq (sSet 2 (sIte (sBl (s2 kLt (sVar 1) (sBlt kLen (sCons (sVar 0) sNil)))) (sBlt kInt (sCons (s2 kIx (sVar 0) (sVar 1)) sNil)) (s2 kAdd (s2 kMul (sK (.int 71)) (sVar 1)) (sK (.int 29)))))
  (seq (sSet 3 (s2 kAdd (sK (.int 80021)) (s2 kMul (sK (.int 5009)) (sVar 1))))
  (seq (sFor (sItr (sSl (sVar 0) sNo (sSo (sK (.int 6))))) (gNm 4)
  (sSet 3 (s2 kMod (sBlt kInt (sCons (s2 kAdd (s2 kMul (sVar 3) (sK (.int 32009))) (sBlt kInt (sCons (sVar 4) sNil))) sNil)) (sK (.int 2147482811)))))
  (sRet (sLst (sCons (s2 kMod (sBlt kInt (sCons (s2 kAdd (sVar 3) (s2 kMul (sVar 2) (sK (.int 7013)))) sNil)) (sK (.int 2147482811))) (sCons (sK (.int 0)) (sCons (sIte (sOr (sBl (s2 kLt (sVar 2) (sK (.int 0)))) (sBl (s2 kGe (sVar 2) (s2 kPow (sK (.int 10)) (sK (.int 18)))))) (sBlt kAbs (sCons (sVar 2) sNil)) (sK (.int 0))) sNil))))))))
abbrev R__law_flask : Fn := runB 5 b__law_flask
def G__law_flask : Fn := pureF R__law_flask
def b__law_pour : Ss :=
  (seq (sAsg (s2 kAdd (s2 kIx (sVar 0) (sK (.int 1))) (sK (.int 1))) (gSb (sVar 0) (sK (.int 1))))
  (seq (sIf (sBl (s2 kGt (s2 kIx (sVar 0) (sK (.int 2))) (sK (.int 0))))
  (seq (sAsg (sBlt kDvm (sCons (sBlt kInt (sCons (s2 kIx (sVar 0) (sK (.int 2))) sNil)) (sCons (sVar 1) sNil))) (gTp 2 (gsCons (gSb (sVar 0) (sK (.int 2))) (gsCons (gNm 2) gsNil))))
  (sRet (sVar 2)))
  skip)
  (seq (sSet 3 (sBlt kInt (sCons (s2 kIx (sVar 0) (sK (.int 0))) sNil)))
  (seq (sSet 4 (s2 kAdd (s2 kMod (sBlt kInt (sCons (sVar 3) sNil)) (sK (.int 17011))) (sK (.int 61001))))
  (seq (sAsg (s2 kMod (sBlt kInt (sCons (s2 kAdd (s2 kAdd (s2 kMul (sVar 3) (sVar 4)) (s2 kMul (sK (.int 70001)) (s2 kIx (sVar 0) (sK (.int 1))))) (sK (.int 17))) sNil)) (sK (.int 2147482811))) (gSb (sVar 0) (sK (.int 0))))
  (sRet (s2 kMod (sBlt kInt (sCons (s2 kFdv (s2 kIx (sVar 0) (sK (.int 0))) (sK (.int 4099))) sNil)) (sVar 1))))))))
abbrev R__law_pour : Fn := runB 5 b__law_pour
@[irreducible] def G__law_pour : Fn := R__law_pour
theorem g__law_pour (xs : List Va) (h : Hs) (_ : xs.length = 2) (_ : G__law_pour xs h ≠ .bad) : R__law_pour xs h = G__law_pour xs h := congrFun (congrFun (show R__law_pour = G__law_pour from by unfold G__law_pour; rfl) xs) h
def b__law_mates : Ss :=
  (seq (sPar [1, 2] (sCons (s2 kMul (sLst (sCons (sK (.int 0)) sNil)) (sBlt kLen (sCons (sVar 0) sNil))) (sCons (sLst sNil) sNil)))
  (seq (sFor (sRg1 (sCons (sBlt kLen (sCons (sVar 0) sNil)) sNil)) (gNm 3)
  (sIf (sBl (s2 kEq (s2 kIx (sVar 0) (sVar 3)) (sK (.str [40]))))
  (sDrop (sMth "list" kApp (sVar 2) (sCons (sVar 3) sNil)))
  (seq (sAsg (sMth "list" kPop (sVar 2) sNil) (gSb (sVar 1) (sVar 3)))
  (sAsg (sVar 3) (gSb (sVar 1) (s2 kIx (sVar 1) (sVar 3)))))))
  (sRet (sVar 1))))
abbrev R__law_mates : Fn := runB 4 b__law_mates
def G__law_mates : Fn := pureF R__law_mates
def b__law_pick : Ss :=
  (sRet (s2 kIx (sVar 1) (sCall G__law_pour 2 [0, 1] (sCons (sVar 0) (sCons (sBlt kLen (sCons (sVar 1) sNil)) sNil)))))
abbrev R__law_pick : Fn := runB 2 b__law_pick
@[irreducible] def G__law_pick : Fn := R__law_pick
theorem g__law_pick (xs : List Va) (h : Hs) (_ : xs.length = 2) (_ : G__law_pick xs h ≠ .bad) : R__law_pick xs h = G__law_pick xs h := congrFun (congrFun (show R__law_pick = G__law_pick from by unfold G__law_pick; rfl) xs) h
def b__law_row : Ss :=
  (seq (sPar [2, 3, 4] (sCons (sK (.str [])) (sCons (sK (.int 0)) (sCons (sVar 1) sNil))))
  (seq (sFor (sRg1 (sCons (s2 kMul (sK (.int 2)) (sVar 1)) sNil)) (gNm 5)
  (sIf (sAnd (sBl (s2 kGt (sVar 4) (sK (.int 0)))) (sOr (sBl (s2 kEq (sVar 3) (sK (.int 0)))) (sBl (s2 kEq (sCall G__law_pour 2 [0, 1] (sCons (sVar 0) (sCons (sK (.int 2)) sNil))) (sK (.int 0))))))
  (sPar [2, 3, 4] (sCons (s2 kAdd (sVar 2) (sK (.str [40]))) (sCons (s2 kAdd (sVar 3) (sK (.int 1))) (sCons (s2 kSub (sVar 4) (sK (.int 1))) sNil))))
  (sPar [2, 3] (sCons (s2 kAdd (sVar 2) (sK (.str [41]))) (sCons (s2 kSub (sVar 3) (sK (.int 1))) sNil)))))
  (sRet (sVar 2))))
abbrev R__law_row : Fn := runB 6 b__law_row
@[irreducible] def G__law_row : Fn := R__law_row
theorem g__law_row (xs : List Va) (h : Hs) (_ : xs.length = 2) (_ : G__law_row xs h ≠ .bad) : R__law_row xs h = G__law_row xs h := congrFun (congrFun (show R__law_row = G__law_row from by unfold G__law_row; rfl) xs) h
end Fk

set_option Elab.async false
set_option linter.all false
set_option maxRecDepth 100000
set_option maxHeartbeats 4000000
set_option autoImplicit false
namespace Fk
open PySem PySem.Spec L2 Fw Pg
open PyProof.Rows hiding St
theorem q__law_pour : G__law_pour = R__law_pour := by unfold G__law_pour; rfl
theorem q__law_pick : G__law_pick = R__law_pick := by unfold G__law_pick; rfl
theorem q__law_row : G__law_row = R__law_row := by unfold G__law_row; rfl
theorem pour_ok {h : Hs} {m top : Nat} (q : Mug h m) (t0 : 0 < top) (t1 : top < 1073741824) : ∃ (r : Nat) (h' : Hs), G__law_pour [.loc m, .int top] h = .ok (.int r) h' ∧ r < top ∧ Kp m h h' := by
  rw [q__law_pour]
  have t2 : (0 : Int) < top := by omega
  have t3 : (top : Int) < 1073741824 := by omega
  obtain ⟨a, b, c, e⟩ := q
  have hl := (List.getElem?_eq_some_iff.mp e).1
  have fin : ∀ (x : Int) (a b c : Int), ∃ (r : Nat) (h' : Hs), (x % top = (r : Int) ∧ h.set m (.lst [.int a, .int b, .int c]) = h') ∧ r < top ∧ Kp m h h' := fun x a' b' c' => by
    have h1 := Int.emod_nonneg x (b := (top : Int)) (by omega)
    have h2 := Int.emod_lt_of_pos x t2
    exact ⟨(x % top).toNat, _, ⟨(Int.toNat_of_nonneg h1).symm, rfl⟩, by omega, Kp.set ⟨a, b, c, e⟩ a' b' c'⟩
  have s2 : ∀ x : Ob, (h.set m x)[m]? = some x := fun x => by simp [hl]
  have i0 : ∀ a b c : Va, kIx (.loc m) (.int 0) (h.set m (.lst [a, b, c])) = .ok a (h.set m (.lst [a, b, c])) := fun a b c => ix_loc0 (s2 _)
  have i1 : ∀ a b c : Va, kIx (.loc m) (.int 1) (h.set m (.lst [a, b, c])) = .ok b (h.set m (.lst [a, b, c])) := fun a b c => ix_loc1 (s2 _)
  have i2 : ∀ a b c : Va, kIx (.loc m) (.int 2) (h.set m (.lst [a, b, c])) = .ok c (h.set m (.lst [a, b, c])) := fun a b c => ix_loc2 (s2 _)
  have k0 : ∀ a b c x : Va, kSet (.loc m) (.int 0) x (h.set m (.lst [a, b, c])) = some (h.set m (.lst [x, b, c])) := fun a b c x => by rw [ks3_0 (s2 _), List.set_set]
  have k2 : ∀ a b c x : Va, kSet (.loc m) (.int 2) x (h.set m (.lst [a, b, c])) = some (h.set m (.lst [a, b, x])) := fun a b c x => by rw [ks3_2 (s2 _), List.set_set]
  have k1 : ∀ x : Va, kSet (.loc m) (.int 1) x h = some (h.set m (.lst [.int a, x, .int c])) := fun x => ks3_1 e
  have lt : ∀ x : Int, 0 ≤ x % 17011 ∧ x % 17011 < 17011 := fun x => ⟨Int.emod_nonneg _ (by decide), Int.emod_lt_of_pos _ (by decide)⟩
  have m1 : ∀ x y h, kMul (.int x) (.int (y % 17011 + 61001)) h = .ok (.int (x * (y % 17011 + 61001))) h := fun x y h => by
    have := lt y
    simp only [kMul]
    rw [if_pos (.inr (by omega))]
  have m2 : ∀ y h, kMul (.int 70001) (.int y) h = .ok (.int (70001 * y)) h := fun y h => by simp [kMul]
  by_cases a0 : 0 < c
  · simp [runB_ap, b__law_pour, gSb_ap, ix_loc1 e, i0, i1, i2, k0, k1, k2, m1, m2, kInt, kMod, kFdv, kDvm, a0, t0, t1, t2, t3]
    exact fin _ _ _ _
  · simp [runB_ap, b__law_pour, gSb_ap, ix_loc1 e, i0, i1, i2, k0, k1, k2, m1, m2, kInt, kMod, kFdv, kDvm, a0, t0, t1, t2, t3]
    exact fin _ _ _ _
theorem pick_ok {h : Hs} {m r : Nat} {xs : List Va} (q : Mug h m) (hr : h[r]? = some (.lst xs)) (rm : r ≠ m) (x0 : 0 < xs.length) (x1 : xs.length < 1073741824) : ∃ (x : Va) (h' : Hs), G__law_pick [.loc m, .loc r] h = .ok x h' ∧ x ∈ xs ∧ Kp m h h' := by
  obtain ⟨j, h', e, jl, k⟩ := pour_ok q x0 x1
  refine ⟨xs[j], h', ?_, List.getElem_mem _, k⟩
  rw [q__law_pick]
  simp [runB_ap, b__law_pick, lsA, hr, e, ix_loc (k.old r _ rm hr) (List.getElem?_eq_getElem jl)]
theorem row_ok {h : Hs} {m n : Nat} (q : Mug h m) (hn : n ≤ 12) : ∃ (f : Dw.Fo) (h' : Hs), G__law_row [.loc m, .int n] h = .ok (.str (Dw.word f)) h' ∧ Dw.sz f = 2 * n ∧ Kp m h h' := by
  suffices hh : ∃ (s : List Nat) (h' : Hs), G__law_row [.loc m, .int n] h = .ok (.str s) h' ∧ Dw.D 0 s ∧ s.length = 2 * n ∧ Kp m h h' by
    obtain ⟨s, h', a, b, c, d⟩ := hh
    obtain ⟨f, rfl⟩ := Dw.row_of_D b
    exact ⟨f, h', a, by rw [← Dw.word_len, c], d⟩
  rw [q__law_row]
  have rg : ∀ e1 e2 e3 e4, sRg1 (sCons (s2 kMul (sK (.int 2)) (sVar 1)) sNil) [some (.loc m), some (.int n), e1, e2, e3, e4] h = .ok (srcR 0 (2 * n), 2 * n) h := fun _ _ _ _ => rg1_ok (by simp [kMul]) (by omega)
  simp [runB_ap, b__law_row, rg]
  generalize hL : loop _ _ _ _ _ _ = L
  obtain ⟨e', h', rfl, hi, lf, pre, z, rfl, b1, b3, b4, b5⟩ := loop_gen hL (fun i e h' => ∃ (hi lf : Nat) (pre : List Nat) (z : Option Va), e = [some (.loc m), some (.int n), some (.str pre), some (.int (hi : Nat)), some (.int (lf : Nat)), z] ∧ hi + i + 2 * lf = 2 * n ∧ pre.length = i ∧ (∀ s, Dw.D hi s → Dw.D 0 (pre ++ s)) ∧ Kp m h h')
    ⟨0, n, [], none, by simp, by omega, rfl, fun s d => d, .refl q⟩ (by
      rintro i e h1 hi ⟨ht, lf, pre, z, rfl, b1, b3, b4, k⟩
      have co : ∀ h2, Kp m h h2 → 0 < lf → ∃ (hi' lf' : Nat) (pre' : List Nat) (z' : Option Va), ([some (.loc m), some (.int n), some (.str (pre ++ [40])), some (.int ((ht : Int) + 1)), some (.int ((lf : Int) - 1)), some (.int (i : Nat))] : En) = [some (.loc m), some (.int n), some (.str pre'), some (.int (hi' : Nat)), some (.int (lf' : Nat)), z'] ∧ hi' + (i + 1) + 2 * lf' = 2 * n ∧ pre'.length = i + 1 ∧ (∀ s, Dw.D hi' s → Dw.D 0 (pre' ++ s)) ∧ Kp m h h2 := fun h2 k2 l =>
        ⟨ht + 1, lf - 1, pre ++ [40], some (.int (i : Nat)), by simp; omega, by omega, by simp [b3], fun s d => by simpa using b4 (40 :: s) (.inl ⟨rfl, d⟩), k2⟩
      have cc : ∀ h2, Kp m h h2 → 0 < ht → ∃ (hi' lf' : Nat) (pre' : List Nat) (z' : Option Va), ([some (.loc m), some (.int n), some (.str (pre ++ [41])), some (.int ((ht : Int) - 1)), some (.int (lf : Nat)), some (.int (i : Nat))] : En) = [some (.loc m), some (.int n), some (.str pre'), some (.int (hi' : Nat)), some (.int (lf' : Nat)), z'] ∧ hi' + (i + 1) + 2 * lf' = 2 * n ∧ pre'.length = i + 1 ∧ (∀ s, Dw.D hi' s → Dw.D 0 (pre' ++ s)) ∧ Kp m h h2 := fun h2 k2 l =>
        ⟨ht - 1, lf, pre ++ [41], some (.int (i : Nat)), by simp; omega, by omega, by simp [b3], fun s d => by simpa using b4 (41 :: s) (.inr ⟨rfl, ht - 1, by omega, d⟩), k2⟩
      have sr : srcR 0 (2 * n) i h1 = some (some (.int (i : Nat))) := by simp [hi]
      have sz : pre.length ≤ 16777215 := by omega
      by_cases l0 : lf = 0
      · refine ⟨_, _, _, sr, ?_, cc h1 k (by omega)⟩
        simp [stp, l0, sz]
      · by_cases z0 : ht = 0
        · refine ⟨_, _, _, sr, ?_, co h1 k (by omega)⟩
          simp [stp, z0, sz, show 0 < lf by omega]
        · obtain ⟨r, h2, e1, e2, e3⟩ := pour_ok k.mug (top := 2) (by decide) (by decide)
          have e1 : G__law_pour [.loc m, .int 2] h1 = .ok (.int r) h2 := e1
          by_cases r0 : r = 0
          · refine ⟨_, _, _, sr, ?_, co h2 (k.trans e3) (by omega)⟩
            simp [stp, z0, sz, e1, r0, show 0 < lf by omega]
          · refine ⟨_, _, _, sr, ?_, cc h2 (k.trans e3) (by omega)⟩
            simp [stp, z0, sz, e1, r0, show 0 < lf by omega]) (by
      rintro e h1 ⟨ht, lf, pre, z, rfl, b1, b3, b4, k⟩
      simp)
  have : hi = 0 := by omega
  subst this
  exact ⟨pre, h', by simp, by simpa using b4 [] rfl, b3, b5⟩
theorem flask_ok {ns : List Int} {k : Nat} {h : Hs} (l : ns.length ≤ 63) : ∃ a b c : Int, G__law_flask [.ros (ns.map Va.int), .int k] h = .ok (.loc h.length) (h ++ [.lst [.int a, .int b, .int c]]) := by
  suffices hh : ∃ (a b c : Int) (h' : Hs) (m : Nat), R__law_flask [.ros (ns.map Va.int), .int k] [] = .ok (.loc m) h' ∧ h'[m]? = some (.lst [.int a, .int b, .int c]) by
    obtain ⟨a, b, c, h', m, e1, e2⟩ := hh
    refine ⟨a, b, c, pureL_of ?_ e1 e2 rfl⟩
    simp only [lfL, lf, lfL_map (g := Va.int) (fun _ => rfl) ns]
    rfl
  have cell : ∃ c : Int, sIte (sBl (s2 kLt (sVar 1) (sBlt kLen (sCons (sVar 0) sNil)))) (sBlt kInt (sCons (s2 kIx (sVar 0) (sVar 1)) sNil)) (s2 kAdd (s2 kMul (sK (.int 71)) (sVar 1)) (sK (.int 29))) [some (.ros (ns.map Va.int)), some (.int k), none, none, none] [] = .ok (.int c) [] := by
    by_cases q : k < ns.length
    · refine ⟨ns[k], ?_⟩
      have : atI (ns.map Va.int) (k : Int) = some (.int ns[k]) := Fw.atI_nat (by simp [q])
      simp [lsA, q, kIx, gIx, this]
    · exact ⟨71 * k + 29, by simp [lsA, q, kMul]⟩
  obtain ⟨c, hc⟩ := cell
  have cl : (cutA ns none (some 6)).length ≤ 63 := Nat.le_trans (cut_len _ _ _) l
  have ab : ∃ a : Int, ∀ s : Int, ∀ h z, sIte (sOr (sBl (s2 kLt (sVar 2) (sK (.int 0)))) (sBl (s2 kGe (sVar 2) (s2 kPow (sK (.int 10)) (sK (.int 18)))))) (sBlt kAbs (sCons (sVar 2) sNil)) (sK (.int 0)) [some (.ros (ns.map Va.int)), some (.int k), some (.int c), some (.int s), z] h = .ok (.int a) h := by
    by_cases q : c < 0
    · exact ⟨-c, fun s h z => by simp [q]⟩
    · by_cases q2 : (10 : Int) ^ 18 ≤ c
      · exact ⟨c, fun s h z => by
          have q2 : (1000000000000000000 : Int) ≤ c := q2
          simp [q, kPow, q2]⟩
      · exact ⟨0, fun s h z => by
          have q2 : ¬ (1000000000000000000 : Int) ≤ c := q2
          simp [q, kPow, q2]⟩
  obtain ⟨a, ha⟩ := ab
  have n0 : newL ((cutA ns none (some 6)).map Va.int) [] = .ok (.loc 0) [.lst ((cutA ns none (some 6)).map Va.int)] := new_ok (by simp; omega)
  have k1 : ∀ h, kMul (.int 5009) (.int k) h = .ok (.int (5009 * k)) h := fun h => by simp [kMul]
  have k2 : ∀ h, kMul (.int c) (.int 7013) h = .ok (.int (c * 7013)) h := fun h => by simp [kMul]
  simp [-sIte_ap, runB_ap, b__law_flask, hc, kSl, cut_map, n0, k1]
  generalize hL : loop _ _ _ _ _ _ = L
  generalize hB : (cutA ns none (some 6)) = B at *
  obtain ⟨e', h', rfl, s, z, rfl, rfl⟩ := loop_gen hL (fun i e h => ∃ (s : Int) (z : Option Va), e = [some (.ros (ns.map Va.int)), some (.int k), some (.int c), some (.int s), z] ∧ h = [.lst (B.map Va.int)])
    ⟨_, _, rfl, rfl⟩ (by
      rintro i e h1 hi ⟨s, z, rfl, rfl⟩
      obtain ⟨y, ey, _⟩ := drop_cons hi
      have sr : srcL 0 i [.lst (B.map Va.int)] = some (some (.int y)) := by simp [srcL, ey]
      refine ⟨_, _, _, sr, ?_, (s * 32009 + y) % 2147482811, some (.int y), rfl, rfl⟩
      simp [stp, kMul, kInt, kMod]) (by
      rintro e h1 ⟨s, z, rfl, rfl⟩
      simp [srcL])
  simp [-sIte_ap, k2, kInt, kMod, ha, newL]
  exact ⟨_, _, _, _, _, ⟨rfl, rfl⟩, rfl⟩
end Fk

set_option Elab.async false
set_option linter.all false
set_option maxRecDepth 100000
set_option maxHeartbeats 4000000
set_option autoImplicit false
namespace Fw
open PySem PySem.Spec L2
open PyProof.Rows hiding St
open Pg
theorem srcC_at {lo c : Int} {n i : Nat} {h : Hs} (l : i < n) : srcC lo c n i h = some (some (.int (lo + (i : Nat) * c))) := if_pos l
theorem srcC_end {lo c : Int} {n : Nat} {h : Hs} : srcC lo c n n h = some none := if_neg (Nat.lt_irrefl _)
end Fw
namespace Un
open PySem PySem.Spec L2 Fw Pg Fd
open PyProof.Rows hiding St
theorem q__law_ladle : G__law_ladle = R__law_ladle := by unfold G__law_ladle; rfl
theorem q__law_of : G__law_of = R__law_of := by unfold G__law_of; rfl
theorem ladle_ok {h : Hs} {m top : Nat} (q : Mug h m) (t0 : 0 < top) (t1 : top < 1073741824) : ∃ (r : Nat) (h' : Hs), G__law_ladle [.loc m, .int (top : Nat)] h = .ok (.int (r : Nat)) h' ∧ r < top ∧ Kp m h h' := by
  rw [q__law_ladle]
  have t2 : (0 : Int) < top := by omega
  have t3 : (top : Int) < 1073741824 := by omega
  obtain ⟨a, b, c, e⟩ := q
  have hl := (List.getElem?_eq_some_iff.mp e).1
  have fin : ∀ (x : Int) (a b c : Int), ∃ (r : Nat) (h' : Hs), (x % top = (r : Int) ∧ h.set m (.lst [.int a, .int b, .int c]) = h') ∧ r < top ∧ Kp m h h' := fun x a' b' c' => by
    have h1 := Int.emod_nonneg x (b := (top : Int)) (by omega)
    have h2 := Int.emod_lt_of_pos x t2
    exact ⟨(x % top).toNat, _, ⟨(Int.toNat_of_nonneg h1).symm, rfl⟩, by omega, Kp.set ⟨a, b, c, e⟩ a' b' c'⟩
  have s2 : ∀ x : Ob, (h.set m x)[m]? = some x := fun x => by simp [hl]
  have i0 : ∀ a b c : Va, kIx (.loc m) (.int 0) (h.set m (.lst [a, b, c])) = .ok a (h.set m (.lst [a, b, c])) := fun a b c => ix_loc0 (s2 _)
  have i1 : ∀ a b c : Va, kIx (.loc m) (.int 1) (h.set m (.lst [a, b, c])) = .ok b (h.set m (.lst [a, b, c])) := fun a b c => ix_loc1 (s2 _)
  have i2 : ∀ a b c : Va, kIx (.loc m) (.int 2) (h.set m (.lst [a, b, c])) = .ok c (h.set m (.lst [a, b, c])) := fun a b c => ix_loc2 (s2 _)
  have k0 : ∀ x : Va, kSet (.loc m) (.int 0) x h = some (h.set m (.lst [x, .int b, .int c])) := fun x => ks3_0 e
  have k1 : ∀ a b c x : Va, kSet (.loc m) (.int 1) x (h.set m (.lst [a, b, c])) = some (h.set m (.lst [a, x, c])) := fun a b c x => by rw [ks3_1 (s2 _), List.set_set]
  have k2 : ∀ x : Va, kSet (.loc m) (.int 2) x h = some (h.set m (.lst [.int a, .int b, x])) := fun x => ks3_2 e
  have m1 : ∀ x h, kMul (.int x) (.int 47017) h = .ok (.int (x * 47017)) h := fun x h => by simp [kMul]
  have m2 : ∀ y h, kMul (.int 31) (.int y) h = .ok (.int (31 * y)) h := fun y h => by simp [kMul]
  by_cases a0 : 0 < a
  · simp [runB_ap, b__law_ladle, gSb_ap, ix_loc0 e, ix_loc1 e, ix_loc2 e, i0, i1, i2, k0, k1, k2, m1, m2, kInt, kMod, kFdv, kDvm, a0, t0, t1, t2, t3]
    exact fin _ _ _ _
  · simp [runB_ap, b__law_ladle, gSb_ap, ix_loc0 e, ix_loc1 e, ix_loc2 e, i0, i1, i2, k0, k1, k2, m1, m2, kInt, kMod, kFdv, kDvm, a0, t0, t1, t2, t3]
    exact fin _ _ _ _
theorem of_ok {h : Hs} {m r : Nat} {xs : List Va} (q : Mug h m) (hr : h[r]? = some (.lst xs)) (rm : r ≠ m) (x0 : 0 < xs.length) (x1 : xs.length < 1073741824) : ∃ (x : Va) (h' : Hs), G__law_of [.loc m, .loc r] h = .ok x h' ∧ x ∈ xs ∧ Kp m h h' := by
  obtain ⟨j, h', e, jl, k⟩ := ladle_ok q x0 x1
  refine ⟨xs[j], h', ?_, List.getElem_mem _, k⟩
  rw [q__law_of]
  simp [runB_ap, b__law_of, lsA, hr, e, ix_loc (k.old r _ rm hr) (List.getElem?_eq_getElem jl)]
theorem perm_erase {xs : List Nat} {j : Nat} (l : j < xs.length) : (xs[j] :: xs.eraseIdx j).Perm xs := by
  rw [List.eraseIdx_eq_take_drop_succ]
  have : xs = xs.take j ++ xs[j] :: xs.drop (j + 1) := by rw [List.getElem_cons_drop, List.take_append_drop]
  exact (List.perm_middle.symm).trans (.of_eq this.symm)
end Un

set_option Elab.async false
set_option linter.all false
set_option maxRecDepth 100000
set_option maxHeartbeats 4000000
set_option autoImplicit false
namespace Fd
end Fd
namespace Un
open PySem PySem.Spec L2 Fw Pg Fd Sp
open PyProof.Rows hiding St
end Un

set_option Elab.async false
set_option linter.all false
set_option maxRecDepth 100000
set_option maxHeartbeats 4000000
set_option autoImplicit false
namespace Fd
/-- a piece more, laid in -/
def ins (q : List Nat) (n k : Nat) : List Nat := q.take k ++ n :: q.drop k
variable {n k : Nat} {q : List Nat}
theorem ins_perm (q : List Nat) (n k : Nat) : (ins q n k).Perm (n :: q) := by
  unfold ins
  refine List.perm_middle.trans ?_
  rw [List.take_append_drop]
theorem PP.ins (p : PP n q) (k : Nat) : PP (n + 1) (ins q n k) := by
  have pm := ins_perm q n k
  refine ⟨by rw [pm.length_eq, List.length_cons, p.len], pm.nodup_iff.mpr (List.nodup_cons.mpr ⟨fun w => Nat.lt_irrefl _ (p.lt n w), p.nd⟩), fun x hx => ?_⟩
  rcases List.mem_cons.mp (pm.mem_iff.mp hx) with rfl | w
  · omega
  · have := p.lt x w; omega
def up (k x : Nat) : Nat := if x < k then x else x + 1
theorem up_lt (k x y : Nat) : up k x < up k y ↔ x < y := by
  unfold up
  split <;> split <;> omega
theorem up_min (k x y : Nat) : min (up k x) (up k y) = up k (min x y) := by
  unfold up
  split <;> split <;> split <;> omega
theorem up_max (k x y : Nat) : max (up k x) (up k y) = up k (max x y) := by
  unfold up
  split <;> split <;> split <;> omega
theorem PP.pos_ins (p : PP n q) (hk : k ≤ n) {x : Nat} (hx : x < n) : pos (Fd.ins q n k) x = up k (pos q x) := by
  have l := p.pos_lt hx
  have e := p.at_pos hx
  refine (p.ins k).pos_at ?_
  unfold Fd.ins up
  by_cases c : pos q x < k
  · rw [if_pos c, List.getElem?_append_left (by rw [List.length_take, p.len]; omega), List.getElem?_take_of_lt c, e]
  · rw [if_neg c, List.getElem?_append_right (by rw [List.length_take, p.len]; omega), List.length_take, p.len, Nat.min_eq_left hk]
    rw [show pos q x + 1 - k = (pos q x - k) + 1 by omega, List.getElem?_cons_succ, List.getElem?_drop, show k + (pos q x - k) = pos q x by omega, e]
theorem PP.pos_new (p : PP n q) (hk : k ≤ n) : pos (Fd.ins q n k) n = k := by
  refine (p.ins k).pos_at ?_
  unfold Fd.ins
  rw [List.getElem?_append_right (by rw [List.length_take, p.len]; omega), List.length_take, p.len, Nat.min_eq_left hk, Nat.sub_self]
  rfl
theorem cr_ins (p : PP n q) (hk : k ≤ n) {c d : Nat} (hc : c + 1 < n) (hd : d + 1 < n) : cr (ins q n k) c d = cr q c d := by
  unfold cr
  simp only [p.pos_ins hk (show c < n by omega), p.pos_ins hk hc, p.pos_ins hk (show d < n by omega), p.pos_ins hk hd, up_min, up_max, up_lt]
/-- whether the piece may be laid in there -/
def kpB (q : List Nat) (n k : Nat) : Bool := (List.range ((n - 1) / 2)).all fun i => !cr (ins q n k) (n - 3 - 2 * i) (n - 1)
theorem NX.ins (p : PP n q) (hk : k ≤ n) (x : NX n q) (b : kpB q n k = true) : NX (n + 1) (ins q n k) := by
  intro c d cd dl pr
  by_cases e : d = n - 1
  · subst e
    have := List.all_eq_true.mp b ((n - 3 - c) / 2) (List.mem_range.mpr (by omega))
    rw [show n - 3 - 2 * ((n - 3 - c) / 2) = c by omega] at this
    simpa using this
  · rw [cr_ins p hk (by omega) (by omega)]
    exact x c d cd (by omega) pr
end Fd
namespace Un
open PySem PySem.Spec L2 Fw Pg Fd Sp
open PyProof.Rows hiding St
end Un

set_option Elab.async false
set_option linter.all false
set_option maxRecDepth 100000
set_option maxHeartbeats 4000000
set_option autoImplicit false
namespace Fd
variable {n : Nat} {q : List Nat}
def lo (q : List Nat) (c : Nat) : Nat := min (pos q c) (pos q (c + 1))
def hi (q : List Nat) (c : Nat) : Nat := max (pos q c) (pos q (c + 1))
/-- the signs of a side after its first creases -/
def sg (n : Nat) (q : List Nat) (s : Nat) : Nat → List Nat
  | 0 => List.replicate n 46
  | i + 1 => ((sg n q s i).set (lo q (s + 2 * i)) 40).set (hi q (s + 2 * i)) 41
theorem sg_len (s : Nat) : ∀ i, (sg n q s i).length = n
  | 0 => by simp [sg]
  | i + 1 => by simp [sg, sg_len s i]
def aL (q : List Nat) (s i x : Nat) : Bool := (List.range i).any fun j => decide (lo q (s + 2 * j) = x)
def aR (q : List Nat) (s i x : Nat) : Bool := (List.range i).any fun j => decide (hi q (s + 2 * j) = x)
theorem aL_iff {s i x : Nat} : aL q s i x = true ↔ ∃ j, j < i ∧ lo q (s + 2 * j) = x := by
  unfold aL; simp [List.any_eq_true]
theorem aR_iff {s i x : Nat} : aR q s i x = true ↔ ∃ j, j < i ∧ hi q (s + 2 * j) = x := by
  unfold aR; simp [List.any_eq_true]
theorem aL_s (s i x : Nat) : aL q s (i + 1) x = (aL q s i x || decide (lo q (s + 2 * i) = x)) := by
  unfold aL; simp [List.range_succ]
theorem aR_s (s i x : Nat) : aR q s (i + 1) x = (aR q s i x || decide (hi q (s + 2 * i) = x)) := by
  unfold aR; simp [List.range_succ]
theorem PP.lohi (p : PP n q) {c : Nat} (h : c + 1 < n) : lo q c < hi q c ∧ hi q c < n := by
  have a := p.pos_lt (show c < n by omega)
  have b := p.pos_lt h
  have : pos q c ≠ pos q (c + 1) := fun e => by have := p.inj (show c < n by omega) h e; omega
  unfold lo hi
  omega
/-- feet of two creases of one side are four -/
theorem PP.ne4 (p : PP n q) {c d : Nat} (h : c + 1 < d) (l : d + 1 < n) : lo q c ≠ lo q d ∧ lo q c ≠ hi q d ∧ hi q c ≠ lo q d ∧ hi q c ≠ hi q d := by
  have f : ∀ x y, x < n → y < n → x ≠ y → pos q x ≠ pos q y := fun x y hx hy ne e => ne (p.inj hx hy e)
  have a := f c d (by omega) (by omega) (by omega)
  have b := f c (d + 1) (by omega) (by omega) (by omega)
  have c' := f (c + 1) d (by omega) (by omega) (by omega)
  have d' := f (c + 1) (d + 1) (by omega) (by omega) (by omega)
  unfold lo hi
  omega
theorem PP.ne4' (p : PP n q) {s i j : Nat} (h : i ≠ j) (hi' : s + 2 * i + 1 < n) (hj : s + 2 * j + 1 < n) : lo q (s + 2 * i) ≠ lo q (s + 2 * j) ∧ lo q (s + 2 * i) ≠ hi q (s + 2 * j) ∧ hi q (s + 2 * i) ≠ lo q (s + 2 * j) ∧ hi q (s + 2 * i) ≠ hi q (s + 2 * j) := by
  rcases Nat.lt_or_gt_of_ne h with w | w
  · exact p.ne4 (by omega) (by omega)
  · obtain ⟨a, b, c, d⟩ := p.ne4 (c := s + 2 * j) (d := s + 2 * i) (by omega) (by omega)
    exact ⟨a.symm, c.symm, b.symm, d.symm⟩
/-- what stands at a place -/
theorem sg_at (p : PP n q) (s : Nat) : ∀ i, s + 2 * i ≤ n ∨ i = 0 → ∀ x, x < n → (sg n q s i)[x]? = some (if aL q s i x = true then 40 else if aR q s i x = true then 41 else 46)
  | 0, _, x, hx => by
    simp [sg, aL, aR, hx]
  | i + 1, h, x, hx => by
    have ih := sg_at p s i (by omega) x hx
    have l : s + 2 * i + 1 < n := by omega
    obtain ⟨l1, l2⟩ := p.lohi l
    have sl := sg_len (n := n) (q := q) s i
    unfold sg
    rw [aL_s, aR_s]
    by_cases e2 : hi q (s + 2 * i) = x
    · subst e2
      rw [List.getElem?_set_self (by simp [sl]; omega)]
      have f : aL q s i (hi q (s + 2 * i)) = false := by
        rw [Bool.eq_false_iff]
        intro w
        obtain ⟨j, jl, e⟩ := aL_iff.mp w
        exact (p.ne4' (s := s) (i := j) (j := i) (by omega) (by omega) (by omega)).2.1 e
      rw [f, decide_eq_false (by omega)]
      simp
    · rw [List.getElem?_set_ne e2]
      by_cases e1 : lo q (s + 2 * i) = x
      · subst e1
        rw [List.getElem?_set_self (by simp [sl]; omega)]
        simp
      · rw [List.getElem?_set_ne e1, ih, decide_eq_false e1, decide_eq_false e2, Bool.or_false, Bool.or_false]
/-! ### heights -/
def vl (c : Nat) : Int := if c = 40 then 1 else if c = 41 then -1 else 0
def H : List Nat → Nat → Int
  | _, 0 => 0
  | [], _ + 1 => 0
  | y :: ys, x + 1 => vl y + H ys x
end Fd

set_option Elab.async false
set_option linter.all false
set_option maxRecDepth 100000
set_option maxHeartbeats 4000000
set_option autoImplicit false
namespace Fw
open PySem PySem.Spec L2
open PyProof.Rows hiding St
end Fw
namespace Sp
open PySem PySem.Spec L2 Fw Pg Fd
open PyProof.Rows hiding St
end Sp

set_option Elab.async false
set_option linter.all false
set_option maxRecDepth 100000
set_option maxHeartbeats 2000000
set_option autoImplicit false
namespace Lawk25
open PySem PySem.Spec L2 Fw Pg Sp Un
open PyProof.Rows hiding St
def b__law_matched : Ss :=
  (seq (sSet 1 (sK (.int 0)))
  (seq (sFor (sItr (sVar 0)) (gNm 2)
  (seq (sSet 1 (s2 kAdd (sVar 1) (sIte (sBl (s2 kEq (sVar 2) (sK (.str [40])))) (sK (.int 1)) (sIte (sBl (s2 kEq (sVar 2) (sK (.str [41])))) (s1 kNeg (sK (.int 1))) (sK (.int 0))))))
  (sIf (sBl (s2 kLt (sVar 1) (sK (.int 0))))
  (sRet (sK (.bl false)))
  skip)))
  (sRet (s2 kEq (sVar 1) (sK (.int 0))))))
abbrev R__law_matched : Fn := runB 3 b__law_matched
def G__law_matched : Fn := pureF R__law_matched
def b__law_side_arches : Ss :=
  (seq (sPar [1, 2] (sCons (sLst sNil) (sCons (sLst sNil) sNil)))
  (seq (sFor (sRg1 (sCons (sBlt kLen (sCons (sVar 0) sNil)) sNil)) (gNm 3)
  (seq (sIf (sBl (s2 kEq (s2 kIx (sVar 0) (sVar 3)) (sK (.str [40]))))
  (sDrop (sMth "list" kApp (sVar 1) (sCons (sVar 3) sNil)))
  skip)
  (sIf (sBl (s2 kEq (s2 kIx (sVar 0) (sVar 3)) (sK (.str [41]))))
  (sDrop (sMth "list" kApp (sVar 2) (sCons (sTup (sCons (sMth "list" kPop (sVar 1) sNil) (sCons (sVar 3) sNil))) sNil)))
  skip)))
  (sRet (sBlt kSrtP (sCons (sVar 2) sNil)))))
abbrev R__law_side_arches : Fn := runB 4 b__law_side_arches
def G__law_side_arches : Fn := pureF R__law_side_arches
def b__law_two_sides : Ss :=
  (seq (sPar [1, 2] (sCons (sCall G__law_places 1 [0] (sCons (sVar 0) sNil)) (sCons (sLst (sCons (s2 kMul (sLst (sCons (sK (.str [46])) sNil)) (sBlt kLen (sCons (sVar 0) sNil))) (sCons (s2 kMul (sLst (sCons (sK (.str [46])) sNil)) (sBlt kLen (sCons (sVar 0) sNil))) sNil))) sNil)))
  (seq (sFor (sRg1 (sCons (s2 kSub (sBlt kLen (sCons (sVar 0) sNil)) (sK (.int 1))) sNil)) (gNm 3)
  (seq (sAsg (sBlt kSrtI (sCons (sLst (sCons (s2 kIx (sVar 1) (sVar 3)) (sCons (s2 kIx (sVar 1) (s2 kAdd (sVar 3) (sK (.int 1)))) sNil))) sNil)) (gTp 2 (gsCons (gNm 4) (gsCons (gNm 5) gsNil))))
  (sAsg (sTup (sCons (sK (.str [40])) (sCons (sK (.str [41])) sNil))) (gTp 2 (gsCons (gSb (s2 kIx (sVar 2) (s2 kMod (sBlt kInt (sCons (sVar 3) sNil)) (sK (.int 2)))) (sVar 4)) (gsCons (gSb (s2 kIx (sVar 2) (s2 kMod (sBlt kInt (sCons (sVar 3) sNil)) (sK (.int 2)))) (sVar 5)) gsNil))))))
  (sRet (sTup (sCons (sMth "str" kJoin (sK (.str [])) (sCons (s2 kIx (sVar 2) (sK (.int 0))) sNil)) (sCons (sMth "str" kJoin (sK (.str [])) (sCons (s2 kIx (sVar 2) (sK (.int 1))) sNil)) sNil))))))
abbrev R__law_two_sides : Fn := runB 6 b__law_two_sides
def G__law_two_sides : Fn := pureF R__law_two_sides
def b__law_folding_right : Ss :=
  (seq (sSet 1 (sCall G__law_two_sides 1 [0] (sCons (sVar 0) sNil)))
  (seq (sIf (sOr (sBl (s2 kNe (sBlt kRpr (sCons (sLst (sCons (sCall G_sides 1 [0] (sCons (sVar 0) sNil)) (sCons (sCallK G_sides 0 1 [0] sNil (sCons (sVar 0) sNil)) sNil))) sNil)) (sBlt kRpr (sCons (sLst (sCons (sVar 1) (sCons (sVar 1) sNil))) sNil)))) (sNot (sTru (sBlt kAll (sCons (sLc (sItr (sVar 1)) (gNm 5) tru (sCall G__law_matched 1 [0] (sCons (sVar 5) sNil)) [5]) sNil)))))
  (sRet (sK (.bl false)))
  skip)
  (seq (sSet 2 (sCall G__law_places 1 [0] (sCons (sVar 0) sNil)))
  (seq (sFor (sRg1 (sCons (sK (.int 2)) sNil)) (gNm 3)
  (seq (sSet 4 (sLc (sRg3 (sCons (sVar 3) (sCons (s2 kSub (sBlt kLen (sCons (sVar 0) sNil)) (sK (.int 1))) (sCons (sK (.int 2)) sNil)))) (gNm 6) tru (sBlt kTpl (sCons (sBlt kSrtM (sCons (sLst (sCons (s2 kIx (sVar 2) (sVar 6)) (sCons (s2 kIx (sVar 2) (s2 kAdd (sVar 6) (sK (.int 1)))) sNil))) sNil)) sNil)) [6]))
  (sIf (sBl (s2 kNe (sCall G__law_side_arches 1 [0] (sCons (s2 kIx (sCall G_sides 1 [0] (sCons (sVar 0) sNil)) (sVar 3)) sNil)) (sBlt kSrtM (sCons (sVar 4) sNil))))
  (sRet (sK (.bl false)))
  skip)))
  (sRet (sK (.bl true)))))))
abbrev R__law_folding_right : Fn := runB 7 b__law_folding_right
def G__law_folding_right : Fn := pureF R__law_folding_right
def b__law_right : Ss :=
  (seq (sFor (sRg1 (sCons (sK (.int 9)) sNil)) (gNm 1)
  (seq (sSet 2 (s2 kAdd (sK (.int 1)) (sCall G__law_ladle 2 [0, 1] (sCons (sVar 0) (sCons (sK (.int 8)) sNil)))))
  (seq (sSet 3 (sIte (sBl (s2 kLt (sVar 1) (sK (.int 6)))) (sCall G__law_pile 2 [0, 1] (sCons (sVar 0) (sCons (sVar 2) sNil))) (sCall G__law_folding 2 [0, 1] (sCons (sVar 0) (sCons (sVar 2) sNil)))))
  (seq (sSet 4 (sCall G__law_first_bad 1 [0] (sCons (sVar 3) sNil)))
  (seq (sIf (sBl (s2 kNe (sBlt kRpr (sCons (sLst (sCons (sCall G_crossing 1 [0] (sCons (sVar 3) sNil)) (sCons (sCallK G_crossing 0 1 [0] sNil (sCons (sVar 3) sNil)) sNil))) sNil)) (sBlt kRpr (sCons (sLst (sCons (sVar 4) (sCons (sVar 4) sNil))) sNil))))
  (sRet (sK (.bl false)))
  skip)
  (seq (sIf (sOr (sBl (s2 kNe (sCall G_is_folding 1 [0] (sCons (sVar 3) sNil)) (s2 (kIs false) (sVar 4) (sK .non)))) (sAnd (sBl (s2 kGt (sVar 1) (sK (.int 5)))) (sBl (s2 (kIs true) (sVar 4) (sK .non)))))
  (sRet (sK (.bl false)))
  skip)
  (sIf (sAnd (sBl (s2 (kIs false) (sVar 4) (sK .non))) (sNot (sTru (sCall G__law_folding_right 1 [0] (sCons (sVar 3) sNil)))))
  (sRet (sK (.bl false)))
  skip)))))))
  (sRet (sK (.bl true))))
abbrev R__law_right : Fn := runB 5 b__law_right
@[irreducible] def G__law_right : Fn := R__law_right
theorem g__law_right (xs : List Va) (h : Hs) (_ : xs.length = 1) (_ : G__law_right xs h ≠ .bad) : R__law_right xs h = G__law_right xs h := by unfold G__law_right; rfl
def b_law : Ss :=
  (sRet (sBlt kAll (sCons (sLc (sRg1 (sCons (sBlt kMax (sCons (sK (.int 2)) (sCons (sBlt kMin (sCons (sBlt kLen (sCons (sVar 0) sNil)) (sCons (sK (.int 5)) sNil))) sNil))) sNil)) (gNm 1) tru (sCall G__law_right 1 [0] (sCons (sCall G__law_urn 2 [0, 1] (sCons (sVar 0) (sCons (sVar 1) sNil))) sNil)) [1]) sNil)))
abbrev R_law : Fn := runB 2 b_law
end Lawk25

set_option Elab.async false
set_option linter.all false
set_option maxRecDepth 100000
set_option maxHeartbeats 4000000
set_option autoImplicit false
namespace Lawk25
open PySem PySem.Spec L2 Fw Pg Sp Un Fd
open PyProof.Rows hiding St
end Lawk25

set_option Elab.async false
set_option linter.all false
set_option maxRecDepth 100000
set_option maxHeartbeats 4000000
set_option autoImplicit false
namespace Dw
end Dw
namespace Mg
open PySem PySem.Spec L2 Fw Pg
open PyProof.Rows hiding St
open Dw (Mt it2 fts walk srtN rgo rds mt Clo)
end Mg

set_option Elab.async false
set_option linter.all false
set_option maxRecDepth 100000
set_option maxHeartbeats 4000000
set_option autoImplicit false
namespace Fd
variable {n : Nat} {q : List Nat}
/-- the arches of a side -/
def arc (q : List Nat) (s j : Nat) : Nat × Nat := (lo q (s + 2 * j), hi q (s + 2 * j))
theorem NX.non (x : NX n q) {s i j : Nat} (h : i ≠ j) (hi' : s + 2 * i + 1 < n) (hj : s + 2 * j + 1 < n) : ¬ (lo q (s + 2 * i) < lo q (s + 2 * j) ∧ lo q (s + 2 * j) < hi q (s + 2 * i) ∧ hi q (s + 2 * i) < hi q (s + 2 * j)) := by
  intro w
  obtain ⟨w1, w2, w3⟩ := w
  rcases Nat.lt_or_gt_of_ne h with c | c
  · have := x (s + 2 * i) (s + 2 * j) (by omega) (by omega) (by omega)
    unfold cr at this
    unfold lo at w1 w2; unfold hi at w2 w3
    simp only [decide_eq_true w1, decide_eq_true w2, decide_eq_true w3] at this
    simp at this
  · have := x (s + 2 * j) (s + 2 * i) (by omega) (by omega) (by omega)
    unfold cr at this
    unfold lo at w1 w2; unfold hi at w2 w3
    simp only [decide_eq_true w1, decide_eq_true w2, decide_eq_true w3] at this
    simp at this
structure Stk (q : List Nat) (s N x : Nat) (st : List Nat) : Prop where
  up : st.Pairwise (· < ·)
  mem : ∀ y, y ∈ st ↔ ∃ j, j < N ∧ lo q (s + 2 * j) = y ∧ y < x ∧ x ≤ hi q (s + 2 * j)
structure Fnd (q : List Nat) (s N x : Nat) (fd : List (Nat × Nat)) : Prop where
  nd : fd.Nodup
  mem : ∀ y, y ∈ fd ↔ ∃ j, j < N ∧ arc q s j = y ∧ hi q (s + 2 * j) < x
theorem last_mem {st : List Nat} {m : Nat} (u : st.Pairwise (· < ·)) (h : m ∈ st) (b : ∀ y ∈ st, y ≤ m) : ∃ s1, st = s1 ++ [m] := by
  obtain ⟨s1, s2, rfl⟩ := List.append_of_mem h
  cases s2 with
  | nil => exact ⟨s1, rfl⟩
  | cons z s2 =>
    have u2 := (List.pairwise_append.mp u).2.1
    have := (List.pairwise_cons.mp u2).1 z (by simp)
    have := b z (by simp)
    omega
section
variable {s N x : Nat} {st : List Nat} {fd : List (Nat × Nat)}
theorem Stk.open (p : PP n q) (hN : s + 2 * N ≤ n ∨ N = 0) (k : Stk q s N x st) {j : Nat} (hj : j < N) (e : lo q (s + 2 * j) = x) : Stk q s N (x + 1) (st ++ [x]) := by
  refine ⟨?_, fun y => ?_⟩
  · rw [List.pairwise_append]
    refine ⟨k.up, List.pairwise_singleton _ _, fun a ha b hb => ?_⟩
    rw [List.mem_singleton] at hb
    obtain ⟨_, _, _, h, _⟩ := (k.mem a).mp ha
    omega
  · rw [List.mem_append, k.mem, List.mem_singleton]
    constructor
    · rintro (⟨i, a, b, c, d⟩ | rfl)
      · refine ⟨i, a, b, by omega, ?_⟩
        have ne : i ≠ j := fun w => by subst w; omega
        have := (p.ne4' (s := s) ne (by omega) (by omega)).2.2.1
        omega
      · have := (p.lohi (c := s + 2 * j) (by omega)).1
        exact ⟨j, hj, e, by omega, by omega⟩
    · rintro ⟨i, a, b, c, d⟩
      by_cases w : y = x
      · exact .inr w
      · exact .inl ⟨i, a, b, by omega, by omega⟩
theorem Stk.close (p : PP n q) (nx : NX n q) (hN : s + 2 * N ≤ n ∨ N = 0) (k : Stk q s N x st) {j : Nat} (hj : j < N) (e : hi q (s + 2 * j) = x) : ∃ s1, st = s1 ++ [lo q (s + 2 * j)] ∧ Stk q s N (x + 1) s1 := by
  have lh := (p.lohi (c := s + 2 * j) (by omega)).1
  have m : lo q (s + 2 * j) ∈ st := (k.mem _).mpr ⟨j, hj, rfl, by omega, by omega⟩
  obtain ⟨s1, rfl⟩ := last_mem k.up m (fun y hy => by
    obtain ⟨i, a, b, c, d⟩ := (k.mem y).mp hy
    by_cases w : i = j
    · subst w; omega
    · have n4 := p.ne4' (s := s) w (by omega) (by omega)
      have := nx.non (s := s) (i := j) (j := i) (fun w' => w w'.symm) (by omega) (by omega)
      omega)
  refine ⟨s1, rfl, (List.pairwise_append.mp k.up).1, fun y => ?_⟩
  have up2 := (List.pairwise_append.mp k.up).2.2
  constructor
  · intro hy
    have lt := up2 y hy (lo q (s + 2 * j)) (by simp)
    obtain ⟨i, a, b, c, d⟩ := (k.mem y).mp (by simp [hy])
    have w : i ≠ j := fun w => by subst w; omega
    have n4 := p.ne4' (s := s) w (by omega) (by omega)
    exact ⟨i, a, b, by omega, by omega⟩
  · rintro ⟨i, a, b, c, d⟩
    have w : i ≠ j := fun w => by subst w; omega
    have n4 := p.ne4' (s := s) w (by omega) (by omega)
    have := (k.mem y).mpr ⟨i, a, b, by omega, by omega⟩
    rcases List.mem_append.mp this with h | h
    · exact h
    · rw [List.mem_singleton] at h
      omega
theorem Stk.skip (p : PP n q) (hN : s + 2 * N ≤ n ∨ N = 0) (k : Stk q s N x st) (a : aL q s N x = false) (b : aR q s N x = false) : Stk q s N (x + 1) st := by
  refine ⟨k.up, fun y => ?_⟩
  rw [k.mem]
  constructor
  · rintro ⟨i, h, c, d, e⟩
    have : hi q (s + 2 * i) ≠ x := fun w => by
      rw [aR_iff.mpr ⟨i, h, w⟩] at b
      simp at b
    exact ⟨i, h, c, by omega, by omega⟩
  · rintro ⟨i, h, c, d, e⟩
    have : lo q (s + 2 * i) ≠ x := fun w => by
      rw [aL_iff.mpr ⟨i, h, w⟩] at a
      simp at a
    exact ⟨i, h, c, by omega, by omega⟩
theorem Fnd.close (p : PP n q) (hN : s + 2 * N ≤ n ∨ N = 0) (k : Fnd q s N x fd) {j : Nat} (hj : j < N) (e : hi q (s + 2 * j) = x) : Fnd q s N (x + 1) (fd ++ [(lo q (s + 2 * j), x)]) := by
  refine ⟨?_, fun y => ?_⟩
  · rw [List.nodup_append]
    refine ⟨k.nd, by simp, fun a ha b hb => ?_⟩
    rw [List.mem_singleton] at hb
    obtain ⟨i, h1, h2, h3⟩ := (k.mem a).mp ha
    intro w
    rw [hb, ← h2] at w
    unfold arc at w
    have := congrArg Prod.snd w
    simp only [] at this
    omega
  · rw [List.mem_append, k.mem, List.mem_singleton]
    constructor
    · rintro (⟨i, a, b, c⟩ | rfl)
      · exact ⟨i, a, b, by omega⟩
      · exact ⟨j, hj, by unfold arc; rw [e], by omega⟩
    · rintro ⟨i, a, b, c⟩
      by_cases w : hi q (s + 2 * i) = x
      · have : i = j := Decidable.byContradiction fun w2 => by
          have := (p.ne4' (s := s) w2 (by omega) (by omega)).2.2.2
          omega
        subst this
        right
        rw [← b]
        unfold arc
        rw [e]
      · exact .inl ⟨i, a, b, by omega⟩
theorem Fnd.skip (k : Fnd q s N x fd) (b : aR q s N x = false) : Fnd q s N (x + 1) fd := by
  refine ⟨k.nd, fun y => ?_⟩
  rw [k.mem]
  constructor
  · rintro ⟨i, h, c, d⟩
    exact ⟨i, h, c, by omega⟩
  · rintro ⟨i, h, c, d⟩
    have : hi q (s + 2 * i) ≠ x := fun w => by
      rw [aR_iff.mpr ⟨i, h, w⟩] at b
      simp at b
    exact ⟨i, h, c, by omega⟩
theorem Fnd.all (p : PP n q) (hN : s + 2 * N ≤ n ∨ N = 0) (k : Fnd q s N n fd) : fd.Perm ((List.range N).map (arc q s)) := by
  refine (List.perm_ext_iff_of_nodup k.nd ?_).mpr fun y => ?_
  · unfold List.Nodup
    rw [List.pairwise_map]
    refine List.Pairwise.imp_of_mem (R := (· < ·)) (fun {a b} ha hb ab e => ?_) List.pairwise_lt_range
    have ha := List.mem_range.mp ha
    have hb := List.mem_range.mp hb
    have := (p.ne4' (s := s) (i := a) (j := b) (by omega) (by omega) (by omega)).1
    unfold arc at e
    exact this (congrArg Prod.fst e)
  · rw [k.mem, List.mem_map]
    constructor
    · rintro ⟨i, a, b, c⟩
      exact ⟨i, List.mem_range.mpr a, b⟩
    · rintro ⟨i, a, b⟩
      have a := List.mem_range.mp a
      exact ⟨i, a, b, (p.lohi (by omega)).2⟩
end
end Fd

set_option Elab.async false
set_option linter.all false
set_option maxRecDepth 100000
set_option maxHeartbeats 4000000
set_option autoImplicit false
namespace Lawk25
open PySem PySem.Spec L2 Fw Pg Sp Un Fd
open PyProof.Rows hiding St
theorem srtP_k {n : Nat} {ar : List (Nat × Nat)} {h : Hs} (e : h[n]? = some (.lst (ar.map vP))) (l : ar.length ≤ 1000) : kSrtP [.loc n] h = .ok (.loc h.length) (h ++ [.lst ((srtP (ar.map zP)).map pairV)]) := by
  have pr : (lsA (.loc n) h).bind (mapO pairA) = some (ar.map zP) := by
    simp only [lsA, e]
    exact mapO_some (f := pairA) (g := vP) (k := zP) (fun x => rfl) _
  simp only [kSrtP, pr]
  refine new_ok ?_
  rw [List.length_map, (srtP_perm _).length_eq, List.length_map]
  omega
end Lawk25

set_option Elab.async false
set_option linter.all false
set_option maxRecDepth 100000
set_option maxHeartbeats 2000000
set_option autoImplicit false
namespace Fw
open PySem PySem.Spec L2
open PyProof.Rows hiding St
section
variable {X : Cx}
theorem layT {ds : List PyData} (h : SeqAt.shaped (.tuple ds) = true) : PyData.canLayAll0 ds = true := by
  have := SeqAt.canLay_of_shaped h
  simpa only [PyData.canLay0] using this
end
end Fw

set_option Elab.async false
set_option linter.all false
set_option maxRecDepth 100000
set_option maxHeartbeats 2000000
set_option autoImplicit false
namespace Fw
open PySem PySem.Spec L2
open PyProof.Rows hiding St
end Fw

set_option Elab.async false
set_option linter.all false
set_option maxRecDepth 100000
set_option maxHeartbeats 2000000
set_option autoImplicit false
namespace Fw
open PySem PySem.Spec L2
open PyProof.Rows hiding St
/-! ### runs in a heap of their own, which holds the lists that are handed over -/
mutual
def vaEq : Va → Va → Bool
  | .non, .non => true
  | .bl a, .bl b => a == b
  | .int a, .int b => decide (a = b)
  | .str a, .str b => decide (a = b)
  | .fn a, .fn b => decide (a = b)
  | .tup a, .tup b => vaEqL a b
  | .tpw a, .tpw b => vaEqL a b
  | _, _ => false
def vaEqL : List Va → List Va → Bool
  | [], [] => true
  | x :: xs, y :: ys => vaEq x y && vaEqL xs ys
  | _, _ => false
end
mutual
theorem vaEq_of : ∀ {x y : Va}, vaEq x y = true → x = y
  | .non, y, e => by cases y <;> simp [vaEq] at e ⊢
  | .bl a, y, e => by cases y <;> simp [vaEq] at e ⊢; exact e
  | .int a, y, e => by cases y <;> simp [vaEq] at e ⊢; exact e
  | .str a, y, e => by cases y <;> simp [vaEq] at e ⊢; exact e
  | .fn a, y, e => by cases y <;> simp [vaEq] at e ⊢; exact e
  | .tup a, y, e => by
    cases y <;> simp only [vaEq] at e <;> first | cases e | rw [vaEqL_of e]
  | .tpw a, y, e => by
    cases y <;> simp only [vaEq] at e <;> first | cases e | rw [vaEqL_of e]
  | .ros a, y, e => by cases y <;> simp [vaEq] at e
  | .loc a, y, e => by cases y <;> simp [vaEq] at e
  | .ty a, y, e => by cases y <;> simp [vaEq] at e
  | .rg a b c, y, e => by cases y <;> simp [vaEq] at e
theorem vaEqL_of : ∀ {xs ys : List Va}, vaEqL xs ys = true → xs = ys
  | [], [], _ => rfl
  | x :: xs, y :: ys, e => by
    simp only [vaEqL, Bool.and_eq_true] at e
    rw [vaEq_of e.1, vaEqL_of e.2]
  | [], _ :: _, e => by simp [vaEqL] at e
  | _ :: _, [], e => by simp [vaEqL] at e
end
/-- the places that are handed over -/
structure Lsx (h : Hs) (ls : List Nat) : Prop where
  nd : ls.Nodup
  ok : ∀ n ∈ ls, ∃ ys, h[n]? = some (.lst ys) ∧ lfL ys = true
theorem Lsx.nil (h : Hs) : Lsx h [] := ⟨List.nodup_nil, fun n m => by simp at m⟩
section
variable {C : Ct} {ρ ρ' : List Addr} {H H' : Hp} {h h' : Hs} {ls : List Nat}
theorem XR.lf_ {x : Xn} {cls : Value} {d : Option Addr} (hl : lfL (x.fs.map (·.2)) = true) (xr : XR C ρ' H' x cls d) : XR C ρ H' x cls d := by
  obtain ⟨Cl, m1, m2, dd, vs, m3, m4, m5, m6⟩ := xr
  exact ⟨Cl, m1, m2, dd, vs, m3, m4, m5, m6.lf_ hl⟩
end
section
variable {C : Ct} {ρ : List Addr} {H : Hp} {e : En} {σ : L2.St}
end
section
variable {X : Cx} {W : WX}
end
end Fw
namespace Fw
open PySem PySem.Spec L2
open PyProof.Rows hiding St
end Fw

set_option Elab.async false
set_option linter.all false
set_option maxRecDepth 100000
set_option maxHeartbeats 4000000
set_option autoImplicit false
namespace Fw
open PySem PySem.Spec L2
open PyProof.Rows hiding St
section
variable {X : Cx}
end
end Fw

set_option Elab.async false
set_option linter.all false
set_option maxRecDepth 100000
set_option maxHeartbeats 2000000
set_option autoImplicit false
namespace Fw
open PySem PySem.Spec L2
open PyProof.Rows hiding St
end Fw

set_option Elab.async false
set_option linter.all false
set_option maxRecDepth 100000
set_option maxHeartbeats 2000000
set_option autoImplicit false
namespace Fw
open PySem PySem.Spec L2
open PyProof.Rows hiding St
/-! ### sorted, a list of tuples of numbers and texts, each place of one kind (S: where texts stand) -/
abbrev IX := Int ⊕ List Nat
def ixV : IX → V
  | .inl i => .int i
  | .inr s => .str ⟨s.toArray⟩
def shp (S : List Bool) : Nat → List IX → Bool
  | _, [] => true
  | i, .inl _ :: r => !(S.getD i false) && shp S (i + 1) r
  | i, .inr _ :: r => S.getD i false && shp S (i + 1) r
def ltIX (a b : List IX) : Bool := PyProof.Rows.lexLt itemOrd a b
def leIX (a b : List IX) : Prop := ltIX b a = false
instance (a b : List IX) : Decidable (leIX a b) := by unfold leIX; infer_instance
inductive Xps (S : List Bool) (K : PySem.W.Frag) (H : Hp) : List V → List (List IX) → Prop
  | nil : Xps S K H [] []
  | cons {t : Addr} {is : List IX} {xs : List V} {ps : List (List IX)} : SqD K H t (is.map ixV) → is ≠ [] → shp S 0 is = true → Xps S K H xs ps → Xps S K H (.ref t :: xs) (is :: ps)
theorem Xps.mem {S : List Bool} {K : PySem.W.Frag} {H : Hp} : ∀ {xs : List V} {ps : List (List IX)}, Xps S K H xs ps → ∀ x ∈ xs, ∃ t is, x = V.ref t ∧ SqD K H t (is.map ixV) ∧ is ≠ [] ∧ shp S 0 is = true
  | _, _, .nil, x, m => by simp at m
  | _, _, .cons h n e r, x, m => by
    rcases List.mem_cons.mp m with rfl | m
    · exact ⟨_, _, rfl, h, n, e⟩
    · exact Xps.mem r x m
theorem Xps.key {S : List Bool} {K : PySem.W.Frag} {H : Hp} {k : V → List IX} (hk : ∀ t is, SqD K H t (is.map ixV) → k (.ref t) = is) : ∀ {xs : List V} {ps : List (List IX)}, Xps S K H xs ps → ps = xs.map k
  | _, _, .nil => rfl
  | _, _, .cons h _ _ r => by rw [List.map_cons, hk _ _ h, ← Xps.key hk r]
theorem Xps.of_key {S : List Bool} {K : PySem.W.Frag} {H : Hp} {k : V → List IX} (hk : ∀ t is, SqD K H t (is.map ixV) → k (.ref t) = is) : ∀ {xs : List V}, (∀ x ∈ xs, ∃ t is, x = V.ref t ∧ SqD K H t (is.map ixV) ∧ is ≠ [] ∧ shp S 0 is = true) → Xps S K H xs (xs.map k)
  | [], _ => .nil
  | x :: xs, h => by
    obtain ⟨t, is, rfl, q, n, e⟩ := h x List.mem_cons_self
    rw [List.map_cons, hk t is q]
    exact .cons q n e (Xps.of_key hk fun y m => h y (List.mem_cons_of_mem _ m))
end Fw

set_option Elab.async false
set_option linter.all false
set_option maxRecDepth 100000
set_option maxHeartbeats 4000000
set_option autoImplicit false
namespace Fw
open PySem PySem.Spec L2
open PyProof.Rows hiding St
/-- all but one place stay -/
def Ko (D : Nat) (h h' : Hs) : Prop := ∀ (i : Nat) (o : Ob), i ≠ D → h[i]? = some o → h'[i]? = some o
theorem Gr.len {h h' : Hs} (g : Gr h h') : h.length ≤ h'.length := by
  obtain ⟨r, rfl⟩ := g
  rw [List.length_append]
  omega
theorem Ko.refl (D : Nat) (h : Hs) : Ko D h h := fun _ _ _ e => e
theorem Ko.trans {D : Nat} {a b c : Hs} (p : Ko D a b) (q : Ko D b c) : Ko D a c := fun i o n e => q i o n (p i o n e)
theorem Ko.gr {D : Nat} {h h' : Hs} (g : Gr h h') : Ko D h h' := fun _ _ _ e => g.at e
theorem Ko.set {D : Nat} {h : Hs} (o : Ob) : Ko D h (h.set D o) := fun i _ n e => by
  rw [List.getElem?_set_ne (Ne.symm n)]
  exact e
theorem sEnuT_k (f : Sm (List Va)) (e : En) (h : Hs) : sEnuT f e h = fwd (f e h) fun xs h' => (match xs with
  | [x] => match enT x h' with
    | some s => Rs.ok s h'
    | none => .bad
  | _ => .bad) := (rfl)
end Fw

set_option Elab.async false
set_option linter.all false
set_option maxRecDepth 100000
set_option maxHeartbeats 4000000
set_option autoImplicit false
namespace Rv
open PySem PySem.Spec L2 Fw Pg
open PyProof.Rows hiding St
open Fd (PP pos)
theorem q__joined : G__joined = R__joined := by unfold G__joined; rfl
theorem q_first_crossing : G_first_crossing = R_first_crossing := by unfold G_first_crossing; rfl
theorem q__row_with : G__row_with = R__row_with := by unfold G__row_with; rfl
theorem srtP_nat {n : Nat} {ps : List (Nat × Nat)} {h : Hs} (e : h[n]? = some (.lst (ps.map vP))) (l : ps.length ≤ 1000) : ∃ qs : List (Nat × Nat), qs.Perm ps ∧ kSrtP [.loc n] h = .ok (.loc h.length) (h ++ [.lst (qs.map vP)]) := by
  refine ⟨(srtP (ps.map zP)).map fun p => (p.1.toNat, p.2.toNat), ?_, ?_⟩
  · have := (srtP_perm (ps.map zP)).map fun p : Int × Int => (p.1.toNat, p.2.toNat)
    rw [List.map_map] at this
    have e : (fun p : Int × Int => (p.1.toNat, p.2.toNat)) ∘ zP = id := by funext p; simp [zP]
    rwa [e, List.map_id] at this
  · rw [Lawk25.srtP_k e l, List.map_map]
    have : (srtP (ps.map zP)).map pairV = (srtP (ps.map zP)).map (vP ∘ fun p => (p.1.toNat, p.2.toNat)) := List.map_congr_left fun z hz => by
      obtain ⟨q, _, rfl⟩ := List.mem_map.mp ((srtP_perm _).mem_iff.mp hz)
      simp [vP, zP, pairV]
    rw [this]
theorem joined_ok {n : Nat} {a b : Nat → Nat} {h : Hs} (l : n ≤ 100) : ∃ (ps : List (Nat × Nat)) (o : Ob), ps.Perm ((List.range n).map fun k => pr (a k) (b k)) ∧ G__joined [.tup ((List.range n).map fun k => vN (a k)), .tup ((List.range n).map fun k => vN (b k))] h = .ok (.loc (h.length + 1)) (h ++ [o, .lst (ps.map vP)]) := by
  obtain ⟨ps, pp, sp⟩ := srtP_nat (h := h ++ [.lst (((List.range n).map fun k => pr (a k) (b k)).map vP)]) (last_at h _) (by simp; omega)
  refine ⟨ps, .lst (((List.range n).map fun k => pr (a k) (b k)).map vP), pp, ?_⟩
  rw [q__joined]
  show fin (b__joined [some _, some _, none, none] h) = _
  unfold b__joined
  generalize hA : (List.range n).map (fun k => vN (a k)) = A
  generalize hB : (List.range n).map (fun k => vN (b k)) = B
  have la : A.length = n := by rw [← hA]; simp
  have lb : B.length = n := by rw [← hB]; simp
  have zp : ∀ e2 e3, sZip (sCons (sVar 0) (sCons (sVar 1) sNil)) [some (.tup A), some (.tup B), e2, e3] h = .ok (srcZV A B, n) h := fun e2 e3 => by
    unfold sZip
    simp (disch := first | omega | exact rfl) only [EV0, EV1, EV2, EV3, List.set_cons_zero, List.set_cons_succ, List.length_cons, List.length_nil, List.length_map, Nat.zero_add, List.cons_append, List.nil_append, and_self, and_true, true_and, and_false, false_and, if_true, if_false, decide_true, decide_false, decide_eq_true_eq, Bool.not_true, Bool.not_false, Bool.false_eq_true, Bool.true_eq_false, Bool.not_eq_true, eq_self, not_true_eq_false, not_false_eq_true, List.cons.injEq, Nat.reduceAdd, Nat.reduceLeDiff, Nat.reduceEqDiff, Nat.reduceSub, Nat.reduceMul, ↓reduceIte, reduceCtorEq, bnd_ap]
    rw [la, lb, Nat.min_self]
  have lc := lcl_pure (s := srcZV A B) (g := gTp 2 (gsCons (gNm 2) (gsCons (gNm 3) gsNil))) (t := tru) (el := sTup (sCons (sBlt kMin (sCons (sVar 2) (sCons (sVar 3) sNil))) (sCons (sBlt kMax (sCons (sVar 2) (sCons (sVar 3) sNil))) sNil))) (n := n) (e := [some (.tup A), some (.tup B), none, none]) (h := h)
    (fun k => .tpw [vN (a k), vN (b k)]) (fun k => vP (pr (a k) (b k))) (fun i hi => by
      unfold srcZV zip2
      rw [← hA, ← hB]
      simp [hi]) (by
      unfold srcZV zip2
      rw [List.getElem?_eq_none (by omega)]) (fun i hi => ⟨[some (.tup A), some (.tup B), some (vN (a i)), some (vN (b i))], by simp (disch := first | omega | exact rfl) only [EV0, EV1, EV2, EV3, List.set_cons_zero, List.set_cons_succ, List.length_cons, List.length_nil, List.length_map, Nat.zero_add, List.cons_append, List.nil_append, and_self, and_true, true_and, and_false, false_and, if_true, if_false, decide_true, decide_false, decide_eq_true_eq, Bool.not_true, Bool.not_false, Bool.false_eq_true, Bool.true_eq_false, Bool.not_eq_true, eq_self, not_true_eq_false, not_false_eq_true, List.cons.injEq, Nat.reduceAdd, Nat.reduceLeDiff, Nat.reduceEqDiff, Nat.reduceSub, Nat.reduceMul, ↓reduceIte, reduceCtorEq] <;> rfl, rfl, by simp (disch := first | omega | exact rfl) only [EV0, EV1, EV2, EV3, List.set_cons_zero, List.set_cons_succ, List.length_cons, List.length_nil, List.length_map, Nat.zero_add, List.cons_append, List.nil_append, and_self, and_true, true_and, and_false, false_and, if_true, if_false, decide_true, decide_false, decide_eq_true_eq, Bool.not_true, Bool.not_false, Bool.false_eq_true, Bool.true_eq_false, Bool.not_eq_true, eq_self, not_true_eq_false, not_false_eq_true, List.cons.injEq, Nat.reduceAdd, Nat.reduceLeDiff, Nat.reduceEqDiff, Nat.reduceSub, Nat.reduceMul, ↓reduceIte, reduceCtorEq, vN, mn_ok, mx_ok] <;> rfl⟩)
  have c : sLc (sZip (sCons (sVar 0) (sCons (sVar 1) sNil))) (gTp 2 (gsCons (gNm 2) (gsCons (gNm 3) gsNil))) tru (sTup (sCons (sBlt kMin (sCons (sVar 2) (sCons (sVar 3) sNil))) (sCons (sBlt kMax (sCons (sVar 2) (sCons (sVar 3) sNil))) sNil))) [2, 3] [some (.tup A), some (.tup B), none, none] h = .ok (.loc h.length) (h ++ [.lst (((List.range n).map fun k => pr (a k) (b k)).map vP)]) := by
    rw [sLc_ap, zp, fwd_ok]
    show lst_ [] (lcl (srcZV A B) _ _ _ n 0 [some (.tup A), some (.tup B), none, none] h) = _
    rw [lc, List.map_map]
    exact new_ok (by simp; omega)
  simp only [sRet_ap, sBlt_ap, sCons_ap, sNil_ap, c, fwd_ok, sp]
  simp (disch := first | omega | exact rfl) only [EV0, EV1, EV2, EV3, List.set_cons_zero, List.set_cons_succ, List.length_cons, List.length_nil, List.length_map, Nat.zero_add, List.cons_append, List.nil_append, and_self, and_true, true_and, and_false, false_and, if_true, if_false, decide_true, decide_false, decide_eq_true_eq, Bool.not_true, Bool.not_false, Bool.false_eq_true, Bool.true_eq_false, Bool.not_eq_true, eq_self, not_true_eq_false, not_false_eq_true, List.cons.injEq, Nat.reduceAdd, Nat.reduceLeDiff, Nat.reduceEqDiff, Nat.reduceSub, Nat.reduceMul, ↓reduceIte, reduceCtorEq]
  simp

mutual
theorem shf_lf {k : Nat} : ∀ {x : Va}, lf x = true → shf k x = x
  | .non, _ => rfl
  | .bl _, _ => rfl
  | .int _, _ => rfl
  | .str _, _ => rfl
  | .tup xs, e => by rw [shf, shfL_lf (by simpa [lf] using e)]
  | .ros xs, e => by rw [shf, shfL_lf (by simpa [lf] using e)]
  | .loc _, e => by simp [lf] at e
  | .fn _, _ => rfl
  | .ty _, _ => rfl
  | .rg _ _ _, _ => rfl
  | .tpw xs, e => by rw [shf, shfL_lf (by simpa [lf] using e)]
theorem shfL_lf {k : Nat} : ∀ {xs : List Va}, lfL xs = true → shfL k xs = xs
  | [], _ => rfl
  | x :: xs, e => by
    simp only [lfL, Bool.and_eq_true] at e
    rw [shfL, shf_lf e.1, shfL_lf e.2]
end
/-- two lists in a pair, told by a callee that ran by itself -/
theorem pure2_of {F : Fn} {xs ys zs : List Va} {h h' : Hs} {a b : Nat} (hx : lfL xs = true) (q : F xs [] = .ok (.tup [.loc a, .loc b]) h') (l1 : h'[a]? = some (.lst ys)) (l2 : h'[b]? = some (.lst zs)) (ly : lfL ys = true) (lz : lfL zs = true) : ∃ (a' b' : Nat) (h2 : Hs), pureF F xs h = .ok (.tup [.loc a', .loc b']) h2 ∧ Gr h h2 ∧ h2[a']? = some (.lst ys) ∧ h2[b']? = some (.lst zs) := by
  refine ⟨h.length + a, h.length + b, h ++ h'.map (shfO h.length), ?_, .app _ _, ?_, ?_⟩
  · simp only [pureF, hx, if_true, q]
    rfl
  · rw [List.getElem?_append_right (by omega), Nat.add_sub_cancel_left, List.getElem?_map, l1]
    exact congrArg some (congrArg Ob.lst (shfL_lf ly))
  · rw [List.getElem?_append_right (by omega), Nat.add_sub_cancel_left, List.getElem?_map, l2]
    exact congrArg some (congrArg Ob.lst (shfL_lf lz))

/-- a loop that may end with an answer -/
theorem loop_ret {s : Src} {b : Va → Ss} {n : Nat} {e : En} {h : Hs} {L : Rt} (hL : loop s b n 0 e h = L) (I : Nat → En → Hs → Prop) (R : Va → Hs → Prop) (h0 : I 0 e h) (en : ∀ e h, I n e h → s n h = some none)
    (st : ∀ i e h, i < n → I i e h → ∃ x, s i h = some (some x) ∧ ((∃ v h', b x e h = .rt v h' ∧ R v h') ∨ ∃ e' h', b x e h = .nx e' h' ∧ I (i + 1) e' h')) :
    (∃ v h', L = .rt v h' ∧ R v h') ∨ ∃ e' h', L = .nx e' h' ∧ I n e' h' := by
  subst hL
  have go : ∀ k i e h, i + k = n → I i e h → (∃ v h', loop s b k i e h = .rt v h' ∧ R v h') ∨ ∃ e' h', loop s b k i e h = .nx e' h' ∧ I n e' h' := by
    intro k
    induction k with
    | zero =>
      intro i e h q hI
      have : i = n := by omega
      subst this
      exact .inr ⟨e, h, by simp only [loop, en e h hI], hI⟩
    | succ k ih =>
      intro i e h q hI
      obtain ⟨x, sx, o⟩ := st i e h (by omega) hI
      rcases o with ⟨v, h', c, r⟩ | ⟨e1, h1, c, d⟩
      · exact .inl ⟨v, h', by simp only [loop, sx, c, aft], r⟩
      · rcases ih (i + 1) e1 h1 (by omega) d with ⟨v, h', c2, r⟩ | ⟨e2, h2, c2, d2⟩
        · exact .inl ⟨v, h', by simp only [loop, sx, c, aft]; exact c2, r⟩
        · exact .inr ⟨e2, h2, by simp only [loop, sx, c, aft]; exact c2, d2⟩
  exact go n 0 e h (by omega) h0
def vX : Option ((Nat × Nat) × (Nat × Nat)) → Va
  | none => .non
  | some p => .tup [vP p.1, vP p.2]
theorem slF {xs : List (Nat × Nat)} {a k : Nat} {h : Hs} (e : h[a]? = some (.lst (xs.map vP))) (hk : k ≤ xs.length) (l : xs.length ≤ 100) : kSl (.loc a) (some (k : Nat)) none h = .ok (.loc h.length) (h ++ [.lst ((xs.drop k).map vP)]) := by
  simp only [kSl, e]
  rw [cut_sn _ (by rw [List.length_map]; exact hk), ← List.map_drop]
  exact new_ok (by simp; omega)
theorem first_crossing_ok {a : Nat} {ps : List (Nat × Nat)} {h : Hs} (ea : h[a]? = some (.lst (ps.map vP))) (l : ps.length ≤ 100) : ∃ (r : Option ((Nat × Nat) × (Nat × Nat))) (h' : Hs), G_first_crossing [.loc a] h = .ok (vX r) h' ∧ Gr h h' ∧ (r = none → NX ps) ∧ (∀ p q, r = some (p, q) → p ∈ ps ∧ q ∈ ps ∧ X p q = true) := by
  rw [q_first_crossing]
  suffices hh : ∃ (r : Option ((Nat × Nat) × (Nat × Nat))) (h' : Hs), fin (b_first_crossing [some (.loc a), none, none, none] h) = .ok (vX r) h' ∧ Gr h h' ∧ (r = none → NX ps) ∧ (∀ p q, r = some (p, q) → p ∈ ps ∧ q ∈ ps ∧ X p q = true) from hh
  unfold b_first_crossing
  have en : enT (.loc a) h = some (srcEL a, ps.length) := by simp [enT, enV, ea]
  have ic := fun (p q : Nat × Nat) (h : Hs) => Sp.is_crossing_ok (a := p.1) (b := p.2) (c := q.1) (d := q.2) (h := h)
  (rw [Fw.seq_ap]; conv => { pattern (Fw.thn _ _); arg 1; simp (disch := first | omega | exact rfl) only [EV0, EV1, EV2, EV3, List.set_cons_zero, List.set_cons_succ, List.length_cons, List.length_nil, List.length_map, Nat.zero_add, List.cons_append, List.nil_append, and_self, and_true, true_and, and_false, false_and, if_true, if_false, decide_true, decide_false, decide_eq_true_eq, Bool.not_true, Bool.not_false, Bool.false_eq_true, Bool.true_eq_false, Bool.not_eq_true, eq_self, not_true_eq_false, not_false_eq_true, List.cons.injEq, Nat.reduceAdd, Nat.reduceLeDiff, Nat.reduceEqDiff, Nat.reduceSub, Nat.reduceMul, ↓reduceIte, reduceCtorEq, sEnuT_k, en] })
  generalize hL : loop _ _ _ _ _ _ = L
  rcases loop_ret hL (fun i en hx => ∃ z1 z2 z3, en = [some (.loc a), z1, z2, z3] ∧ Gr h hx ∧ ∀ i', i' < i → ∀ j p q, i' < j → ps[i']? = some p → ps[j]? = some q → X p q = false)
    (fun v hx => ∃ p q, v = vX (some (p, q)) ∧ Gr h hx ∧ p ∈ ps ∧ q ∈ ps ∧ X p q = true) ⟨none, none, none, rfl, .refl _, fun i' hi => by omega⟩ (by
    rintro en hx ⟨z1, z2, z3, rfl, gr, nx⟩
    simp [srcEL, gr.at ea]) (by
    rintro i en hx hi ⟨z1, z2, z3, rfl, gr, nx⟩
    obtain ⟨p, ep⟩ : ∃ p, ps[i]? = some p := ⟨ps[i], List.getElem?_eq_getElem hi⟩
    refine ⟨.tpw [.int (i : Nat), vP p], by simp [srcEL, gr.at ea, ep], ?_⟩
    have sl := slF (k := i + 1) (gr.at ea) (by omega) l
    generalize hD : ps.drop (i + 1) = ds at sl
    have ad : ∀ j, ds[j]? = ps[i + 1 + j]? := fun j => by rw [← hD, List.getElem?_drop]
    have dl : ds.length ≤ 100 := by rw [← hD]; simp; omega
    have it : itV (.loc hx.length) (hx ++ [Ob.lst (ds.map vP)]) = some (srcL hx.length, ds.length) := by simp [itV]
    simp (disch := first | omega | exact rfl) only [EV0, EV1, EV2, EV3, List.set_cons_zero, List.set_cons_succ, List.length_cons, List.length_nil, List.length_map, Nat.zero_add, List.cons_append, List.nil_append, and_self, and_true, true_and, and_false, false_and, if_true, if_false, decide_true, decide_false, decide_eq_true_eq, Bool.not_true, Bool.not_false, Bool.false_eq_true, Bool.true_eq_false, Bool.not_eq_true, eq_self, not_true_eq_false, not_false_eq_true, List.cons.injEq, Nat.reduceAdd, Nat.reduceLeDiff, Nat.reduceEqDiff, Nat.reduceSub, Nat.reduceMul, ↓reduceIte, reduceCtorEq, stp_ap, sl, it]
    generalize hL2 : loop _ _ _ _ _ _ = L2
    have := loop_ret hL2 (fun j en hy => ∃ z3, en = [some (.loc a), some (.int (i : Nat)), some (vP p), z3] ∧ Gr (hx ++ [Ob.lst (ds.map vP)]) hy ∧ ∀ j', j' < j → ∀ q, ds[j']? = some q → X p q = false)
      (fun v hy => ∃ q, v = vX (some (p, q)) ∧ Gr (hx ++ [Ob.lst (ds.map vP)]) hy ∧ q ∈ ds ∧ X p q = true) ⟨z3, rfl, .refl _, fun j' hj => by omega⟩ (by
      rintro en hy ⟨z3, rfl, g2, nx2⟩
      simp [srcL, g2.at (last_at hx _)]) (by
      rintro j en hy hj ⟨z3, rfl, g2, nx2⟩
      obtain ⟨q, eq⟩ : ∃ q, ds[j]? = some q := ⟨ds[j], List.getElem?_eq_getElem hj⟩
      refine ⟨vP q, by simp [srcL, g2.at (last_at hx _), eq], ?_⟩
      have c := ic p q hy
      have c : G_is_crossing [vP p, vP q] hy = .ok (.bl (X p q)) hy := c
      cases hX : X p q
      · rw [hX] at c
        refine .inr ⟨_, _, by simp (disch := first | omega | exact rfl) only [EV0, EV1, EV2, EV3, List.set_cons_zero, List.set_cons_succ, List.length_cons, List.length_nil, List.length_map, Nat.zero_add, List.cons_append, List.nil_append, and_self, and_true, true_and, and_false, false_and, if_true, if_false, decide_true, decide_false, decide_eq_true_eq, Bool.not_true, Bool.not_false, Bool.false_eq_true, Bool.true_eq_false, Bool.not_eq_true, eq_self, not_true_eq_false, not_false_eq_true, List.cons.injEq, Nat.reduceAdd, Nat.reduceLeDiff, Nat.reduceEqDiff, Nat.reduceSub, Nat.reduceMul, ↓reduceIte, reduceCtorEq, stp_ap, c] <;> rfl, _, rfl, g2, fun j' hj' q' e' => ?_⟩
        by_cases e : j' = j
        · subst e
          rw [eq] at e'
          obtain rfl := Option.some.inj e'
          exact hX
        · exact nx2 j' (by omega) q' e'
      · rw [hX] at c
        exact .inl ⟨_, _, by simp (disch := first | omega | exact rfl) only [EV0, EV1, EV2, EV3, List.set_cons_zero, List.set_cons_succ, List.length_cons, List.length_nil, List.length_map, Nat.zero_add, List.cons_append, List.nil_append, and_self, and_true, true_and, and_false, false_and, if_true, if_false, decide_true, decide_false, decide_eq_true_eq, Bool.not_true, Bool.not_false, Bool.false_eq_true, Bool.true_eq_false, Bool.not_eq_true, eq_self, not_true_eq_false, not_false_eq_true, List.cons.injEq, Nat.reduceAdd, Nat.reduceLeDiff, Nat.reduceEqDiff, Nat.reduceSub, Nat.reduceMul, ↓reduceIte, reduceCtorEq, stp_ap, c] <;> rfl, q, rfl, g2, List.mem_of_getElem? eq, hX⟩)
    rcases this with ⟨v, h', rfl, q, rfl, g2, hq, hX⟩ | ⟨e', h', rfl, z3', rfl, g2, nx2⟩
    · refine .inl ⟨_, h', rfl, p, q, rfl, gr.trans ((Gr.app _ _).trans g2), List.mem_of_getElem? ep, ?_, hX⟩
      rw [← hD] at hq
      exact List.mem_of_mem_drop hq
    · refine .inr ⟨_, h', rfl, _, _, _, rfl, gr.trans ((Gr.app _ _).trans g2), fun i' hi' j p' q' hj e1 e2 => ?_⟩
      by_cases e : i' = i
      · subst e
        rw [ep] at e1
        obtain rfl := Option.some.inj e1
        obtain ⟨d, rfl⟩ : ∃ d, j = i' + 1 + d := ⟨j - (i' + 1), by omega⟩
        rw [← ad] at e2
        exact nx2 d (List.getElem?_eq_some_iff.mp e2).1 q' e2
      · exact nx i' (by omega) j p' q' hj e1 e2) with ⟨v, h', rfl, p, q, rfl, gr, hp, hq, hx⟩ | ⟨e', h', rfl, z1, z2, z3, rfl, gr, nx⟩
  · exact ⟨some (p, q), h', rfl, gr, fun z => by simp at z, fun p' q' e => by
      obtain ⟨rfl, rfl⟩ := Prod.mk.inj (Option.some.inj e)
      exact ⟨hp, hq, hx⟩⟩
  · refine ⟨none, h', by simp (disch := first | omega | exact rfl) only [EV0, EV1, EV2, EV3, List.set_cons_zero, List.set_cons_succ, List.length_cons, List.length_nil, List.length_map, Nat.zero_add, List.cons_append, List.nil_append, and_self, and_true, true_and, and_false, false_and, if_true, if_false, decide_true, decide_false, decide_eq_true_eq, Bool.not_true, Bool.not_false, Bool.false_eq_true, Bool.true_eq_false, Bool.not_eq_true, eq_self, not_true_eq_false, not_false_eq_true, List.cons.injEq, Nat.reduceAdd, Nat.reduceLeDiff, Nat.reduceEqDiff, Nat.reduceSub, Nat.reduceMul, ↓reduceIte, reduceCtorEq] <;> rfl, gr, fun _ p hp q hq => ?_, fun p q e => by simp at e⟩
    obtain ⟨i, hi, rfl⟩ := List.mem_iff_getElem.mp hp
    obtain ⟨j, hj, rfl⟩ := List.mem_iff_getElem.mp hq
    rcases Nat.lt_trichotomy i j with c | c | c
    · exact nx i hi j _ _ c (List.getElem?_eq_getElem hi) (List.getElem?_eq_getElem hj)
    · subst c
      exact X_self _
    · rw [X_comm]
      exact nx j hj i _ _ c (List.getElem?_eq_getElem hj) (List.getElem?_eq_getElem hi)
end Rv

set_option Elab.async false
set_option linter.all false
set_option maxRecDepth 100000
set_option maxHeartbeats 4000000
set_option autoImplicit false
namespace Fd
variable {n k : Nat} {q : List Nat}
/-- the foldings, as the law lists them -/
def fl : Nat → List (List Nat)
  | 0 => [[0]]
  | n + 1 => (fl n).flatMap fun q => ((List.range (n + 2)).filter (kpB q (n + 1))).map (ins q (n + 1))
theorem ins_split (p : PP (n + 1) q) : ∃ q' k, q = ins q' n k ∧ k ≤ n ∧ PP n q' := by
  have m := p.mem (show n < n + 1 by omega)
  obtain ⟨s, t, rfl⟩ := List.append_of_mem m
  have l := p.len
  have nd := p.nd
  rw [List.length_append, List.length_cons] at l
  have e : (s ++ n :: t).Perm (n :: (s ++ t)) := List.perm_middle
  have nd2 := List.nodup_cons.mp (e.nodup_iff.mp nd)
  refine ⟨s ++ t, s.length, ?_, by omega, ⟨by rw [List.length_append]; omega, nd2.2, fun x hx => ?_⟩⟩
  · unfold ins
    rw [List.take_left, List.drop_left]
  · have := p.lt x (e.mem_iff.mpr (List.mem_cons_of_mem _ hx))
    have : x ≠ n := fun w => nd2.1 (w ▸ hx)
    omega
theorem NX.back (p : PP n q) (hk : k ≤ n) (n0 : 0 < n) (x : NX (n + 1) (Fd.ins q n k)) : NX n q ∧ kpB q n k = true := by
  refine ⟨fun c d cd dl pr => ?_, ?_⟩
  · rw [← cr_ins p hk (by omega) dl]
    exact x c d cd (by omega) pr
  · unfold kpB
    rw [List.all_eq_true]
    intro i hi
    have hi := List.mem_range.mp hi
    have := x (n - 3 - 2 * i) (n - 1) (by omega) (by omega) (by omega)
    rw [this]
    rfl
end Fd

set_option Elab.async false
set_option linter.all false
set_option maxRecDepth 100000
set_option maxHeartbeats 4000000
set_option autoImplicit false
namespace Fd
variable {n : Nat} {q : List Nat}
end Fd

set_option Elab.async false
set_option linter.all false
set_option maxRecDepth 100000
set_option maxHeartbeats 4000000
set_option autoImplicit false
namespace Fd
theorem flatMap_le {α β : Type} (f : α → List β) (m : Nat) : ∀ xs : List α, (∀ x ∈ xs, (f x).length ≤ m) → (xs.flatMap f).length ≤ m * xs.length
  | [], _ => by simp
  | x :: xs, h => by
    have a := h x List.mem_cons_self
    have b := flatMap_le f m xs fun y hy => h y (List.mem_cons_of_mem _ hy)
    rw [List.flatMap_cons, List.length_append, List.length_cons, Nat.mul_succ]
    omega
end Fd
namespace Un
open PySem PySem.Spec L2 Fw Pg Sp Fd
open PyProof.Rows hiding St
def vT (q : List Nat) : Va := .tup (q.map vN)
def zT (q : List Nat) : List Int := q.map fun x : Nat => (x : Int)
theorem vT_z (q : List Nat) : vT q = tupV (zT q) := by
  unfold vT tupV zT
  rw [List.map_map]
  rfl
end Un

set_option Elab.async false
set_option linter.all false
set_option maxRecDepth 100000
set_option maxHeartbeats 4000000
set_option autoImplicit false
namespace Un
open PySem PySem.Spec L2 Fw Pg Sp Fd
open PyProof.Rows hiding St
/-- what is laid in one pile more -/
def put (n : Nat) (q : List Nat) : List (List Nat) := ((List.range (n + 2)).filter (kpB q (n + 1))).map (ins q (n + 1))
end Un

set_option Elab.async false
set_option linter.all false
set_option maxRecDepth 100000
set_option maxHeartbeats 4000000
set_option autoImplicit false
namespace Fd
variable {n k : Nat} {q : List Nat}
/-- where a piece more may lie beside one crease -/
theorem cr_new (p : PP n q) (hk : k ≤ n) {c : Nat} (hc : c + 1 < n - 1) : cr (ins q n k) c (n - 1) = false ↔ (if lo q c < pos q (n - 1) ∧ pos q (n - 1) < hi q c then lo q c < k ∧ k ≤ hi q c else k ≤ lo q c ∨ hi q c < k) := by
  have f : ∀ x y, x < n → y < n → x ≠ y → pos q x ≠ pos q y := fun x y hx hy ne e => ne (p.inj hx hy e)
  have a := f c (n - 1) (by omega) (by omega) (by omega)
  have b := f (c + 1) (n - 1) (by omega) (by omega) (by omega)
  have c' := f c (c + 1) (by omega) (by omega) (by omega)
  have e1 := p.pos_ins hk (show c < n by omega)
  have e2 := p.pos_ins hk (show c + 1 < n by omega)
  have e3 := p.pos_ins hk (show n - 1 < n by omega)
  have e4 : pos (ins q n k) (n - 1 + 1) = k := by
    rw [show n - 1 + 1 = n by omega]
    exact p.pos_new hk
  unfold cr lo hi
  rw [e1, e2, e3, e4]
  generalize pos q c = A at *
  generalize pos q (c + 1) = B at *
  generalize pos q (n - 1) = C at *
  rw [← Bool.not_eq_true]
  simp only [Bool.or_eq_true, Bool.and_eq_true, decide_eq_true_eq]
  unfold up
  by_cases h : min A B < C ∧ C < max A B
  · rw [if_pos h]
    split <;> split <;> split <;> omega
  · rw [if_neg h]
    split <;> split <;> split <;> omega
end Fd

set_option Elab.async false
set_option linter.all false
set_option maxRecDepth 100000
set_option maxHeartbeats 4000000
set_option autoImplicit false
namespace Sp
open PySem PySem.Spec L2 Fw Pg Fd
open PyProof.Rows hiding St
/-- what one crease lets in -/
def okc (q : List Nat) (n c k : Nat) : Prop := if lo q c < pos q (n - 1) ∧ pos q (n - 1) < hi q c then lo q c < k ∧ k ≤ hi q c else k ≤ lo q c ∨ hi q c < k
instance (q : List Nat) (n c k : Nat) : Decidable (okc q n c k) := by unfold okc; infer_instance
end Sp

set_option Elab.async false
set_option linter.all false
set_option maxRecDepth 100000
set_option maxHeartbeats 4000000
set_option autoImplicit false
/-! strips: layerings of points -/
namespace Fd
variable {P : Nat → Int} {n k : Nat} {q : List Nat}
/-- a point within a piece -/
def ins_ (P : Nat → Int) (x : Int) (p : Nat) : Bool := decide (min (P p) (P (p + 1)) < x) && decide (x < max (P p) (P (p + 1)))
structure LY (P : Nat → Int) (n : Nat) (q : List Nat) : Prop where
  wal : ∀ c p, c + 1 < n → p < n → lo q c < pos q p → pos q p < hi q c → ins_ P (P (c + 1)) p = false
  met : ∀ c d, c < d → d + 1 < n → (d - c) % 2 = 0 → P (c + 1) = P (d + 1) → cr q c d = false
/-- what one crease lets in -/
def okc (q : List Nat) (n c k : Nat) : Prop := if lo q c < pos q (n - 1) ∧ pos q (n - 1) < hi q c then lo q c < k ∧ k ≤ hi q c else k ≤ lo q c ∨ hi q c < k
instance (q : List Nat) (n c k : Nat) : Decidable (okc q n c k) := by unfold okc; infer_instance
/-- what a wall lets in -/
def okw (q : List Nat) (n p k : Nat) : Prop := if pos q p < pos q (n - 1) then pos q p < k else k ≤ pos q p
instance (q : List Nat) (n p k : Nat) : Decidable (okw q n p k) := by unfold okw; infer_instance
/-- the new piece may lie there -/
structure GB (P : Nat → Int) (q : List Nat) (n k : Nat) : Prop where
  w : ∀ p, p < n - 1 → ins_ P (P n) p = true → okw q n p k
  s : ∀ c, c < n - 1 → ins_ P (P (c + 1)) n = true → ¬ (lo q c < k ∧ k ≤ hi q c)
  m : ∀ c, c < n - 1 → (n - 1 - c) % 2 = 0 → P (c + 1) = P n → okc q n c k
theorem up_c (k x : Nat) : (x < k ∧ up k x = x) ∨ (k ≤ x ∧ up k x = x + 1) := by
  unfold up
  split
  · exact .inl ⟨by omega, rfl⟩
  · exact .inr ⟨by omega, rfl⟩
theorem okw_iff (q : List Nat) (n p k : Nat) : okw q n p k ↔ (pos q p < pos q (n - 1) ∧ pos q p < k) ∨ (¬ pos q p < pos q (n - 1) ∧ k ≤ pos q p) := by
  unfold okw
  split
  · exact ⟨fun h => .inl ⟨by assumption, h⟩, fun h => by omega⟩
  · exact ⟨fun h => .inr ⟨by assumption, h⟩, fun h => by omega⟩
theorem up_lo (p : PP n q) (hk : k ≤ n) {c : Nat} (hc : c + 1 < n) : lo (ins q n k) c = up k (lo q c) ∧ hi (ins q n k) c = up k (hi q c) := by
  unfold lo hi
  rw [p.pos_ins hk (show c < n by omega), p.pos_ins hk hc, up_min, up_max]
  exact ⟨rfl, rfl⟩
theorem LY_ins (p : PP n q) (n0 : 0 < n) (hk : k ≤ n) : LY P (n + 1) (ins q n k) ↔ LY P n q ∧ GB P q n k := by
  have e4 : pos (ins q n k) n = k := p.pos_new hk
  have e3 := p.pos_ins hk (show n - 1 < n by omega)
  have e5 : n - 1 + 1 = n := by omega
  constructor
  · intro ⟨w, m⟩
    refine ⟨⟨fun c x hc hx a b => ?_, fun c d cd hd par eq => ?_⟩, ⟨fun x hx e => ?_, fun c hc e h => ?_, fun c hc par eq => ?_⟩⟩
    · obtain ⟨a1, a2⟩ := up_lo p hk hc
      refine w c x (by omega) (by omega) ?_ ?_
      · rw [a1, p.pos_ins hk hx]; exact (up_lt k _ _).mpr a
      · rw [a2, p.pos_ins hk hx]; exact (up_lt k _ _).mpr b
    · rw [← cr_ins p hk (show c + 1 < n by omega) (show d + 1 < n by omega)]
      exact m c d cd (by omega) par eq
    · by_cases g : okw q n x k
      · exact g
      · exfalso
        have ne : pos q x ≠ pos q (n - 1) := fun w => by
          have := p.inj (show x < n by omega) (show n - 1 < n by omega) w
          omega
        have px := p.pos_ins hk (show x < n by omega)
        rw [okw_iff] at g
        have u1 := up_c k (pos q x)
        have u2 := up_c k (pos q (n - 1))
        have := w (n - 1) x (by omega) (by omega) (by
          unfold lo
          rw [e3, e5, e4, px]
          omega) (by
          unfold hi
          rw [e3, e5, e4, px]
          omega)
        rw [e5, e] at this
        cases this
    · obtain ⟨a1, a2⟩ := up_lo p hk (show c + 1 < n by omega)
      have u1 := up_c k (lo q c)
      have u2 := up_c k (hi q c)
      have := w c n (by omega) (by omega) (by
        rw [a1, e4]
        omega) (by
        rw [a2, e4]
        omega)
      rw [this] at e
      cases e
    · refine (cr_new p hk (show c + 1 < n - 1 by omega)).mp ?_
      exact m c (n - 1) hc (by omega) par (by rw [e5]; exact eq)
  · intro ⟨⟨w, m⟩, ⟨gw, gs, gm⟩⟩
    refine ⟨fun c x hc hx a b => ?_, fun c d cd hd par eq => ?_⟩
    · by_cases cn : c + 1 < n
      · obtain ⟨a1, a2⟩ := up_lo p hk cn
        by_cases xn : x < n
        · refine w c x cn xn ?_ ?_
          · rw [a1, p.pos_ins hk xn] at a; exact (up_lt k _ _).mp a
          · rw [a2, p.pos_ins hk xn] at b; exact (up_lt k _ _).mp b
        · have : x = n := by omega
          subst this
          cases hi' : ins_ P (P (c + 1)) x
          · rfl
          · exfalso
            refine gs c (by omega) hi' ?_
            rw [a1, e4] at a
            rw [a2, e4] at b
            have u1 := up_c k (lo q c)
            have u2 := up_c k (hi q c)
            omega
      · have : c = n - 1 := by omega
        subst this
        unfold lo at a
        unfold hi at b
        rw [e3, e5, e4] at a b
        by_cases xn : x < n
        · rw [p.pos_ins hk xn] at a b
          by_cases xl : x = n - 1
          · subst xl
            exfalso
            omega
          · cases hi' : ins_ P (P (n - 1 + 1)) x
            · rfl
            · exfalso
              rw [e5] at hi'
              have := gw x (by omega) hi'
              rw [okw_iff] at this
              have u1 := up_c k (pos q x)
              have u2 := up_c k (pos q (n - 1))
              omega
        · have : x = n := by omega
          subst this
          rw [e4] at a b
          omega
    · by_cases dn : d + 1 < n
      · rw [cr_ins p hk (show c + 1 < n by omega) dn]
        exact m c d cd dn par eq
      · have : d = n - 1 := by omega
        subst this
        refine (cr_new p hk (show c + 1 < n - 1 by omega)).mpr ?_
        exact gm c cd par (by rw [e5] at eq; exact eq)
end Fd

set_option Elab.async false
set_option linter.all false
set_option maxRecDepth 100000
set_option maxHeartbeats 4000000
set_option autoImplicit false
/-! piles turned upside down; marks -/
namespace Fd
variable {n k : Nat} {q : List Nat}
theorem PP.rev (p : PP n q) : PP n q.reverse := ⟨by rw [List.length_reverse, p.len], (List.reverse_perm q).nodup_iff.mpr p.nd, fun x hx => p.lt x (List.mem_reverse.mp hx)⟩
theorem PP.pos_rev (p : PP n q) {x : Nat} (hx : x < n) : pos q.reverse x = n - 1 - pos q x := by
  have l := p.pos_lt hx
  refine p.rev.pos_at ?_
  rw [List.getElem?_reverse (by rw [p.len]; omega), p.len, show n - 1 - (n - 1 - pos q x) = pos q x by omega, p.at_pos hx]
theorem cr_lohi (q : List Nat) (c d : Nat) : cr q c d = true ↔ (lo q c < lo q d ∧ lo q d < hi q c ∧ hi q c < hi q d) ∨ (lo q d < lo q c ∧ lo q c < hi q d ∧ hi q d < hi q c) := by
  unfold cr lo hi
  simp only [Bool.or_eq_true, Bool.and_eq_true, decide_eq_true_eq]
theorem rev_lohi (p : PP n q) {c : Nat} (l : c + 1 < n) : lo q.reverse c = n - 1 - hi q c ∧ hi q.reverse c = n - 1 - lo q c := by
  have a := p.pos_lt (show c < n by omega)
  have b := p.pos_lt l
  unfold lo hi
  rw [p.pos_rev (by omega), p.pos_rev l]
  omega
theorem cr_rev (p : PP n q) {c d : Nat} (h : c + 1 < d) (l : d + 1 < n) : cr q.reverse c d = cr q c d := by
  obtain ⟨a1, a2⟩ := rev_lohi p (show c + 1 < n by omega)
  obtain ⟨b1, b2⟩ := rev_lohi p l
  have c1 := p.lohi (show c + 1 < n by omega)
  have c2 := p.lohi l
  rw [Bool.eq_iff_iff, cr_lohi, cr_lohi, a1, a2, b1, b2]
  omega
theorem NX.rev (p : PP n q) : NX n q.reverse ↔ NX n q := by
  constructor
  · intro x c d cd l pr
    rw [← cr_rev p (by omega) l]
    exact x c d cd l pr
  · intro x c d cd l pr
    rw [cr_rev p (by omega) l]
    exact x c d cd l pr
/-- the marks -/
def mkc (q : List Nat) (c : Nat) : Nat := if decide (pos q (c + 1) < pos q c) = decide (c % 2 = 0) then 118 else 109
end Fd

set_option Elab.async false
set_option linter.all false
set_option maxRecDepth 100000
set_option maxHeartbeats 4000000
set_option autoImplicit false
namespace Sp
open PySem PySem.Spec L2 Fw Pg Fd
open PyProof.Rows hiding St
end Sp

set_option Elab.async false
set_option linter.all false
set_option maxRecDepth 100000
set_option maxHeartbeats 4000000
set_option autoImplicit false
namespace Fd
variable {n : Nat} {q : List Nat}
end Fd

set_option Elab.async false
set_option linter.all false
set_option maxRecDepth 100000
set_option maxHeartbeats 4000000
set_option autoImplicit false
namespace Fd
variable {n : Nat} {q : List Nat}
end Fd

set_option Elab.async false
set_option linter.all false
set_option maxRecDepth 100000
set_option maxHeartbeats 4000000
set_option autoImplicit false
namespace Fd
end Fd
namespace Sp
open PySem PySem.Spec L2 Fw Pg Fd
open PyProof.Rows hiding St
end Sp

set_option Elab.async false
set_option linter.all false
set_option maxRecDepth 100000
set_option maxHeartbeats 4000000
set_option autoImplicit false
namespace Sp
open PySem PySem.Spec L2 Fw Pg Fd
open Un (zT)
open PyProof.Rows hiding St
def vB (t : Nat × Nat × Nat) : Va := .tup [.loc t.1, .loc t.2.1, .loc t.2.2]
end Sp

set_option Elab.async false
set_option linter.all false
set_option maxRecDepth 100000
set_option maxHeartbeats 4000000
set_option autoImplicit false
namespace Fd
open Fw
/-- a list of tuples of numbers, sorted -/
def unz (z : List Int) : List Nat := z.map Int.toNat
theorem unz_z (q : List Nat) : unz (Un.zT q) = q := by
  unfold unz Un.zT
  rw [List.map_map]
  conv => rhs; rw [← List.map_id q]
  rfl
def srtL (ps : List (List Nat)) : List (List Nat) := (srtT (ps.map Un.zT)).map unz
theorem srtL_z (ps : List (List Nat)) : (srtL ps).map Un.zT = srtT (ps.map Un.zT) := by
  unfold srtL
  rw [List.map_map]
  conv => rhs; rw [← List.map_id (srtT (ps.map Un.zT))]
  refine List.map_congr_left fun z hz => ?_
  obtain ⟨q, _, rfl⟩ := List.mem_map.mp ((srtT_perm _).mem_iff.mp hz)
  show Un.zT (unz (Un.zT q)) = _
  rw [unz_z]
  rfl
theorem srtL_v (ps : List (List Nat)) : (srtT (ps.map Un.zT)).map tupV = (srtL ps).map Un.vT := by
  rw [← srtL_z, List.map_map]
  refine List.map_congr_left fun q _ => ?_
  rw [Un.vT_z]
  rfl
end Fd
namespace Sp
open PySem PySem.Spec L2 Fw Pg Fd
open PyProof.Rows hiding St
open Un (zT)
end Sp

set_option Elab.async false
set_option linter.all false
set_option maxRecDepth 100000
set_option maxHeartbeats 4000000
set_option autoImplicit false
namespace Fd
open Fw
variable {P : Nat → Int} {n k : Nat} {q : List Nat}
def gB (P : Nat → Int) (q : List Nat) (n k : Nat) : Bool := (List.range (n - 1)).all fun x => (!ins_ P (P n) x || decide (okw q n x k)) && (!ins_ P (P (x + 1)) n || !(decide (lo q x < k) && decide (k ≤ hi q x))) && (!(decide ((n - 1 - x) % 2 = 0) && decide (P (x + 1) = P n)) || decide (okc q n x k))
theorem gB_iff : gB P q n k = true ↔ GB P q n k := by
  unfold gB
  rw [List.all_eq_true]
  simp only [List.mem_range, Bool.and_eq_true, Bool.or_eq_true, decide_eq_true_eq, Bool.not_eq_true', Bool.and_eq_false_iff, decide_eq_false_iff_not]
  constructor
  · intro h
    refine ⟨fun p hp e => ?_, fun c hc e w => ?_, fun c hc a b => ?_⟩
    · rcases (h p hp).1.1 with g | g
      · rw [e] at g; cases g
      · exact g
    · rcases (h c hc).1.2 with g | g
      · rw [e] at g; cases g
      · rcases g with g | g
        · exact g w.1
        · exact g w.2
    · rcases (h c hc).2 with g | g
      · rcases g with g | g
        · exact absurd a g
        · exact absurd b g
      · exact g
  · intro ⟨a, b, c⟩ x hx
    refine ⟨⟨?_, ?_⟩, ?_⟩
    · cases e : ins_ P (P n) x
      · exact .inl rfl
      · exact .inr (a x hx e)
    · cases e : ins_ P (P (x + 1)) n
      · exact .inl rfl
      · right
        have := b x hx e
        by_cases w : lo q x < k
        · exact .inr fun w2 => this ⟨w, w2⟩
        · exact .inl w
    · by_cases e : (n - 1 - x) % 2 = 0
      · by_cases e2 : P (x + 1) = P n
        · exact .inr (c x hx e e2)
        · exact .inl (.inr e2)
      · exact .inl (.inl e)
theorem up_ltb (k x y : Nat) : decide (up k x < up k y) = decide (x < y) := by
  rw [decide_eq_decide]; exact up_lt k x y
theorem mkc_ins (p : PP n q) (hk : k ≤ n) {c : Nat} (hc : c + 1 < n) : mkc (ins q n k) c = mkc q c := by
  unfold mkc
  rw [p.pos_ins hk (show c < n by omega), p.pos_ins hk hc, up_ltb]
theorem mkc_new (p : PP n q) (n0 : 0 < n) (hk : k ≤ n) : mkc (ins q n k) (n - 1) = if decide (k ≤ pos q (n - 1)) = decide ((n - 1) % 2 = 0) then 118 else 109 := by
  unfold mkc
  rw [p.pos_ins hk (show n - 1 < n by omega), show n - 1 + 1 = n by omega, p.pos_new hk]
  have : decide (k < up k (pos q (n - 1))) = decide (k ≤ pos q (n - 1)) := by
    rw [decide_eq_decide]
    have := up_c k (pos q (n - 1))
    omega
  rw [this]
def mok (mark : Nat) (q : List Nat) (n k : Nat) : Bool := decide (mark = 63) || decide (mark = if decide (k ≤ pos q (n - 1)) = decide ((n - 1) % 2 = 0) then 118 else 109)
def opn (P : Nat → Int) (mark : Nat) (q : List Nat) (n : Nat) : List Nat := (List.range (n + 1)).filter fun k => mok mark q n k && gB P q n k
/-- the layerings of so many pieces, as they are grown -/
def lyg (P : Nat → Int) (t : Nat → Nat) : Nat → List (List Nat)
  | 0 => [[0]]
  | i + 1 => (lyg P t i).flatMap fun q => (opn P (t i) q (i + 1)).map (ins q (i + 1))
theorem pp1 : PP 1 [0] := ⟨rfl, by simp, by simp⟩
theorem LY_one (q : List Nat) : LY P 1 q := ⟨fun c p h => by omega, fun c d h1 h2 => by omega⟩
theorem lyg_ok {t : Nat → Nat} : ∀ i q, q ∈ lyg P t i ↔ PP (i + 1) q ∧ LY P (i + 1) q ∧ ∀ c, c < i → t c = 63 ∨ mkc q c = t c
  | 0, q => by
    simp only [lyg, List.mem_singleton]
    constructor
    · intro h; subst h; exact ⟨pp1, LY_one _, fun c h => by omega⟩
    · intro ⟨p, _⟩
      obtain ⟨x, rfl⟩ := List.length_eq_one_iff.mp p.len
      have := p.lt x (by simp)
      rw [show x = 0 by omega]
  | i + 1, q => by
    unfold lyg
    rw [List.mem_flatMap]
    constructor
    · rintro ⟨q', hq, h⟩
      obtain ⟨k, hk, rfl⟩ := List.mem_map.mp h
      obtain ⟨h1, h2⟩ := List.mem_filter.mp hk
      have hk := List.mem_range.mp h1
      rw [Bool.and_eq_true, gB_iff] at h2
      obtain ⟨p, ly, mk⟩ := (lyg_ok i q').mp hq
      refine ⟨p.ins k, (LY_ins p (by omega) (by omega)).mpr ⟨ly, h2.2⟩, fun c hc => ?_⟩
      by_cases e : c < i
      · rw [mkc_ins p (by omega) (by omega)]
        exact mk c e
      · have : c = i := by omega
        subst this
        have e := mkc_new (k := k) p (by omega) (by omega)
        rw [Nat.add_sub_cancel] at e
        rw [e]
        have := h2.1
        unfold mok at this
        rw [Bool.or_eq_true, decide_eq_true_eq, decide_eq_true_eq, Nat.add_sub_cancel] at this
        exact this.imp id Eq.symm
    · rintro ⟨p, ly, mk⟩
      obtain ⟨q', k, rfl, hk, p'⟩ := ins_split p
      obtain ⟨a, b⟩ := (LY_ins p' (by omega) hk).mp ly
      refine ⟨q', (lyg_ok i q').mpr ⟨p', a, fun c hc => ?_⟩, List.mem_map.mpr ⟨k, List.mem_filter.mpr ⟨List.mem_range.mpr (by omega), ?_⟩, rfl⟩⟩
      · rw [← mkc_ins p' hk (by omega)]
        exact mk c (by omega)
      · rw [Bool.and_eq_true, gB_iff]
        refine ⟨?_, b⟩
        have := mk i (by omega)
        have e := mkc_new p' (by omega) hk
        rw [show i + 1 - 1 = i by omega] at e
        rw [e] at this
        unfold mok
        rw [Bool.or_eq_true, decide_eq_true_eq, decide_eq_true_eq]
        exact this.imp id Eq.symm
theorem opn_len (P : Nat → Int) (mark : Nat) (q : List Nat) (n : Nat) : (opn P mark q n).length ≤ n + 1 := Nat.le_trans (List.length_filter_le _ _) (by rw [List.length_range]; exact Nat.le_refl _)
theorem lyg_len {t : Nat → Nat} : ∀ i, i ≤ 7 → (lyg P t i).length ≤ 8 ^ i
  | 0, _ => by simp [lyg]
  | i + 1, h => by
    unfold lyg
    refine Nat.le_trans (flatMap_le _ 8 _ fun q _ => ?_) ?_
    · rw [List.length_map]
      exact Nat.le_trans (opn_len P (t i) q (i + 1)) (by omega)
    · have := lyg_len (t := t) i (by omega)
      rw [Nat.pow_succ]
      omega
/-- the layerings of i + 1 pieces in order, with any marks -/
def lay (P : Nat → Int) (i : Nat) : List (List Nat) := srtL (lyg P (fun _ => 63) i)
/-- those with told marks -/
def layT (P : Nat → Int) (s : List Nat) (i : Nat) : List (List Nat) := srtL (lyg P (fun c => s.getD c 63) i)
/-- turned upside down -/
theorem LY.rev (p : PP n q) : LY P n q.reverse ↔ LY P n q := by
  have one : ∀ q, PP n q → LY P n q → LY P n q.reverse := fun q p ⟨w, m⟩ => by
    refine ⟨fun c x hc hx a b => ?_, fun c d cd l pr e => ?_⟩
    · obtain ⟨a1, a2⟩ := rev_lohi p hc
      have c1 := p.lohi hc
      have c2 := p.pos_lt hx
      rw [a1, p.pos_rev hx] at a
      rw [a2, p.pos_rev hx] at b
      exact w c x hc hx (by omega) (by omega)
    · rw [cr_rev p (by omega) l]
      exact m c d cd l pr e
  exact ⟨fun h => by have := one _ p.rev h; rwa [List.reverse_reverse] at this, one q p⟩
end Fd

set_option Elab.async false
set_option linter.all false
set_option maxRecDepth 100000
set_option maxHeartbeats 2000000
set_option autoImplicit false
namespace St
open PySem PySem.Spec L2 Fw Pg Sp
open PyProof.Rows hiding St
end St

set_option Elab.async false
set_option linter.all false
set_option maxRecDepth 100000
set_option maxHeartbeats 4000000
set_option autoImplicit false
/-! what a run answers, read off (for tables decided by the kernel) -/
namespace Kt
open PySem PySem.Spec L2 Fw
open PyProof.Rows hiding St
def isNs (ns : List Nat) : Rs Va → Bool
  | .ok (.tup xs) _ => decide (mapO asI xs = some (ns.map fun x : Nat => (x : Int)))
  | _ => false
end Kt

set_option Elab.async false
set_option linter.all false
set_option maxRecDepth 100000
set_option maxHeartbeats 4000000
set_option autoImplicit false
/-! tuples of tuples of numbers, read off; more of Kt -/
namespace Kt
open PySem PySem.Spec L2 Fw Pg
open PyProof.Rows hiding St
def asN : Va → Option Nat
  | .int i => if 0 ≤ i then some i.toNat else none
  | _ => none
def asT : Va → Option (List Nat)
  | .tup xs => mapO asN xs
  | _ => none
def isTs (ps : List (List Nat)) : Rs Va → Bool
  | .ok (.tup xs) _ => decide (mapO asT xs = some ps)
  | _ => false
end Kt

set_option Elab.async false
set_option linter.all false
set_option maxRecDepth 100000
set_option maxHeartbeats 4000000
set_option autoImplicit false
set_option exponentiation.threshold 100000
namespace Bi
open PySem PySem.Spec L2 Fw
open PyProof.Rows hiding St
open Pg
end Bi

set_option Elab.async false
set_option linter.all false
set_option maxRecDepth 100000
set_option maxHeartbeats 4000000
set_option autoImplicit false
namespace Fd
/-- the points of a strip -/
def pt (l : List Nat) : Nat → Int
  | 0 => 0
  | i + 1 => pt l i + (if i % 2 = 0 then ((l.getD i 0 : Nat) : Int) else -((l.getD i 0 : Nat) : Int))
end Fd
namespace St
open PySem PySem.Spec L2 Fw Pg Sp Fd
open PyProof.Rows hiding St
end St

set_option Elab.async false
set_option linter.all false
set_option maxRecDepth 100000
set_option maxHeartbeats 4000000
set_option autoImplicit false
namespace St
open PySem PySem.Spec L2 Fw Pg Sp
open Fd (PP pos lo hi okw okw_iff mok plc gB GB gB_iff opn)
open PyProof.Rows hiding St
end St

set_option Elab.async false
set_option linter.all false
set_option maxRecDepth 100000
set_option maxHeartbeats 8000000
set_option autoImplicit false
namespace St
open PySem PySem.Spec L2 Fw Pg Sp
open Fd (PP pos lo hi okw okw_iff mok plc)
open PyProof.Rows hiding St
end St

set_option Elab.async false
set_option linter.all false
set_option maxRecDepth 100000
set_option maxHeartbeats 8000000
set_option autoImplicit false
namespace St
open PySem PySem.Spec L2 Fw Pg Sp
open Fd (PP pos lo hi okw okw_iff mok plc pt ins_)
open PyProof.Rows hiding St
def shutL (l : List Nat) (c : Nat) : List Nat := (List.range c).filter fun o => ins_ (pt l) (pt l (o + 1)) (c + 1)
def wallL (l : List Nat) (c : Nat) : List Nat := (List.range c).filter fun p => ins_ (pt l) (pt l (c + 1)) p
def metL (l : List Nat) (c : Nat) : List Nat := ((List.range (c / 2)).map fun i => c % 2 + i * 2).filter fun o => decide (pt l (o + 1) = pt l (c + 1))
end St

set_option Elab.async false
set_option linter.all false
set_option maxRecDepth 100000
set_option maxHeartbeats 8000000
set_option autoImplicit false
namespace St
open PySem PySem.Spec L2 Fw Pg Sp
open Fd (PP pos lo hi okw okw_iff mok plc pt ins_ gB gB_iff GB opn lyg lyg_ok lyg_len lay layT)
open Un (zT)
open PyProof.Rows hiding St
/-- lengths that are let in -/
structure Ln (l : List Nat) : Prop where
  l0 : 0 < l.length
  l8 : l.length ≤ 8
  b : ∀ x ∈ l, 1 ≤ x ∧ x ≤ 1000
theorem is_tuple_ok {xs : List Va} {a b : Nat} {h : Hs} (lx : lfL xs = true) (h1 : a ≤ xs.length) (h2 : xs.length ≤ b) : G__is_tuple [.tup xs, .int (a : Nat), .int (b : Nat)] h = .ok (.bl true) h := by
  suffices hh : ∃ h', R__is_tuple [.tup xs, .int (a : Nat), .int (b : Nat)] [] = .ok (.bl true) h' by
    obtain ⟨h', hh⟩ := hh
    refine pure_of ?_ hh rfl
    simp only [lfL, lf, lx]
    rfl
  have is : ∀ h, kIs false (.ty "tuple") (.ty "tuple") h = .ok (.bl true) h := fun h => by simp
  refine ⟨[], ?_⟩
  show fin (b__is_tuple [some (.tup xs), some (.int (a : Nat)), some (.int (b : Nat))] []) = _
  unfold b__is_tuple
  simp (disch := first | omega | exact rfl) only [EV0, EV1, EV2, EV3, List.set_cons_zero, List.set_cons_succ, List.length_cons, List.length_nil, List.length_map, Nat.zero_add, List.cons_append, List.nil_append, and_self, and_true, true_and, and_false, false_and, if_true, if_false, decide_true, decide_false, decide_eq_true_eq, Bool.not_true, Bool.not_false, Bool.false_eq_true, Bool.true_eq_false, Bool.not_eq_true, eq_self, not_true_eq_false, not_false_eq_true, List.cons.injEq, Nat.reduceAdd, Nat.reduceLeDiff, Nat.reduceEqDiff, Nat.reduceSub, Nat.reduceMul, ↓reduceIte, reduceCtorEq, typ_tup, is, ln_tup, le_ok, h1, h2]
theorem lf_N (q : List Nat) : lfL (q.map vN) = true := lfL_map (g := vN) (fun _ => rfl) q
def BarsAt (l : List Nat) (h : Hs) (bars : List (Nat × Nat × Nat)) : Prop := ∀ (i : Nat) (t : Nat × Nat × Nat), bars[i]? = some t → h[t.1]? = some (.lst ((shutL l i).map vN)) ∧ h[t.2.1]? = some (.lst ((metL l i).map vN)) ∧ h[t.2.2]? = some (.lst ((wallL l i).map vN))
theorem BarsAt.gr {l : List Nat} {h h' : Hs} {bars : List (Nat × Nat × Nat)} (b : BarsAt l h bars) (g : Gr h h') : BarsAt l h' bars := fun i t e => ⟨g.at (b i t e).1, g.at (b i t e).2.1, g.at (b i t e).2.2⟩
end St

set_option Elab.async false
set_option linter.all false
set_option maxRecDepth 100000
set_option maxHeartbeats 4000000
set_option autoImplicit false
namespace Rv
open PySem PySem.Spec L2 Fw Pg
open PyProof.Rows hiding St
open Fd (PP pos)
open Fd PP
theorem lf_tN (q : List Nat) : lfL [.tup (q.map vN)] = true := by
  simp only [lfL, lf, _root_.Pg.lf_N q]
  rfl
theorem wrong24_ok {n : Nat} {q : List Nat} {h : Hs} (p : PP n q) (l : n ≤ 24) : G__wrong_in_order [.tup (q.map vN)] h = .ok .non h := by
  suffices hh : ∃ h', R__wrong_in_order [.tup (q.map vN)] [] = .ok .non h' by
    obtain ⟨h', hh⟩ := hh
    exact pure_of (lf_tN q) hh rfl
  have ql : (q.map vN).length = n := by rw [List.length_map, p.len]
  simp only [R__wrong_in_order, runB_ap, List.map_cons, List.map_nil, List.length_cons, List.length_nil, Nat.zero_add, Nat.reduceAdd, Nat.reduceSub, List.replicate_succ, List.replicate_zero, List.cons_append, List.nil_append]
  unfold b__wrong_in_order
  simp only [seq_ap, sFor_ap, enuX_ap]
  simp (disch := first | omega | exact rfl) only [EV0, EV1, EV2, EV3, List.set_cons_zero, List.set_cons_succ, List.length_cons, List.length_nil, List.length_map, Nat.zero_add, List.cons_append, List.nil_append, and_self, and_true, true_and, and_false, false_and, if_true, if_false, decide_true, decide_false, decide_eq_true_eq, Bool.not_true, Bool.not_false, Bool.false_eq_true, Bool.true_eq_false, Bool.not_eq_true, eq_self, not_true_eq_false, not_false_eq_true, List.cons.injEq, Nat.reduceAdd, Nat.reduceLeDiff, Nat.reduceEqDiff, Nat.reduceSub, Nat.reduceMul, ↓reduceIte, reduceCtorEq, enk_tup, ql]
  generalize hL : loop _ _ _ _ _ _ = L
  obtain ⟨e', h', rfl, z1, z2, rfl, rfl⟩ := loop_ev hL ql.symm (fun i en hx => ∃ (z1 z2 : Option Va), en = [some (.tup (q.map vN)), z1, z2] ∧ hx = []) ⟨none, none, rfl, rfl⟩ (by
    rintro i x en hx ei ⟨z1, z2, rfl, rfl⟩
    rw [List.getElem?_map] at ei
    obtain ⟨y, ey, rfl⟩ := Option.map_eq_some_iff.mp ei
    have yn := p.lt y (List.mem_of_getElem? ey)
    have il := (List.getElem?_eq_some_iff.mp ey).1
    have iw : ∀ h, G_is_within [.int (y : Nat), .int (0 : Nat), .int (n - 1 : Nat)] h = .ok (.bl true) h := fun h => is_within_ok (by omega) (by omega)
    have n1 : 1 ≤ n := by omega
    have sl : ∀ h, kSl (.tup (q.map vN)) none (some (i : Int)) h = .ok (.tup ((q.take i).map vN)) h := fun h => by
      have e : cutA (q.map vN) none (some (i : Int)) = (q.map vN).take i := cut_ns _ (by rw [List.length_map]; omega)
      have ne : ¬ (HT.sIx (q.map vN).length 0 none = 0 ∧ HT.sIx (q.map vN).length (q.map vN).length (some (i : Int)) = (q.map vN).length) := by
        have : HT.sIx (q.map vN).length (q.map vN).length (some (i : Int)) = i := sIx_nat (by rw [List.length_map]; omega)
        rw [this, List.length_map]
        omega
      simp only [kSl, e]
      rw [List.map_take]
      first | rfl | (rw [if_neg ne])
    have nm : y ∉ q.take i := fun w => by
      obtain ⟨j, ej⟩ := List.mem_iff_getElem?.mp w
      have jl := (List.getElem?_eq_some_iff.mp ej).1
      rw [List.length_take] at jl
      rw [List.getElem?_take_of_lt (by omega)] at ej
      have a := p.pos_at ey
      have b := p.pos_at ej
      omega
    have iN : ∀ h, kIn false (.int (y : Nat)) (.tup ((q.take i).map vN)) h = .ok (.bl false) h := fun h => by
      have fl : ((q.take i).map vN).all flA = true := by
        rw [List.all_map]
        exact List.all_eq_true.mpr fun _ _ => rfl
      have ia : inA (.int (y : Nat)) ((q.take i).map vN) = false := by
        generalize q.take i = xs at nm
        clear sl fl
        induction xs with
        | nil => rfl
        | cons z xs ih =>
          simp only [List.mem_cons, not_or] at nm
          show (eqA (vN z) (.int (y : Nat)) || inA (.int (y : Nat)) (xs.map vN)) = false
          rw [ih nm.2, Bool.or_false]
          show ((z : Int) == (y : Int)) = false
          rw [beq_eq_false_iff_ne]
          omega
      simp only [kIn, kInQ]
      rw [if_pos ⟨rfl, fl⟩, ia]
      rfl
    (apply Exists.intro; apply Exists.intro; apply And.intro; focus (simp (disch := first | omega | exact rfl) only [EV0, EV1, EV2, EV3, List.set_cons_zero, List.set_cons_succ, List.length_cons, List.length_nil, List.length_map, Nat.zero_add, List.cons_append, List.nil_append, and_self, and_true, true_and, and_false, false_and, if_true, if_false, decide_true, decide_false, decide_eq_true_eq, Bool.not_true, Bool.not_false, Bool.false_eq_true, Bool.true_eq_false, Bool.not_eq_true, eq_self, not_true_eq_false, not_false_eq_true, List.cons.injEq, Nat.reduceAdd, Nat.reduceLeDiff, Nat.reduceEqDiff, Nat.reduceSub, Nat.reduceMul, ↓reduceIte, reduceCtorEq, stp_ap, vN, ln_tup, ql, iw, sl, iN] <;> rfl))
    exact ⟨_, _, rfl, rfl⟩)
  rw [thn_nx]
  exact ⟨[], by simp (disch := first | omega | exact rfl) only [EV0, EV1, EV2, EV3, List.set_cons_zero, List.set_cons_succ, List.length_cons, List.length_nil, List.length_map, Nat.zero_add, List.cons_append, List.nil_append, and_self, and_true, true_and, and_false, false_and, if_true, if_false, decide_true, decide_false, decide_eq_true_eq, Bool.not_true, Bool.not_false, Bool.false_eq_true, Bool.true_eq_false, Bool.not_eq_true, eq_self, not_true_eq_false, not_false_eq_true, List.cons.injEq, Nat.reduceAdd, Nat.reduceLeDiff, Nat.reduceEqDiff, Nat.reduceSub, Nat.reduceMul, ↓reduceIte, reduceCtorEq]⟩

theorem Cd.atV {m : Nat} {c : List Nat} (d : Cd m c) {k : Nat} (h : k < 2 * m) : (c.map vN)[k]? = some (vN (g c k)) := by
  rw [List.getElem?_map, d.at h]
  rfl
theorem need_candidate_ok {m : Nat} {c : List Nat} {h : Hs} (d : Cd m c) (l : m ≤ 12) : G_need_candidate [.tup (c.map vN)] h = .ok .non h := by
  suffices hh : ∃ h', R_need_candidate [.tup (c.map vN)] [] = .ok .non h' by
    obtain ⟨h', hh⟩ := hh
    exact pure_of (lf_tN c) hh rfl
  have m0 := d.m0
  have ql : (c.map vN).length = 2 * m := by rw [List.length_map, d.pp.len]
  have it := fun h => _root_.St.is_tuple_ok (xs := c.map vN) (a := 2) (b := 24) (h := h) (_root_.Pg.lf_N c) (by rw [ql]; omega) (by rw [ql]; omega)
  have wr := fun h => wrong24_ok (h := h) d.pp (by omega)
  have iw : ∀ h, G_is_within [.int (0 : Nat), .int (0 : Nat), .int (0 : Nat)] h = .ok (.bl true) h := fun h => is_within_ok (by omega) (by omega)
  have isn : ∀ h, kIs true .non .non h = .ok (.bl false) h := fun h => by simp
  have i0 : ∀ h, kIx (.tup (c.map vN)) (.int (0 : Nat)) h = .ok (.int (0 : Nat)) h := fun h => by
    have e := d.atV (k := 0) (by omega)
    rw [d.z] at e
    exact ix_tupN e
  have m2 : ∀ h, kMod (.int (2 * m : Nat)) (.int (2 : Nat)) h = .ok (.int (0 : Nat)) h := fun h => by
    simp [kMod]
  refine ⟨[], ?_⟩
  show fin (b_need_candidate [some (.tup (c.map vN)), none] []) = _
  unfold b_need_candidate
  (rw [Fw.seq_ap]; conv => { pattern (Fw.thn _ _); arg 1; simp (disch := first | omega | exact rfl) only [EV0, EV1, EV2, EV3, List.set_cons_zero, List.set_cons_succ, List.length_cons, List.length_nil, List.length_map, Nat.zero_add, List.cons_append, List.nil_append, and_self, and_true, true_and, and_false, false_and, if_true, if_false, decide_true, decide_false, decide_eq_true_eq, Bool.not_true, Bool.not_false, Bool.false_eq_true, Bool.true_eq_false, Bool.not_eq_true, eq_self, not_true_eq_false, not_false_eq_true, List.cons.injEq, Nat.reduceAdd, Nat.reduceLeDiff, Nat.reduceEqDiff, Nat.reduceSub, Nat.reduceMul, ↓reduceIte, reduceCtorEq, it, ln_tup, ql, m2] }; rw [Fw.thn_nx])
  (rw [Fw.seq_ap]; conv => { pattern (Fw.thn _ _); arg 1; simp (disch := first | omega | exact rfl) only [EV0, EV1, EV2, EV3, List.set_cons_zero, List.set_cons_succ, List.length_cons, List.length_nil, List.length_map, Nat.zero_add, List.cons_append, List.nil_append, and_self, and_true, true_and, and_false, false_and, if_true, if_false, decide_true, decide_false, decide_eq_true_eq, Bool.not_true, Bool.not_false, Bool.false_eq_true, Bool.true_eq_false, Bool.not_eq_true, eq_self, not_true_eq_false, not_false_eq_true, List.cons.injEq, Nat.reduceAdd, Nat.reduceLeDiff, Nat.reduceEqDiff, Nat.reduceSub, Nat.reduceMul, ↓reduceIte, reduceCtorEq, i0, iw] }; rw [Fw.thn_nx])
  (rw [Fw.seq_ap]; conv => { pattern (Fw.thn _ _); arg 1; simp (disch := first | omega | exact rfl) only [EV0, EV1, EV2, EV3, List.set_cons_zero, List.set_cons_succ, List.length_cons, List.length_nil, List.length_map, Nat.zero_add, List.cons_append, List.nil_append, and_self, and_true, true_and, and_false, false_and, if_true, if_false, decide_true, decide_false, decide_eq_true_eq, Bool.not_true, Bool.not_false, Bool.false_eq_true, Bool.true_eq_false, Bool.not_eq_true, eq_self, not_true_eq_false, not_false_eq_true, List.cons.injEq, Nat.reduceAdd, Nat.reduceLeDiff, Nat.reduceEqDiff, Nat.reduceSub, Nat.reduceMul, ↓reduceIte, reduceCtorEq, wr] }; rw [Fw.thn_nx])
  simp (disch := first | omega | exact rfl) only [EV0, EV1, EV2, EV3, List.set_cons_zero, List.set_cons_succ, List.length_cons, List.length_nil, List.length_map, Nat.zero_add, List.cons_append, List.nil_append, and_self, and_true, true_and, and_false, false_and, if_true, if_false, decide_true, decide_false, decide_eq_true_eq, Bool.not_true, Bool.not_false, Bool.false_eq_true, Bool.true_eq_false, Bool.not_eq_true, eq_self, not_true_eq_false, not_false_eq_true, List.cons.injEq, Nat.reduceAdd, Nat.reduceLeDiff, Nat.reduceEqDiff, Nat.reduceSub, Nat.reduceMul, ↓reduceIte, reduceCtorEq, isn]
theorem by2_of {xs : List Va} {i cnt : Nat} {Y : Nat → Va} (hc : (xs.length - min i xs.length + 1) / 2 = cnt) (h : ∀ k, k < cnt → xs[min i xs.length + k * 2]? = some (Y k)) : by2 i xs = (List.range cnt).map Y := by
  unfold by2 by2I
  rw [hc, List.filterMap_map]
  have go : ∀ ks : List Nat, (∀ k ∈ ks, xs[min i xs.length + k * 2]? = some (Y k)) → ks.filterMap ((fun x => xs[x]?) ∘ fun m => min i xs.length + m * 2) = ks.map Y := by
    intro ks
    induction ks with
    | nil => intro _; rfl
    | cons k ks ih =>
      intro hk
      rw [List.filterMap_cons, Function.comp, hk k (by simp), ih fun k h => hk k (by simp [h])]
      rfl
  exact go _ fun k hk => h k (List.mem_range.mp hk)
theorem arches_along_ok {m : Nat} {c : List Nat} {h : Hs} (d : Cd m c) (l : m ≤ 12) : ∃ (as bs : List (Nat × Nat)) (a b : Nat) (h' : Hs), as.Perm (hi m c) ∧ bs.Perm (lo m c) ∧ G_arches_along [.tup (c.map vN)] h = .ok (.tup [.loc a, .loc b]) h' ∧ Gr h h' ∧ h'[a]? = some (.lst (as.map vP)) ∧ h'[b]? = some (.lst (bs.map vP)) := by
  have m0 := d.m0
  have ql : (c.map vN).length = 2 * m := by rw [List.length_map, d.pp.len]
  have b0 : by2 0 (c.map vN) = (List.range m).map fun k => vN (g c (2 * k)) := by2_of (by rw [ql]; omega) fun k hk => by
    rw [ql, show min 0 (2 * m) + k * 2 = 2 * k by omega]
    exact d.atV (by omega)
  have b1 : by2 1 (c.map vN) = (List.range m).map fun k => vN (g c (2 * k + 1)) := by2_of (by rw [ql]; omega) fun k hk => by
    rw [ql, show min 1 (2 * m) + k * 2 = 2 * k + 1 by omega]
    exact d.atV (by omega)
  have b2 : by2 2 (c.map vN) ++ (c.map vN).take 1 = (List.range m).map fun k => vN (g c ((2 * k + 1 + 1) % (2 * m))) := by
    have e : by2 2 (c.map vN) = (List.range (m - 1)).map fun k => vN (g c (2 * k + 2)) := by2_of (by rw [ql]; omega) fun k hk => by
      rw [ql, show min 2 (2 * m) + k * 2 = 2 * k + 2 by omega]
      exact d.atV (by omega)
    have t : (c.map vN).take 1 = [vN (g c 0)] := by
      rw [List.take_add_one, d.atV (by omega)]
      rfl
    obtain ⟨j, rfl⟩ : ∃ j, m = j + 1 := ⟨m - 1, by omega⟩
    rw [e, t, List.range_succ, List.map_append, Nat.add_sub_cancel]
    congr 1
    · exact List.map_congr_left fun k hk => by
        have := List.mem_range.mp hk
        rw [Nat.mod_eq_of_lt (by omega)]
    · simp only [List.map_cons, List.map_nil]
      rw [show 2 * j + 1 + 1 = 2 * (j + 1) by omega, Nat.mod_self]
  obtain ⟨as, o1, pa, ja⟩ := joined_ok (h := []) (n := m) (a := fun k => g c (2 * k)) (b := fun k => g c (2 * k + 1)) (by omega)
  obtain ⟨bs, o2, pb, jb⟩ := joined_ok (h := [o1, .lst (as.map vP)]) (n := m) (a := fun k => g c (2 * k + 1)) (b := fun k => g c ((2 * k + 1 + 1) % (2 * m))) (by omega)
  have ja : G__joined [.tup ((List.range m).map fun k => vN (g c (2 * k))), .tup ((List.range m).map fun k => vN (g c (2 * k + 1)))] [] = .ok (.loc 1) [o1, .lst (as.map vP)] := ja
  have jb : G__joined [.tup ((List.range m).map fun k => vN (g c (2 * k + 1))), .tup ((List.range m).map fun k => vN (g c ((2 * k + 1 + 1) % (2 * m))))] [o1, .lst (as.map vP)] = .ok (.loc 3) [o1, .lst (as.map vP), o2, .lst (bs.map vP)] := jb
  obtain ⟨a, b, h', e, gr, ga, gb⟩ := pure2_of (F := R_arches_along) (xs := [.tup (c.map vN)]) (ys := as.map vP) (zs := bs.map vP) (h := h) (h' := [o1, .lst (as.map vP), o2, .lst (bs.map vP)]) (a := 1) (b := 3) (lf_tN c) (by
    show fin (b_arches_along [some (.tup (c.map vN))] []) = _
    unfold b_arches_along
    have y0 : ∀ h, kBy2 (.tup (c.map vN)) (.int (0 : Nat)) h = .ok (.tup ((List.range m).map fun k => vN (g c (2 * k)))) h := fun h => by rw [← b0]; rfl
    have y1 : ∀ h, kBy2 (.tup (c.map vN)) (.int (1 : Nat)) h = .ok (.tup ((List.range m).map fun k => vN (g c (2 * k + 1)))) h := fun h => by rw [← b1]; rfl
    have y2 : ∀ h, kBy2 (.tup (c.map vN)) (.int (2 : Nat)) h = .ok (.tup (by2 2 (c.map vN))) h := fun h => rfl
    have sl : ∀ h, kSlW (.tup (c.map vN)) none (some ((1 : Nat) : Int)) h = .ok (.tup ((c.map vN).take 1)) h := fun h => slW_to' (by rw [ql]; omega)
    have ad : ∀ h, kAddW (.tup (by2 2 (c.map vN))) (.tup ((c.map vN).take 1)) h = .ok (.tup ((List.range m).map fun k => vN (g c ((2 * k + 1 + 1) % (2 * m))))) h := fun h => by
      rw [← b2]
      refine adT_ok ?_
      have := by2_le 2 (c.map vN)
      simp only [List.length_take]
      omega
    simp (disch := first | omega | exact rfl) only [EV0, EV1, EV2, EV3, List.set_cons_zero, List.set_cons_succ, List.length_cons, List.length_nil, List.length_map, Nat.zero_add, List.cons_append, List.nil_append, and_self, and_true, true_and, and_false, false_and, if_true, if_false, decide_true, decide_false, decide_eq_true_eq, Bool.not_true, Bool.not_false, Bool.false_eq_true, Bool.true_eq_false, Bool.not_eq_true, eq_self, not_true_eq_false, not_false_eq_true, List.cons.injEq, Nat.reduceAdd, Nat.reduceLeDiff, Nat.reduceEqDiff, Nat.reduceSub, Nat.reduceMul, ↓reduceIte, reduceCtorEq, sSlW_ap, sSo_ap, sNo_ap, y0, y1, y2, sl, ad, ja, jb]) rfl rfl (lfL_map (fun _ => rfl) _) (lfL_map (fun _ => rfl) _)
  have eh : ((List.range m).map fun k => pr (g c (2 * k)) (g c (2 * k + 1))) = hi m c := List.map_congr_left fun k hk => by
    have := List.mem_range.mp hk
    unfold ed
    rw [Nat.mod_eq_of_lt (by omega)]
  exact ⟨as, bs, a, b, h', eh ▸ pa, pb, e, gr, ga, gb⟩
end Rv

set_option Elab.async false
set_option linter.all false
set_option maxRecDepth 100000
set_option maxHeartbeats 4000000
set_option autoImplicit false
namespace Rv
open PySem PySem.Spec L2 Fw Pg
open PyProof.Rows hiding St
open Fd (PP pos)
open Fd PP
open Dw (Mt it2 fts walk mt Fo sz M sg word)
theorem tx_len (ps : List (Nat × Nat)) (N : Nat) : (tx ps N).length = N := by unfold tx; simp
theorem tx_set {ps : List (Nat × Nat)} {N : Nat} {p : Nat × Nat} (l : p.1 < N) : (tx ps N).set p.1 40 = tx (ps ++ [p]) N := by
  apply List.ext_getElem?
  intro k
  by_cases h : k < N
  · rw [List.getElem?_set, tx_len]
    have e : ∀ qs : List (Nat × Nat), (tx qs N)[k]? = some (if k ∈ qs.map Prod.fst then 40 else 41) := fun qs => by
      unfold tx
      rw [List.getElem?_map, List.getElem?_range h]
      rfl
    rw [e, e]
    by_cases c : p.1 = k
    · subst c
      simp [h]
    · rw [if_neg c, List.map_append]
      have : k ∈ ps.map Prod.fst ++ [p].map Prod.fst ↔ k ∈ ps.map Prod.fst := by
        simp only [List.map_cons, List.map_nil, List.mem_append, List.mem_singleton]
        constructor
        · rintro (z | z)
          · exact z
          · exact absurd z.symm c
        · exact .inl
      simp only [this]
  · rw [List.getElem?_eq_none (by rw [List.length_set, tx_len]; omega), List.getElem?_eq_none (by rw [tx_len]; omega)]
theorem tx_perm {ps qs : List (Nat × Nat)} {N : Nat} (p : ps.Perm qs) : tx ps N = tx qs N := by
  unfold tx
  refine List.map_congr_left fun k _ => ?_
  simp only [(p.map Prod.fst).mem_iff]
theorem row_with_ok {a m : Nat} {ps : List (Nat × Nat)} {h : Hs} (ea : h[a]? = some (.lst (ps.map vP))) (l : ps.length = m) (l2 : m ≤ 12) (lt : ∀ p ∈ ps, p.1 < 2 * m) : ∃ h', G__row_with [.loc a] h = .ok (.str (tx ps (2 * m))) h' ∧ Ke h h' := by
  rw [q__row_with]
  show ∃ h', fin (b__row_with [some (.loc a), none, none, none] h) = _ ∧ _
  have al := (List.getElem?_eq_some_iff.mp ea).1
  have n1 : newL [.str [41]] h = .ok (.loc h.length) (h ++ [.lst [.str [41]]]) := new_ok (by decide)
  have a1 : (h ++ [Ob.lst [.str [41]]])[a]? = some (.lst (ps.map vP)) := app_at ea
  have ln : ∀ hx, hx[a]? = some (.lst (ps.map vP)) → kLen [.loc a] hx = .ok (.int (m : Nat)) hx := fun hx e => by
    simp [lsA, e, l]
  have ln1 := ln _ a1
  have mu : ∀ h, kMul (.int (2 : Nat)) (.int (m : Nat)) h = .ok (.int (2 * m : Nat)) h := fun h => by simp [kMul]
  have mr := mul_rep (n := h.length) (N := 2 * m) (x := .str [41]) (h := h ++ [.lst [.str [41]]]) (last_at h _) (by omega)
  unfold b__row_with
  (rw [Fw.seq_ap]; conv => { pattern (Fw.thn _ _); arg 1; simp (disch := first | omega | exact rfl) only [EV0, EV1, EV2, EV3, List.set_cons_zero, List.set_cons_succ, List.length_cons, List.length_nil, List.length_map, Nat.zero_add, List.cons_append, List.nil_append, and_self, and_true, true_and, and_false, false_and, if_true, if_false, decide_true, decide_false, decide_eq_true_eq, Bool.not_true, Bool.not_false, Bool.false_eq_true, Bool.true_eq_false, Bool.not_eq_true, eq_self, not_true_eq_false, not_false_eq_true, List.cons.injEq, Nat.reduceAdd, Nat.reduceLeDiff, Nat.reduceEqDiff, Nat.reduceSub, Nat.reduceMul, ↓reduceIte, reduceCtorEq, n1, ln1, mu, mr] }; rw [Fw.thn_nx])
  generalize hq : h ++ [Ob.lst [Va.str [41]]] = hb at *
  have bl : a < hb.length := (List.getElem?_eq_some_iff.mp a1).1
  have kb : Ke h hb := by rw [← hq]; exact .app _ _
  have it : itV (.loc a) (hb ++ [Ob.lst (List.replicate (2 * m) (.str [41]))]) = some (srcL a, ps.length) := by simp [itV, app_at a1]
  rw [seq_ap, sFor_ap]
  simp (disch := first | omega | exact rfl) only [EV0, EV1, EV2, EV3, List.set_cons_zero, List.set_cons_succ, List.length_cons, List.length_nil, List.length_map, Nat.zero_add, List.cons_append, List.nil_append, and_self, and_true, true_and, and_false, false_and, if_true, if_false, decide_true, decide_false, decide_eq_true_eq, Bool.not_true, Bool.not_false, Bool.false_eq_true, Bool.true_eq_false, Bool.not_eq_true, eq_self, not_true_eq_false, not_false_eq_true, List.cons.injEq, Nat.reduceAdd, Nat.reduceLeDiff, Nat.reduceEqDiff, Nat.reduceSub, Nat.reduceMul, ↓reduceIte, reduceCtorEq, it]
  generalize hL : loop _ _ _ _ _ _ = L
  obtain ⟨e', h', rfl, ⟨z2, z3, rfl⟩, rfl⟩ := loop_ls (xs := ps.map vP) hL (by simp) (fun i en hx => (∃ z2 z3, en = [some (.loc a), some (.loc hb.length), z2, z3]) ∧ hx = hb ++ [Ob.lst ((tx (ps.take i) (2 * m)).map fun c => Va.str [c])])
    ⟨⟨none, none, rfl⟩, by
      rw [show tx (ps.take 0) (2 * m) = List.replicate (2 * m) 41 by unfold tx; simp [List.eq_replicate_iff]]
      simp⟩ (by
    rintro i en hx ⟨_, rfl⟩
    exact app_at a1) (by
    rintro i x en hx ei ⟨⟨z2, z3, rfl⟩, rfl⟩
    rw [List.getElem?_map] at ei
    obtain ⟨p, ep, rfl⟩ := Option.map_eq_some_iff.mp ei
    have pl := lt p (List.mem_of_getElem? ep)
    have ks := ks_at (i := p.1) (y := .str [40]) (last_at hb (Ob.lst ((tx (ps.take i) (2 * m)).map fun c => Va.str [c]))) (by rw [List.length_map, tx_len]; exact pl)
    refine ⟨_, _, by simp (disch := first | omega | exact rfl) only [EV0, EV1, EV2, EV3, List.set_cons_zero, List.set_cons_succ, List.length_cons, List.length_nil, List.length_map, Nat.zero_add, List.cons_append, List.nil_append, and_self, and_true, true_and, and_false, false_and, if_true, if_false, decide_true, decide_false, decide_eq_true_eq, Bool.not_true, Bool.not_false, Bool.false_eq_true, Bool.true_eq_false, Bool.not_eq_true, eq_self, not_true_eq_false, not_false_eq_true, List.cons.injEq, Nat.reduceAdd, Nat.reduceLeDiff, Nat.reduceEqDiff, Nat.reduceSub, Nat.reduceMul, ↓reduceIte, reduceCtorEq, stp_ap, vP, gSb_ap, ks] <;> rfl, ⟨_, _, rfl⟩, ?_⟩
    rw [set_last, List.take_add_one, ep]
    show _ = hb ++ [Ob.lst ((tx (ps.take i ++ [p]) (2 * m)).map _)]
    rw [← tx_set pl, List.map_set])
  rw [List.length_map, List.take_length]
  have jn := join_one (s := tx ps (2 * m)) (last_at hb (Ob.lst ((tx ps (2 * m)).map fun c => Va.str [c]))) (by rw [tx_len]; omega)
  exact ⟨_, by simp (disch := first | omega | exact rfl) only [EV0, EV1, EV2, EV3, List.set_cons_zero, List.set_cons_succ, List.length_cons, List.length_nil, List.length_map, Nat.zero_add, List.cons_append, List.nil_append, and_self, and_true, true_and, and_false, false_and, if_true, if_false, decide_true, decide_false, decide_eq_true_eq, Bool.not_true, Bool.not_false, Bool.false_eq_true, Bool.true_eq_false, Bool.not_eq_true, eq_self, not_true_eq_false, not_false_eq_true, List.cons.injEq, Nat.reduceAdd, Nat.reduceLeDiff, Nat.reduceEqDiff, Nat.reduceSub, Nat.reduceMul, ↓reduceIte, reduceCtorEq, jn] <;> rfl, kb.trans (.app _ _)⟩
/-- what meeting answers -/
structure Mg (m : Nat) (c : List Nat) (r : Option ((Nat × Nat) × (Nat × Nat))) : Prop where
  no : r = none → NX (hi m c) ∧ NX (lo m c)
  so : ∀ p q, r = some (p, q) → X p q = true ∧ ((p ∈ hi m c ∧ q ∈ hi m c) ∨ (p ∈ lo m c ∧ q ∈ lo m c))
theorem hi_len (m : Nat) (c : List Nat) : (hi m c).length = m := by unfold hi; simp
theorem lo_len (m : Nat) (c : List Nat) : (lo m c).length = m := by unfold lo; simp
theorem NX.perm {ps qs : List (Nat × Nat)} (p : ps.Perm qs) (n : NX ps) : NX qs := fun a ha b hb => n a (p.mem_iff.mpr ha) b (p.mem_iff.mpr hb)
theorem lf_vX (r : Option ((Nat × Nat) × (Nat × Nat))) : lf (vX r) = true := by cases r <;> rfl
theorem meeting_ok {m : Nat} {c : List Nat} (d : Cd m c) (l : m ≤ 12) : ∃ r, Mg m c r ∧ ∀ h, G_meeting [.tup (c.map vN)] h = .ok (vX r) h := by
  suffices hh : ∃ r, Mg m c r ∧ ∃ h', R_meeting [.tup (c.map vN)] [] = .ok (vX r) h' by
    obtain ⟨r, mg, h', hh⟩ := hh
    exact ⟨r, mg, fun h => pure_of (lf_tN c) hh (lf_vX r)⟩
  have nc := fun h => need_candidate_ok (h := h) d l
  obtain ⟨as, bs, a, b, h1, pa, pb, ar, g1, ea, eb⟩ := arches_along_ok (h := []) d l
  obtain ⟨r, h2, fc, g2, no, so⟩ := first_crossing_ok ea (by rw [pa.length_eq, hi_len]; omega)
  obtain ⟨r', h3, fc', g3, no', so'⟩ := first_crossing_ok (g2.at eb) (by rw [pb.length_eq, lo_len]; omega)
  suffices hh : ∃ r, Mg m c r ∧ ∃ h', fin (b_meeting [some (.tup (c.map vN)), none, none, none] []) = .ok (vX r) h' from hh
  unfold b_meeting
  (rw [Fw.seq_ap]; conv => { pattern (Fw.thn _ _); arg 1; simp (disch := first | omega | exact rfl) only [EV0, EV1, EV2, EV3, List.set_cons_zero, List.set_cons_succ, List.length_cons, List.length_nil, List.length_map, Nat.zero_add, List.cons_append, List.nil_append, and_self, and_true, true_and, and_false, false_and, if_true, if_false, decide_true, decide_false, decide_eq_true_eq, Bool.not_true, Bool.not_false, Bool.false_eq_true, Bool.true_eq_false, Bool.not_eq_true, eq_self, not_true_eq_false, not_false_eq_true, List.cons.injEq, Nat.reduceAdd, Nat.reduceLeDiff, Nat.reduceEqDiff, Nat.reduceSub, Nat.reduceMul, ↓reduceIte, reduceCtorEq, nc] }; rw [Fw.thn_nx])
  (rw [Fw.seq_ap]; conv => { pattern (Fw.thn _ _); arg 1; simp (disch := first | omega | exact rfl) only [EV0, EV1, EV2, EV3, List.set_cons_zero, List.set_cons_succ, List.length_cons, List.length_nil, List.length_map, Nat.zero_add, List.cons_append, List.nil_append, and_self, and_true, true_and, and_false, false_and, if_true, if_false, decide_true, decide_false, decide_eq_true_eq, Bool.not_true, Bool.not_false, Bool.false_eq_true, Bool.true_eq_false, Bool.not_eq_true, eq_self, not_true_eq_false, not_false_eq_true, List.cons.injEq, Nat.reduceAdd, Nat.reduceLeDiff, Nat.reduceEqDiff, Nat.reduceSub, Nat.reduceMul, ↓reduceIte, reduceCtorEq, ar] }; rw [Fw.thn_nx])
  (rw [Fw.seq_ap]; conv => { pattern (Fw.thn _ _); arg 1; simp (disch := first | omega | exact rfl) only [EV0, EV1, EV2, EV3, List.set_cons_zero, List.set_cons_succ, List.length_cons, List.length_nil, List.length_map, Nat.zero_add, List.cons_append, List.nil_append, and_self, and_true, true_and, and_false, false_and, if_true, if_false, decide_true, decide_false, decide_eq_true_eq, Bool.not_true, Bool.not_false, Bool.false_eq_true, Bool.true_eq_false, Bool.not_eq_true, eq_self, not_true_eq_false, not_false_eq_true, List.cons.injEq, Nat.reduceAdd, Nat.reduceLeDiff, Nat.reduceEqDiff, Nat.reduceSub, Nat.reduceMul, ↓reduceIte, reduceCtorEq, fc] }; rw [Fw.thn_nx])
  cases r with
  | none =>
    refine ⟨r', ⟨fun z => ⟨(no rfl).perm pa, (no' z).perm pb⟩, fun p q e => ?_⟩, h3, ?_⟩
    · obtain ⟨x, y, z⟩ := so' p q e
      exact ⟨z, .inr ⟨pb.mem_iff.mp x, pb.mem_iff.mp y⟩⟩
    · have i : ∀ h, kIs false (vX none) .non h = .ok (.bl true) h := fun h => by simp [vX]
      simp (disch := first | omega | exact rfl) only [EV0, EV1, EV2, EV3, List.set_cons_zero, List.set_cons_succ, List.length_cons, List.length_nil, List.length_map, Nat.zero_add, List.cons_append, List.nil_append, and_self, and_true, true_and, and_false, false_and, if_true, if_false, decide_true, decide_false, decide_eq_true_eq, Bool.not_true, Bool.not_false, Bool.false_eq_true, Bool.true_eq_false, Bool.not_eq_true, eq_self, not_true_eq_false, not_false_eq_true, List.cons.injEq, Nat.reduceAdd, Nat.reduceLeDiff, Nat.reduceEqDiff, Nat.reduceSub, Nat.reduceMul, ↓reduceIte, reduceCtorEq, i, fc']
  | some pq =>
    refine ⟨some pq, ⟨fun z => by simp at z, fun p q e => ?_⟩, h2, ?_⟩
    · obtain ⟨x, y, z⟩ := so p q e
      exact ⟨z, .inl ⟨pa.mem_iff.mp x, pa.mem_iff.mp y⟩⟩
    · have i : ∀ h, kIs false (vX (some pq)) .non h = .ok (.bl false) h := fun h => by simp [vX]
      simp (disch := first | omega | exact rfl) only [EV0, EV1, EV2, EV3, List.set_cons_zero, List.set_cons_succ, List.length_cons, List.length_nil, List.length_map, Nat.zero_add, List.cons_append, List.nil_append, and_self, and_true, true_and, and_false, false_and, if_true, if_false, decide_true, decide_false, decide_eq_true_eq, Bool.not_true, Bool.not_false, Bool.false_eq_true, Bool.true_eq_false, Bool.not_eq_true, eq_self, not_true_eq_false, not_false_eq_true, List.cons.injEq, Nat.reduceAdd, Nat.reduceLeDiff, Nat.reduceEqDiff, Nat.reduceSub, Nat.reduceMul, ↓reduceIte, reduceCtorEq, i]
theorem river_of_ok {m : Nat} {c : List Nat} (d : Cd m c) (l : m ≤ 12) : (NX (hi m c) ∧ NX (lo m c) → ∀ h, G_river_of [.tup (c.map vN)] h = .ok (.tup [.str (tx (hi m c) (2 * m)), .str (tx (lo m c) (2 * m))]) h) ∧ (¬ (NX (hi m c) ∧ NX (lo m c)) → ∀ h, G_river_of [.tup (c.map vN)] h = .ok .non h) := by
  obtain ⟨r, mg, mt⟩ := meeting_ok d l
  obtain ⟨as, bs, a, b, h1, pa, pb, ar, g1, ea, eb⟩ := arches_along_ok (h := []) d l
  constructor
  · intro nx h
    have hr : r = none := by
      cases r with
      | none => rfl
      | some pq =>
        obtain ⟨x, y⟩ := mg.so pq.1 pq.2 rfl
        rcases y with ⟨y, z⟩ | ⟨y, z⟩
        · rw [nx.1 _ y _ z] at x; cases x
        · rw [nx.2 _ y _ z] at x; cases x
    subst hr
    obtain ⟨h2, w1, k1⟩ := row_with_ok ea (by rw [pa.length_eq, hi_len]) l (fun p hp => by
      obtain ⟨x, hx, rfl⟩ := d.fo_hi p (pa.mem_iff.mp hp)
      show min x _ < _
      omega)
    obtain ⟨h3, w2, k2⟩ := row_with_ok (k1 _ _ eb) (by rw [pb.length_eq, lo_len]) l (fun p hp => by
      obtain ⟨x, hx, rfl⟩ := d.fo_lo p (pb.mem_iff.mp hp)
      show min x _ < _
      omega)
    rw [tx_perm pa] at w1
    rw [tx_perm pb] at w2
    refine pure_of (lf_tN c) (h' := h3) ?_ rfl
    show fin (b_river_of [some (.tup (c.map vN)), none, none] []) = _
    unfold b_river_of
    have i : ∀ h, kIs true (vX none) .non h = .ok (.bl false) h := fun h => by simp [vX]
    (rw [Fw.seq_ap]; conv => { pattern (Fw.thn _ _); arg 1; simp (disch := first | omega | exact rfl) only [EV0, EV1, EV2, EV3, List.set_cons_zero, List.set_cons_succ, List.length_cons, List.length_nil, List.length_map, Nat.zero_add, List.cons_append, List.nil_append, and_self, and_true, true_and, and_false, false_and, if_true, if_false, decide_true, decide_false, decide_eq_true_eq, Bool.not_true, Bool.not_false, Bool.false_eq_true, Bool.true_eq_false, Bool.not_eq_true, eq_self, not_true_eq_false, not_false_eq_true, List.cons.injEq, Nat.reduceAdd, Nat.reduceLeDiff, Nat.reduceEqDiff, Nat.reduceSub, Nat.reduceMul, ↓reduceIte, reduceCtorEq, mt, i] }; rw [Fw.thn_nx])
    (rw [Fw.seq_ap]; conv => { pattern (Fw.thn _ _); arg 1; simp (disch := first | omega | exact rfl) only [EV0, EV1, EV2, EV3, List.set_cons_zero, List.set_cons_succ, List.length_cons, List.length_nil, List.length_map, Nat.zero_add, List.cons_append, List.nil_append, and_self, and_true, true_and, and_false, false_and, if_true, if_false, decide_true, decide_false, decide_eq_true_eq, Bool.not_true, Bool.not_false, Bool.false_eq_true, Bool.true_eq_false, Bool.not_eq_true, eq_self, not_true_eq_false, not_false_eq_true, List.cons.injEq, Nat.reduceAdd, Nat.reduceLeDiff, Nat.reduceEqDiff, Nat.reduceSub, Nat.reduceMul, ↓reduceIte, reduceCtorEq, ar] }; rw [Fw.thn_nx])
    simp (disch := first | omega | exact rfl) only [EV0, EV1, EV2, EV3, List.set_cons_zero, List.set_cons_succ, List.length_cons, List.length_nil, List.length_map, Nat.zero_add, List.cons_append, List.nil_append, and_self, and_true, true_and, and_false, false_and, if_true, if_false, decide_true, decide_false, decide_eq_true_eq, Bool.not_true, Bool.not_false, Bool.false_eq_true, Bool.true_eq_false, Bool.not_eq_true, eq_self, not_true_eq_false, not_false_eq_true, List.cons.injEq, Nat.reduceAdd, Nat.reduceLeDiff, Nat.reduceEqDiff, Nat.reduceSub, Nat.reduceMul, ↓reduceIte, reduceCtorEq, w1, w2]
  · intro nx h
    obtain ⟨pq, rfl⟩ : ∃ pq, r = some pq := by
      cases r with
      | none => exact absurd (mg.no rfl) nx
      | some pq => exact ⟨pq, rfl⟩
    refine pure_of (lf_tN c) (h' := []) ?_ rfl
    show fin (b_river_of [some (.tup (c.map vN)), none, none] []) = _
    unfold b_river_of
    have i : ∀ h, kIs true (vX (some pq)) .non h = .ok (.bl true) h := fun h => by simp [vX]
    simp (disch := first | omega | exact rfl) only [EV0, EV1, EV2, EV3, List.set_cons_zero, List.set_cons_succ, List.length_cons, List.length_nil, List.length_map, Nat.zero_add, List.cons_append, List.nil_append, and_self, and_true, true_and, and_false, false_and, if_true, if_false, decide_true, decide_false, decide_eq_true_eq, Bool.not_true, Bool.not_false, Bool.false_eq_true, Bool.true_eq_false, Bool.not_eq_true, eq_self, not_true_eq_false, not_false_eq_true, List.cons.injEq, Nat.reduceAdd, Nat.reduceLeDiff, Nat.reduceEqDiff, Nat.reduceSub, Nat.reduceMul, ↓reduceIte, reduceCtorEq, seq_ap, mt, i]
/-- a river tells its path -/
theorem path_ok {f g : Fo} {c : List Nat} (l : sz f ≤ 24) (l0 : 0 < sz f) (e : sz g = sz f) (w : walk (mt f) (mt g) (sz f) 0 = c) (cl : c.length = sz f) : (∀ h, G_is_river [.str (word f), .str (word g)] h = .ok (.bl true) h) ∧ ∀ h, G_path [.str (word f), .str (word g)] h = .ok (.tup (c.map vN)) h := by
  have mu := Dw.mt_Mt f
  have ml : Mt (sz f) (mt g) := by rw [← e]; exact Dw.mt_Mt g
  have ir : ∀ h, G_is_river [.str (word f), .str (word g)] h = .ok (.bl true) h := fun h => by
    rw [Cn.is_river_ok l l0 e, decide_eq_true ((Dw.rds_one mu ml l0).mpr (by rw [w, cl]))]
  refine ⟨ir, fun h => ?_⟩
  have m1 := mates_ok (f := f) (h := []) l
  have m2 := mates_ok (f := g) (h := [] ++ [.lst ((M 0 f).map vN)]) (by omega)
  have wf := walk_from_ok (h := [] ++ [.lst ((M 0 f).map vN)] ++ [.lst ((M 0 g).map vN)]) (a := 0) (b := 1) mu ml l rfl rfl (fun x hx => Dw.mt_at hx) (fun x hx => Dw.mt_at (by omega)) l0
  simp only [List.length_nil, List.nil_append, List.length_cons, List.cons_append, Nat.zero_add] at m1 m2 wf
  rw [w] at wf
  have tp : ∀ hx n, hx[n]? = some (Ob.lst (c.map vN)) → kTpl [.loc n] hx = .ok (.tup (c.map vN)) hx := fun hx n e => by
    simp [kTpl, lsA, e, show c.length ≤ 16777216 by omega]
  have tp := tp [Ob.lst ((M 0 f).map vN), Ob.lst ((M 0 g).map vN), Ob.lst (c.map vN)] 2 rfl
  refine pure_of rfl (h' := [Ob.lst ((M 0 f).map vN), Ob.lst ((M 0 g).map vN), Ob.lst (c.map vN)]) ?_ (lf_N c)
  show fin (b_path [some (.str (word f)), some (.str (word g))] []) = _
  unfold b_path
  (rw [Fw.seq_ap]; conv => { pattern (Fw.thn _ _); arg 1; simp (disch := first | omega | exact rfl) only [EV0, EV1, EV2, EV3, List.set_cons_zero, List.set_cons_succ, List.length_cons, List.length_nil, List.length_map, Nat.zero_add, List.cons_append, List.nil_append, and_self, and_true, true_and, and_false, false_and, if_true, if_false, decide_true, decide_false, decide_eq_true_eq, Bool.not_true, Bool.not_false, Bool.false_eq_true, Bool.true_eq_false, Bool.not_eq_true, eq_self, not_true_eq_false, not_false_eq_true, List.cons.injEq, Nat.reduceAdd, Nat.reduceLeDiff, Nat.reduceEqDiff, Nat.reduceSub, Nat.reduceMul, ↓reduceIte, reduceCtorEq, ir] }; rw [Fw.thn_nx])
  have wf : G_walk_from [.loc 0, .loc 1, .int (0 : Nat)] [Ob.lst ((M 0 f).map vN), Ob.lst ((M 0 g).map vN)] = .ok (.loc 2) [Ob.lst ((M 0 f).map vN), Ob.lst ((M 0 g).map vN), Ob.lst (c.map vN)] := wf
  simp (disch := first | omega | exact rfl) only [EV0, EV1, EV2, EV3, List.set_cons_zero, List.set_cons_succ, List.length_cons, List.length_nil, List.length_map, Nat.zero_add, List.cons_append, List.nil_append, and_self, and_true, true_and, and_false, false_and, if_true, if_false, decide_true, decide_false, decide_eq_true_eq, Bool.not_true, Bool.not_false, Bool.false_eq_true, Bool.true_eq_false, Bool.not_eq_true, eq_self, not_true_eq_false, not_false_eq_true, List.cons.injEq, Nat.reduceAdd, Nat.reduceLeDiff, Nat.reduceEqDiff, Nat.reduceSub, Nat.reduceMul, ↓reduceIte, reduceCtorEq, m1, m2, wf, tp]
end Rv

set_option Elab.async false
set_option linter.all false
set_option maxRecDepth 100000
set_option maxHeartbeats 2000000
set_option autoImplicit false
namespace Lawk14
open PySem PySem.Spec L2 Fw Pg Fk
open PyProof.Rows hiding St
def b__law_crosses : Ss :=
  (sRet (sOrV (sCh3 kLt kLt kLt (s2 kIx (sVar 0) (sK (.int 0))) (s2 kIx (sVar 1) (sK (.int 0))) (s2 kIx (sVar 0) (sK (.int 1))) (s2 kIx (sVar 1) (sK (.int 1)))) (sCh3 kLt kLt kLt (s2 kIx (sVar 1) (sK (.int 0))) (s2 kIx (sVar 0) (sK (.int 0))) (s2 kIx (sVar 1) (sK (.int 1))) (s2 kIx (sVar 0) (sK (.int 1))))))
abbrev R__law_crosses : Fn := runB 2 b__law_crosses
def G__law_crosses : Fn := pureF R__law_crosses
def b__law_sides : Ss :=
  (seq (sSet 1 (sBlt kLen (sCons (sVar 0) sNil)))
  (seq (sSet 2 (sLc (sRg1 (sCons (sVar 1) sNil)) (gNm 3) tru (sTup (sCons (s2 kIx (sVar 0) (sVar 3)) (sCons (s2 kIx (sVar 0) (s2 kMod (s2 kAdd (sVar 3) (sK (.int 1))) (sVar 1))) sNil))) [3]))
  (seq (sSet 2 (sLc (sItr (sVar 2)) (gTp 2 (gsCons (gNm 4) (gsCons (gNm 5) gsNil))) tru (sTup (sCons (sBlt kMin (sCons (sVar 4) (sCons (sVar 5) sNil))) (sCons (sBlt kMax (sCons (sVar 4) (sCons (sVar 5) sNil))) sNil))) [4, 5]))
  (sRet (sTup (sCons (sLc (sRg3 (sCons (sK (.int 0)) (sCons (sVar 1) (sCons (sK (.int 2)) sNil)))) (gNm 3) tru (s2 kIx (sVar 2) (sVar 3)) [3]) (sCons (sLc (sRg3 (sCons (sK (.int 1)) (sCons (sVar 1) (sCons (sK (.int 2)) sNil)))) (gNm 3) tru (s2 kIx (sVar 2) (sVar 3)) [3]) sNil)))))))
abbrev R__law_sides : Fn := runB 6 b__law_sides
def G__law_sides : Fn := pureF R__law_sides
def b__law_text : Ss :=
  (seq (sSet 1 (sLc (sItr (sVar 0)) (gNm 2) tru (s2 kIx (sVar 2) (sK (.int 0))) [2]))
  (sRet (sMth "str" kJoin (sK (.str [])) (sCons (sLc (sRg1 (sCons (s2 kMul (sK (.int 2)) (sBlt kLen (sCons (sVar 0) sNil))) sNil)) (gNm 3) tru (sIte (sBl (s2 (kIn false) (sVar 3) (sVar 1))) (sK (.str [40])) (sK (.str [41]))) [3]) sNil))))
abbrev R__law_text : Fn := runB 4 b__law_text
@[irreducible] def G__law_text : Fn := R__law_text
theorem g__law_text (xs : List Va) (h : Hs) (_ : xs.length = 1) (_ : G__law_text xs h ≠ .bad) : R__law_text xs h = G__law_text xs h := congrFun (congrFun (show R__law_text = G__law_text from by unfold G__law_text; rfl) xs) h
def b__law_path : Ss :=
  (seq (sPar [2, 3] (sCons (sCall G__law_mates 1 [0] (sCons (sVar 0) sNil)) (sCons (sCall G__law_mates 1 [0] (sCons (sVar 1) sNil)) sNil)))
  (seq (sPar [4, 5] (sCons (sLst sNil) (sCons (sK (.int 0)) sNil)))
  (seq (sFor (sRg1 (sCons (s2 kFdv (sBlt kLen (sCons (sVar 0) sNil)) (sK (.int 2))) sNil)) (gNm 6)
  (seq (sSet 4 (s2 kAdd (sVar 4) (sLst (sCons (sVar 5) (sCons (s2 kIx (sVar 2) (sVar 5)) sNil)))))
  (seq (sSet 5 (s2 kIx (sVar 3) (s2 kIx (sVar 2) (sVar 5))))
  (sIf (sBl (s2 kEq (sVar 5) (sK (.int 0))))
  (fun e h => .bk e h)
  skip))))
  (sRet (sBlt kTpl (sCons (sVar 4) sNil))))))
abbrev R__law_path : Fn := runB 7 b__law_path
def G__law_path : Fn := pureF R__law_path
def b__law_drawn : Ss :=
  (seq (sPar [2, 3] (sCons (sLstRg2 (sK (.int 1)) (s2 kMul (sK (.int 2)) (sVar 1))) (sCons (sLst (sCons (sK (.int 0)) sNil)) sNil)))
  (seq (sFor (sRg1 (sCons (s2 kSub (s2 kMul (sK (.int 2)) (sVar 1)) (sK (.int 1))) sNil)) (gNm 4)
  (sDrop (sMth "list" kApp (sVar 3) (sCons (sMth "list" kPopA (sVar 2) (sCons (sCall G__law_pour 2 [0, 1] (sCons (sVar 0) (sCons (sBlt kLen (sCons (sVar 2) sNil)) sNil))) sNil)) sNil))))
  (sRet (sBlt kTpl (sCons (sVar 3) sNil)))))
abbrev R__law_drawn : Fn := runB 5 b__law_drawn
@[irreducible] def G__law_drawn : Fn := R__law_drawn
theorem g__law_drawn (xs : List Va) (h : Hs) (_ : xs.length = 2) (_ : G__law_drawn xs h ≠ .bad) : R__law_drawn xs h = G__law_drawn xs h := congrFun (congrFun (show R__law_drawn = G__law_drawn from by unfold G__law_drawn; rfl) xs) h
def b__law_meets : Ss :=
  (seq (sIf (sOr (sNot (sTru (sBlt kIsI (sCons (sVar 0) (sCons (sK (.ty "tuple")) sNil))))) (sOr (sBl (s2 kNe (sBlt kLen (sCons (sVar 0) sNil)) (sK (.int 2)))) (sNot (sTru (sCall G__law_crosses 2 [0, 1] (sCons (s2 kIx (sVar 0) (sK (.int 0))) (sCons (s2 kIx (sVar 0) (sK (.int 1))) sNil)))))))
  (sRet (sK (.bl false)))
  skip)
  (sRet (sOrV (sAndV (s2 (kIn false) (s2 kIx (sVar 0) (sK (.int 0))) (sVar 1)) (s2 (kIn false) (s2 kIx (sVar 0) (sK (.int 1))) (sVar 1))) (sAndV (s2 (kIn false) (s2 kIx (sVar 0) (sK (.int 0))) (sVar 2)) (s2 (kIn false) (s2 kIx (sVar 0) (sK (.int 1))) (sVar 2))))))
abbrev R__law_meets : Fn := runB 3 b__law_meets
@[irreducible] def G__law_meets : Fn := R__law_meets
theorem g__law_meets (xs : List Va) (h : Hs) (_ : xs.length = 3) (_ : G__law_meets xs h ≠ .bad) : R__law_meets xs h = G__law_meets xs h := congrFun (congrFun (show R__law_meets = G__law_meets from by unfold G__law_meets; rfl) xs) h
def b__law_candidate : Ss :=
  (seq (sSet 1 (s2 kAddW (sK (.int 1)) (sCall G__law_pour 2 [0, 1] (sCons (sVar 0) (sCons (sK (.int 6)) sNil)))))
  (seq (sSet 2 (sCall G__law_drawn 2 [0, 1] (sCons (sVar 0) (sCons (sCall G__law_pick 2 [0, 1] (sCons (sVar 0) (sCons (sLst (sCons (sK (.int 1)) (sCons (sK (.int 2)) (sCons (sK (.int 2)) (sCons (sVar 1) sNil))))) sNil))) sNil))))
  (seq (sFor (sRg1 (sCons (sK (.int 12)) sNil)) (gNm 3)
  (seq (sSet 4 (sCall G__law_path 2 [0, 1] (sCons (sCall G__law_row 2 [0, 1] (sCons (sVar 0) (sCons (sVar 1) sNil))) (sCons (sCall G__law_row 2 [0, 1] (sCons (sVar 0) (sCons (sVar 1) sNil))) sNil))))
  (sIf (sBl (s2 kEq (sBlt kLen (sCons (sVar 4) sNil)) (s2 kMul (sK (.int 2)) (sVar 1))))
  (seq (sSet 2 (sVar 4))
  (fun e h => .bk e h))
  skip)))
  (seq (sAsg (sTup (sCons (sCall G__law_pour 2 [0, 1] (sCons (sVar 0) (sCons (sBlt kLen (sCons (sVar 2) sNil)) sNil))) (sCons (sCall G__law_pour 2 [0, 1] (sCons (sVar 0) (sCons (sBlt kLen (sCons (sVar 2) sNil)) sNil))) sNil))) (gTp 2 (gsCons (gNm 5) (gsCons (gNm 6) gsNil))))
  (seq (sAsg (sTup (sCons (sBlt kMinW (sCons (sVar 5) (sCons (sVar 6) sNil))) (sCons (sBlt kMax (sCons (sVar 5) (sCons (sVar 6) sNil))) sNil))) (gTp 2 (gsCons (gNm 5) (gsCons (gNm 6) gsNil))))
  (seq (sIf (sOr (sBl (s2 kEq (sVar 5) (sK (.int 0)))) (sBl (s2 kGt (sCall G__law_pour 2 [0, 1] (sCons (sVar 0) (sCons (sK (.int 3)) sNil))) (sK (.int 0)))))
  (sRet (sVar 2))
  skip)
  (seq (sIf (sBl (s2 kEq (sCall G__law_pour 2 [0, 1] (sCons (sVar 0) (sCons (sK (.int 2)) sNil))) (sK (.int 0))))
  (sRet (s2 kAddW (s2 kAddW (sSlW (sVar 2) sNo (sSo (sVar 5))) (s1 kRevA (sSlW (sVar 2) (sSo (sVar 5)) (sSo (s2 kAddW (sVar 6) (sK (.int 1))))))) (sSlW (sVar 2) (sSo (s2 kAddW (sVar 6) (sK (.int 1)))) sNo)))
  skip)
  (sRet (sBlt kTpl (sCons (sLc (sRg1 (sCons (sBlt kLen (sCons (sVar 2) sNil)) sNil)) (gNm 7) tru (sIte (sBl (s2 kEq (sVar 7) (sVar 5))) (s2 kIx (sVar 2) (sVar 6)) (sIte (sBl (s2 kEq (sVar 7) (sVar 6))) (s2 kIx (sVar 2) (sVar 5)) (s2 kIx (sVar 2) (sVar 7)))) [7]) sNil))))))))))
abbrev R__law_candidate : Fn := runB 8 b__law_candidate
@[irreducible] def G__law_candidate : Fn := R__law_candidate
theorem g__law_candidate (xs : List Va) (h : Hs) (_ : xs.length = 1) (_ : G__law_candidate xs h ≠ .bad) : R__law_candidate xs h = G__law_candidate xs h := congrFun (congrFun (show R__law_candidate = G__law_candidate from by unfold G__law_candidate; rfl) xs) h
def b__law_right : Ss :=
  (seq (sFor (sRg1 (sCons (sK (.int 4)) sNil)) (gNm 1)
  (seq (sSet 2 (sCall G__law_candidate 1 [0] (sCons (sVar 0) sNil)))
  (seq (sAsg (sCall G__law_sides 1 [0] (sCons (sVar 2) sNil)) (gTp 2 (gsCons (gNm 3) (gsCons (gNm 4) gsNil))))
  (seq (sSet 5 (sLc (sItr (sVar 3)) (gNm 8) (sBl (s2 kNe (sLc (sItr (sVar 3)) (gNm 9) (sTru (sCall G__law_crosses 2 [0, 1] (sCons (sVar 8) (sCons (sVar 9) sNil)))) (sVar 9) [9]) (sLst sNil))) (sVar 8) [8]))
  (seq (sSet 5 (s2 kAdd (sVar 5) (sLc (sItr (sVar 4)) (gNm 8) (sBl (s2 kNe (sLc (sItr (sVar 4)) (gNm 9) (sTru (sCall G__law_crosses 2 [0, 1] (sCons (sVar 8) (sCons (sVar 9) sNil)))) (sVar 9) [9]) (sLst sNil))) (sVar 8) [8])))
  (seq (sSet 6 (sLst (sCons (sCall G_meeting 1 [0] (sCons (sVar 2) sNil)) (sCons (sCallK G_meeting 0 1 [0] sNil (sCons (sVar 2) sNil)) sNil))))
  (sIf (sBl (s2 kEq (sVar 5) (sLst sNil)))
  (seq (sSet 7 (sTup (sCons (sCall G__law_text 1 [0] (sCons (sVar 3) sNil)) (sCons (sCall G__law_text 1 [0] (sCons (sVar 4) sNil)) sNil))))
  (seq (sIf (sOr (sBl (s2 kNe (sCall G_river_of 1 [0] (sCons (sVar 2) sNil)) (sVar 7))) (sOr (sBl (s2 kNe (sCallK G_river_of 0 1 [0] sNil (sCons (sVar 2) sNil)) (sVar 7))) (sBl (s2 kNe (sVar 6) (sLst (sCons (sK .non) (sCons (sK .non) sNil)))))))
  (sRet (sK (.bl false)))
  skip)
  (sIf (sOr (sBl (s2 kNe (sCall G_path 2 [0, 1] (sCons (s2 kIx (sVar 7) (sK (.int 0))) (sCons (s2 kIx (sVar 7) (sK (.int 1))) sNil))) (sVar 2))) (sBl (s2 (kIs true) (sCall G_is_river 2 [0, 1] (sCons (s2 kIx (sVar 7) (sK (.int 0))) (sCons (s2 kIx (sVar 7) (sK (.int 1))) sNil))) (sK (.bl true)))))
  (sRet (sK (.bl false)))
  skip)))
  (sIf (sOr (sBl (s2 (kIs true) (sCall G_river_of 1 [0] (sCons (sVar 2) sNil)) (sK .non))) (sBl (s2 kNe (sLc (sItr (sVar 6)) (gNm 9) (sNot (sTru (sCall G__law_meets 3 [0, 1, 2] (sCons (sVar 9) (sCons (sVar 3) (sCons (sVar 4) sNil)))))) (sVar 9) [9]) (sLst sNil))))
  (sRet (sK (.bl false)))
  skip))))))))
  (sRet (sK (.bl true))))
abbrev R__law_right : Fn := runB 10 b__law_right
@[irreducible] def G__law_right : Fn := R__law_right
theorem g__law_right (xs : List Va) (h : Hs) (_ : xs.length = 1) (_ : G__law_right xs h ≠ .bad) : R__law_right xs h = G__law_right xs h := congrFun (congrFun (show R__law_right = G__law_right from by unfold G__law_right; rfl) xs) h
def b_law : Ss :=
  (sRet (sBlt kAll (sCons (sLc (sRg1 (sCons (sBlt kMax (sCons (sK (.int 2)) (sCons (sBlt kMin (sCons (sBlt kLen (sCons (sVar 0) sNil)) (sCons (sK (.int 4)) sNil))) sNil))) sNil)) (gNm 1) tru (sCall G__law_right 1 [0] (sCons (sCall G__law_flask 2 [0, 1] (sCons (sVar 0) (sCons (sVar 1) sNil))) sNil)) [1]) sNil)))
abbrev R_law : Fn := runB 2 b_law
end Lawk14

set_option Elab.async false
set_option linter.all false
set_option maxRecDepth 100000
set_option maxHeartbeats 2000000
set_option autoImplicit false
namespace Lawk18
open PySem PySem.Spec L2 Fw Pg Fk
open PyProof.Rows hiding St
def b__law_joined_right : Ss :=
  (seq (sFor (sItr (sVar 2)) (gTp 2 (gsCons (gNm 3) (gsCons (gNm 4) gsNil)))
  (seq (sSet 5 (sLc (sItr (sLst (sCons (sVar 3) (sCons (sVar 4) sNil)))) (gTp 2 (gsCons (gNm 6) (gsCons (gNm 7) gsNil))) tru (sIte (sTru (sVar 6)) (sVar 7) (s2 kSub (s2 kSub (s2 kMul (sK (.int 2)) (sVar 0)) (sK (.int 1))) (sVar 7))) [6, 7]))
  (sIf (sBl (s2 kNe (sCall G_mate 2 [0, 1] (sCons (sVar 1) (sCons (s2 kIx (sVar 5) (sK (.int 0))) sNil))) (s2 kIx (sVar 5) (sK (.int 1)))))
  (sRet (sK (.bl false)))
  skip)))
  (sRet (sK (.bl true))))
abbrev R__law_joined_right : Fn := runB 8 b__law_joined_right
@[irreducible] def G__law_joined_right : Fn := R__law_joined_right
def b__law_simple_right : Ss :=
  (seq (sPar [2, 3] (sCons (sCall G_unit 1 [0] (sCons (sVar 0) sNil)) (sCons (sLc (sRg1 (sCons (sVar 0) sNil)) (gNm 4) tru (sTup (sCons (sTup (sCons (sK (.bl true)) (sCons (sVar 4) sNil))) (sCons (sTup (sCons (sK (.bl false)) (sCons (sVar 4) sNil))) sNil))) [4]) sNil)))
  (seq (sIf (sOr (sNot (sTru (sCall G__law_joined_right 3 [0, 1, 2] (sCons (sVar 0) (sCons (sVar 2) (sCons (sVar 3) sNil)))))) (sBl (s2 kNe (sCall G_flip 1 [0] (sCons (sVar 2) sNil)) (sVar 2))))
  (sRet (sK (.bl false)))
  skip)
  (seq (sIf (sOr (sBl (s2 kNe (sCallK G_unit 0 1 [0] sNil (sCons (sVar 0) sNil)) (sVar 2))) (sBl (s2 kNe (sCall G_strands 1 [0] (sCons (sVar 2) sNil)) (sVar 0))))
  (sRet (sK (.bl false)))
  skip)
  (seq (sIf (sBl (s2 kLt (sVar 0) (sK (.int 2))))
  (sRet (sK (.bl true)))
  skip)
  (seq (sSet 2 (sCall G_hook 2 [0, 1] (sCons (sVar 0) (sCons (sVar 1) sNil))))
  (seq (sSet 3 (sLc (sRg1 (sCons (sVar 0) sNil)) (gNm 4) (sBl (s2 (kIn true) (sVar 4) (sLst (sCons (sVar 1) (sCons (s2 kAdd (sVar 1) (sK (.int 1))) sNil))))) (sTup (sCons (sTup (sCons (sK (.bl true)) (sCons (sVar 4) sNil))) (sCons (sTup (sCons (sK (.bl false)) (sCons (sVar 4) sNil))) sNil))) [4]))
  (seq (sSet 3 (s2 kAdd (sVar 3) (sLst (sCons (sTup (sCons (sTup (sCons (sK (.bl true)) (sCons (sVar 1) sNil))) (sCons (sTup (sCons (sK (.bl true)) (sCons (s2 kAdd (sVar 1) (sK (.int 1))) sNil))) sNil))) (sCons (sTup (sCons (sTup (sCons (sK (.bl false)) (sCons (sVar 1) sNil))) (sCons (sTup (sCons (sK (.bl false)) (sCons (s2 kAdd (sVar 1) (sK (.int 1))) sNil))) sNil))) sNil)))))
  (seq (sIf (sOr (sBl (s2 kNe (sCallK G_hook 0 2 [1, 0] sNil (sCons (sVar 1) (sCons (sVar 0) sNil))) (sVar 2))) (sNot (sTru (sCall G__law_joined_right 3 [0, 1, 2] (sCons (sVar 0) (sCons (sVar 2) (sCons (sVar 3) sNil)))))))
  (sRet (sK (.bl false)))
  skip)
  (sRet (sAndV (s2 kEq (sCall G_flip 1 [0] (sCons (sVar 2) sNil)) (sVar 2)) (s2 kEq (sCall G_strands 1 [0] (sCons (sVar 2) sNil)) (s2 kSub (sVar 0) (sK (.int 2))))))))))))))
abbrev R__law_simple_right : Fn := runB 5 b__law_simple_right
def G__law_simple_right : Fn := pureF R__law_simple_right
def b__law_right : Ss :=
  (seq (sFor (sRg1 (sCons (sK (.int 4)) sNil)) (gNm 1)
  (seq (sSet 2 (s2 kAdd (sK (.int 1)) (sCall G__law_pour 2 [0, 1] (sCons (sVar 0) (sCons (sK (.int 12)) sNil)))))
  (seq (sIf (sNot (sTru (sCall G__law_simple_right 2 [0, 1] (sCons (sVar 2) (sCons (sCall G__law_pour 2 [0, 1] (sCons (sVar 0) (sCons (sBlt kMax (sCons (sK (.int 1)) (sCons (s2 kSub (sVar 2) (sK (.int 1))) sNil))) sNil))) sNil)))))
  (sRet (sK (.bl false)))
  skip)
  (seq (sSet 3 (sCall G__law_row 2 [0, 1] (sCons (sVar 0) (sCons (sVar 2) sNil))))
  (seq (sAsg (sTup (sCons (sCall G__law_mates 1 [0] (sCons (sVar 3) sNil)) (sCons (sCall G__law_mates 1 [0] (sCons (sCall G_flip 1 [0] (sCons (sVar 3) sNil)) sNil)) sNil))) (gTp 2 (gsCons (gNm 4) (gsCons (gNm 5) gsNil))))
  (seq (sIf (sBl (s2 kNe (sLc (sRg1 (sCons (s2 kMul (sK (.int 2)) (sVar 2)) sNil)) (gNm 8) tru (s2 kSub (s2 kSub (s2 kMul (sK (.int 2)) (sVar 2)) (sK (.int 1))) (s2 kIx (sVar 5) (s2 kSub (s2 kSub (s2 kMul (sK (.int 2)) (sVar 2)) (sK (.int 1))) (sVar 8)))) [8]) (sVar 4)))
  (sRet (sK (.bl false)))
  skip)
  (seq (sIf (sOr (sBl (s2 kNe (sCall G_flip 1 [0] (sCons (sVar 3) sNil)) (sCall G_mirrored 1 [0] (sCons (sVar 3) sNil)))) (sBl (s2 kNe (sCallK G_flip 0 1 [0] sNil (sCons (sCall G_flip 1 [0] (sCons (sVar 3) sNil)) sNil)) (sVar 3))))
  (sRet (sK (.bl false)))
  skip)
  (seq (sSet 6 (sLc (sItr (sCall G_arches 1 [0] (sCons (sVar 3) sNil))) (gNm 9) (sAnd (sBl (s2 kLt (s2 kIx (sVar 9) (sK (.int 0))) (sVar 2))) (sBl (s2 kGe (s2 kIx (sVar 9) (sK (.int 1))) (sVar 2)))) (sVar 9) [9]))
  (seq (sSet 7 (sLc (sItr (sCall G_arches 1 [0] (sCons (sVar 3) sNil))) (gNm 9) (sBl (s2 kLt (s2 kIx (sVar 9) (sK (.int 1))) (sVar 2))) (sVar 9) [9]))
  (seq (sIf (sBl (s2 kNe (sLst (sCons (sCall G_strands 1 [0] (sCons (sVar 3) sNil)) (sCons (sCallK G_strands 0 1 [0] sNil (sCons (sVar 3) sNil)) (sCons (sCall G_strands 1 [0] (sCons (sCall G_flip 1 [0] (sCons (sVar 3) sNil)) sNil)) sNil)))) (s2 kMul (sLst (sCons (sBlt kLen (sCons (sVar 6) sNil)) sNil)) (sK (.int 3)))))
  (sRet (sK (.bl false)))
  skip)
  (sIf (sBl (s2 kNe (s2 kSub (sVar 2) (sBlt kLen (sCons (sVar 6) sNil))) (s2 kMul (sK (.int 2)) (sBlt kLen (sCons (sVar 7) sNil)))))
  (sRet (sK (.bl false)))
  skip)))))))))))
  (sRet (sK (.bl true))))
abbrev R__law_right : Fn := runB 10 b__law_right
@[irreducible] def G__law_right : Fn := R__law_right
theorem g__law_right (xs : List Va) (h : Hs) (_ : xs.length = 1) (_ : G__law_right xs h ≠ .bad) : R__law_right xs h = G__law_right xs h := by unfold G__law_right; rfl
def b_law : Ss :=
  (sRet (sBlt kAll (sCons (sLc (sRg1 (sCons (sBlt kMax (sCons (sK (.int 2)) (sCons (sBlt kMin (sCons (sBlt kLen (sCons (sVar 0) sNil)) (sCons (sK (.int 3)) sNil))) sNil))) sNil)) (gNm 1) tru (sCall G__law_right 1 [0] (sCons (sCall G__law_flask 2 [0, 1] (sCons (sVar 0) (sCons (sVar 1) sNil))) sNil)) [1]) sNil)))
abbrev R_law : Fn := runB 2 b_law
end Lawk18

set_option Elab.async false
set_option linter.all false
set_option maxRecDepth 100000
set_option maxHeartbeats 4000000
set_option autoImplicit false
namespace Fk
open PySem PySem.Spec L2 Fw Pg
open PyProof.Rows hiding St
theorem law_mates_ok {f : Dw.Fo} {h : Hs} (l : Dw.sz f ≤ 24) : G__law_mates [.str (Dw.word f)] h = .ok (.loc h.length) (h ++ [.lst ((Dw.M 0 f).map vN)]) := by
  suffices hh : ∃ h' m, R__law_mates [.str (Dw.word f)] [] = .ok (.loc m) h' ∧ h'[m]? = some (.lst ((Dw.M 0 f).map vN)) by
    obtain ⟨h', m, e1, e2⟩ := hh
    exact pureL_of rfl e1 e2 (lfL_map (fun _ => rfl) _)
  have wl := Dw.word_len f
  generalize hw : Dw.word f = w at *
  have n0 : newL [.int 0] [] = .ok (.loc 0) [.lst [.int 0]] := rfl
  have n1 : kMul (.loc 0) (.int (w.length : Nat)) [.lst [.int 0]] = .ok (.loc 1) [.lst [.int 0], .lst ((List.replicate w.length 0).map vN)] := by
    have e : ([Ob.lst [Va.int 0]] : Hs)[0]? = some (.lst [.int 0]) := rfl
    simp only [kMul, e]
    rw [if_pos (by simp; omega), Int.toNat_natCast, flat_rep, new_ok (by simp; omega)]
    simp [vN]
  have n2 : ∀ a b : Ob, newL [] [a, b] = .ok (.loc 2) [a, b, .lst []] := fun a b => rfl
  have nl : ∀ e h, sBlt kLen (sCons (sVar 0) sNil) (some (Va.str w) :: e) h = .ok (.int (w.length : Nat)) h := fun e h => by simp [show w.length ≤ 16777216 by omega]
  have rg : ∀ e1 e2 e3 h, sRg1 (sCons (sBlt kLen (sCons (sVar 0) sNil)) sNil) [some (.str w), e1, e2, e3] h = .ok (srcR 0 w.length, w.length) h := fun _ _ _ _ => rg1_ok (by simp [show w.length ≤ 16777216 by omega]) (by omega)
  simp [-sBlt_ap, runB_ap, b__law_mates, n0, n1, n2, nl, rg]
  generalize hL : loop _ _ _ _ _ _ = L
  obtain ⟨e', h', g1, z3, g2, g3, g4⟩ := loop_fo (s := srcR 0 w.length) (b := stp (gNm 3) (sIf (sBl (s2 kEq (s2 kIx (sVar 0) (sVar 3)) (sK (.str [40])))) (sDrop (sMth "list" kApp (sVar 2) (sCons (sVar 3) sNil))) (seq (sAsg (sMth "list" kPop (sVar 2) sNil) (gSb (sVar 1) (sVar 3))) (sAsg (sVar 3) (gSb (sVar 1) (s2 kIx (sVar 1) (sVar 3))))))) (w := w)
    (fun i st ms e h => ∃ z3 : Option Va, e = [some (.str w), some (.loc 1), some (.loc 2), z3] ∧ h = [.lst [.int 0], .lst (ms.map vN), .lst (st.map vN)] ∧ ms.length = w.length ∧ (∀ o ∈ st, o < w.length) ∧ st.length ≤ i) Dw.cm
    (by
      rintro i st ms e h hi ⟨z3, rfl, rfl, g, gs, gl⟩
      have il := (List.getElem?_eq_some_iff.mp hi).1
      have sr : srcR 0 w.length i [.lst [.int 0], .lst (ms.map vN), .lst (st.map vN)] = some (some (.int (i : Nat))) := by simp [il]
      have ix : ∀ h, kIx (.str w) (.int (i : Nat)) h = .ok (.str [40]) h := fun h => ix_str hi (by omega)
      have ap : kApp (.loc 2) [.int (i : Nat)] [.lst [.int 0], .lst (ms.map vN), .lst (st.map vN)] = .ok .non [.lst [.int 0], .lst (ms.map vN), .lst ((st ++ [i]).map vN)] := by
        have e : ([Ob.lst [Va.int 0], .lst (ms.map vN), .lst (st.map vN)] : Hs)[2]? = some (.lst (st.map vN)) := rfl
        simp only [kApp, e]
        rw [if_pos (by simp; omega)]
        simp [vN]
      refine ⟨_, _, _, sr, ?_, some (.int (i : Nat)), rfl, rfl, g, ?_, by simp; omega⟩
      · simp [stp, tyA, ix, ap]
      · intro o ho
        rcases List.mem_append.mp ho with ho | ho
        · exact gs o ho
        · simp at ho; omega)
    (by
      rintro i st o ms e h hi ⟨z3, rfl, rfl, g, gs, gl⟩
      have il := (List.getElem?_eq_some_iff.mp hi).1
      have ol : o < w.length := gs o (by simp)
      have sr : srcR 0 w.length i [.lst [.int 0], .lst (ms.map vN), .lst ((st ++ [o]).map vN)] = some (some (.int (i : Nat))) := by simp [il]
      have ix : ∀ h, kIx (.str w) (.int (i : Nat)) h = .ok (.str [41]) h := fun h => ix_str hi (by omega)
      have pp : kPop (.loc 2) [] [.lst [.int 0], .lst (ms.map vN), .lst ((st ++ [o]).map vN)] = .ok (.int (o : Nat)) [.lst [.int 0], .lst (ms.map vN), .lst (st.map vN)] := by
        have e : ([Ob.lst [Va.int 0], .lst (ms.map vN), .lst ((st ++ [o]).map vN)] : Hs)[2]? = some (.lst ((st ++ [o]).map vN)) := rfl
        simp only [kPop, e]
        simp [vN]
      simp only [List.map_append, List.map_cons, List.map_nil] at pp
      have s1 : kSet (.loc 1) (.int (i : Nat)) (.int (o : Nat)) [.lst [.int 0], .lst (ms.map vN), .lst (st.map vN)] = some [.lst [.int 0], .lst ((ms.set i o).map vN), .lst (st.map vN)] := by
        rw [ks_nat (xs := ms.map vN) rfl (by simp; omega)]
        simp [vN, List.map_set]
      have i1 : kIx (.loc 1) (.int (i : Nat)) [.lst [.int 0], .lst ((ms.set i o).map vN), .lst (st.map vN)] = .ok (.int (o : Nat)) [.lst [.int 0], .lst ((ms.set i o).map vN), .lst (st.map vN)] := ix_loc (xs := (ms.set i o).map vN) rfl (by
        rw [List.getElem?_map, List.getElem?_set_self (by omega)]
        rfl)
      have s2 : kSet (.loc 1) (.int (o : Nat)) (.int (i : Nat)) [.lst [.int 0], .lst ((ms.set i o).map vN), .lst (st.map vN)] = some [.lst [.int 0], .lst ((Dw.cm ms o i).map vN), .lst (st.map vN)] := by
        rw [ks_nat (xs := (ms.set i o).map vN) rfl (by simp; omega)]
        simp [vN, List.map_set, Dw.cm]
      rw [List.map_set] at s1 i1 s2
      refine ⟨_, _, _, sr, ?_, some (.int (i : Nat)), rfl, rfl, by simp [Dw.cm, g], fun x hx => gs x (by simp [hx]), by simp at gl; omega⟩
      simp [stp, tyA, ix, pp, gSb_ap, s1, i1, s2])
    f 0 [] [] (List.replicate w.length 0) [some (.str w), some (.loc 1), some (.loc 2), none] [.lst [.int 0], .lst ((List.replicate w.length 0).map vN), .lst []] 0 (by simp [hw]) ⟨none, rfl, rfl, by simp, by simp, by simp⟩
  rw [Nat.add_zero, Nat.zero_add, List.map_replicate] at g1
  rw [wl] at hL g1
  rw [g1] at hL
  subst g2 g3
  have en : ∀ b e h, loop (srcR 0 (Dw.sz f)) b 0 (Dw.sz f) e h = .nx e h := fun b e h => by simp [loop]
  rw [en] at hL
  subst hL
  simp
  refine ⟨_, _, ⟨rfl, rfl⟩, ?_⟩
  rw [Dw.fold_all f _ (by simp [wl])]
  rfl
end Fk
namespace Lawk18
open PySem PySem.Spec L2 Fw Pg Fk
open PyProof.Rows hiding St
/-- a top or a bottom -/
def vB (q : Bool × Nat) : Va := .tup [.bl q.1, .int (q.2 : Nat)]
def vB2 (q : (Bool × Nat) × (Bool × Nat)) : Va := .tup [vB q.1, vB q.2]
def ft (n : Nat) (q : Bool × Nat) : Nat := if q.1 = true then q.2 else 2 * n - 1 - q.2
theorem q__law_joined_right : G__law_joined_right = R__law_joined_right := by unfold G__law_joined_right; rfl
theorem joined_ok {f : Dw.Fo} {n m : Nat} {h : Hs} {ps : List ((Bool × Nat) × (Bool × Nat))} (e : Dw.sz f = 2 * n) (l : n ≤ 12) (hm : h[m]? = some (.lst (ps.map vB2))) (b : ∀ q ∈ ps, q.1.2 < n ∧ q.2.2 < n ∧ (Dw.M 0 f)[ft n q.1]? = some (ft n q.2)) :
    ∃ h', G__law_joined_right [.int (n : Nat), .str (Dw.word f), .loc m] h = .ok (.bl true) h' ∧ Gr h h' := by
  rw [q__law_joined_right]
  have iv : itV (.loc m) h = some (srcL m, ps.length) := by simp [hm]
  simp [-itV, runB_ap, b__law_joined_right, iv]
  generalize hL : loop _ _ _ _ _ _ = L
  obtain ⟨e', h', rfl, z3, z4, z5, rfl, g⟩ := loop_gen hL (fun i e h' => ∃ z3 z4 z5 : Option Va, e = [some (.int (n : Nat)), some (.str (Dw.word f)), some (.loc m), z3, z4, z5, none, none] ∧ Gr h h') ⟨none, none, none, rfl, .refl h⟩ (by
    rintro i e h1 hi ⟨z3, z4, z5, rfl, g⟩
    obtain ⟨q, e1, _⟩ := drop_cons hi
    obtain ⟨b1, b2, b3⟩ := b q (List.mem_of_getElem? e1)
    have sr : srcL m i h1 = some (some (vB2 q)) := by simp [srcL, g.at hm, e1]
    have n1 := new_ok (xs := [vB q.1, vB q.2]) (h := h1) (by simp)
    have l1 := at_last h1 (.lst [vB q.1, vB q.2])
    have k1 : Gr h1 (h1 ++ [.lst [vB q.1, vB q.2]]) := .app _ _
    generalize hg1 : h1 ++ [Ob.lst [vB q.1, vB q.2]] = g1 at *
    have c1 : lcl (srcL h1.length) (gTp 2 (gsCons (gNm 6) (gsCons (gNm 7) gsNil))) tru (sIte (sTru (sVar 6)) (sVar 7) (s2 kSub (s2 kSub (s2 kMul (sK (.int 2)) (sVar 0)) (sK (.int 1))) (sVar 7))) 2 0 (wipeE [some (.int (n : Nat)), some (.str (Dw.word f)), some (.loc m), some (vB q.1), some (vB q.2), z5, none, none] [6, 7]) g1 = .ok ([ft n q.1, ft n q.2].map vN) g1 := by
      obtain ⟨h', e, rfl⟩ : ∃ h', lcl (srcL h1.length) (gTp 2 (gsCons (gNm 6) (gsCons (gNm 7) gsNil))) tru (sIte (sTru (sVar 6)) (sVar 7) (s2 kSub (s2 kSub (s2 kMul (sK (.int 2)) (sVar 0)) (sK (.int 1))) (sVar 7))) 2 0 (wipeE [some (.int (n : Nat)), some (.str (Dw.word f)), some (.loc m), some (vB q.1), some (vB q.2), z5, none, none] [6, 7]) g1 = .ok ([ft n q.1, ft n q.2].map vN) h' ∧ h' = g1 := by
        have one : ∀ (r : Bool × Nat), r.2 < n → ∀ (h : Hs), sIte (sTru (sVar 6)) (sVar 7) (s2 kSub (s2 kSub (s2 kMul (sK (.int 2)) (sVar 0)) (sK (.int 1))) (sVar 7)) [some (.int (n : Nat)), some (.str (Dw.word f)), some (.loc m), some (vB q.1), some (vB q.2), z5, some (.bl r.1), some (.int (r.2 : Nat))] h = .ok (vN (ft n r)) h := by
          rintro ⟨c, j⟩ hj h
          cases c with
          | true => simp [trA, ft, vN]
          | false =>
            simp only at hj
            simp [trA, ft, vN, kMul]
            omega
        refine lcl_inv (n := 2) _ rfl (fun i h' => h' = g1) ?_ ?_ rfl
        · rintro i h' hi rfl
          match i, hi with
          | 0, _ => exact ⟨vB q.1, [some (.int (n : Nat)), some (.str (Dw.word f)), some (.loc m), some (vB q.1), some (vB q.2), z5, some (.bl q.1.1), some (.int (q.1.2 : Nat))], h', h', h', vN (ft n q.1), by simp [srcL, l1], by simp [wipeE, vB], rfl, one q.1 b1 _, rfl, rfl⟩
          | 1, _ => exact ⟨vB q.2, [some (.int (n : Nat)), some (.str (Dw.word f)), some (.loc m), some (vB q.1), some (vB q.2), z5, some (.bl q.2.1), some (.int (q.2.2 : Nat))], h', h', h', vN (ft n q.2), by simp [srcL, l1], by simp [wipeE, vB], rfl, one q.2 b2 _, rfl, rfl⟩
        · rintro h' rfl
          simp [srcL, l1]
      exact e
    have iv2 : itV (.loc h1.length) g1 = some (srcL h1.length, 2) := by simp [l1]
    have n2 := new_ok (xs := [ft n q.1, ft n q.2].map vN) (h := g1) (by simp)
    have l2 := at_last g1 (.lst ([ft n q.1, ft n q.2].map vN))
    have k2 : Gr g1 (g1 ++ [.lst ([ft n q.1, ft n q.2].map vN)]) := .app _ _
    generalize hg2 : g1 ++ [Ob.lst ([ft n q.1, ft n q.2].map vN)] = g2 at *
    have i0 : kIx (.loc g1.length) (.int 0) g2 = .ok (.int (ft n q.1 : Nat)) g2 := ix_loc0 l2
    have i1 : kIx (.loc g1.length) (.int 1) g2 = .ok (.int (ft n q.2 : Nat)) g2 := ix_loc1 l2
    have mk := mate_ok (h := g2) (show Dw.sz f ≤ 24 by omega) b3
    generalize ft n q.1 = f1 at *
    generalize ft n q.2 = f2 at *
    refine ⟨vB2 q, [some (.int (n : Nat)), some (.str (Dw.word f)), some (.loc m), some (vB q.1), some (vB q.2), some (.loc g1.length), none, none], g2, sr, ?_, _, _, _, rfl, (g.trans k1).trans k2⟩
    have tg : gTp 2 (gsCons (gNm 3) (gsCons (gNm 4) gsNil)) (vB2 q) [some (.int (n : Nat)), some (.str (Dw.word f)), some (.loc m), z3, z4, z5, none, none] h1 = .ok [some (.int (n : Nat)), some (.str (Dw.word f)), some (.loc m), some (vB q.1), some (vB q.2), z5, none, none] h1 := by simp [vB2]
    simp only [stp, tg]
    have s1 : sSet 5 (sLc (sItr (sLst (sCons (sVar 3) (sCons (sVar 4) sNil)))) (gTp 2 (gsCons (gNm 6) (gsCons (gNm 7) gsNil))) tru (sIte (sTru (sVar 6)) (sVar 7) (s2 kSub (s2 kSub (s2 kMul (sK (.int 2)) (sVar 0)) (sK (.int 1))) (sVar 7))) [6, 7]) [some (.int (n : Nat)), some (.str (Dw.word f)), some (.loc m), some (vB q.1), some (vB q.2), z5, none, none] h1 = .nx [some (.int (n : Nat)), some (.str (Dw.word f)), some (.loc m), some (vB q.1), some (vB q.2), some (.loc g1.length), none, none] g2 := by
      rw [sSet_ap, sLc_ap, sItr_ap, sLst_ap]
      simp only [sCons_ap, sV3, sV4, sNil_ap, fwd_ok, n1, iv2, c1, lst_, List.nil_append, n2, fwdS_ok]
      rfl
    rw [seq_nx s1]
    simp [i0, i1, mk]) (by
    rintro e h1 ⟨z3, z4, z5, rfl, g⟩
    simp [srcL, g.at hm])
  exact ⟨h', by simp, g⟩
end Lawk18

set_option Elab.async false
set_option linter.all false
set_option maxRecDepth 100000
set_option maxHeartbeats 2000000
set_option autoImplicit false
namespace Fp
open PySem PySem.Spec L2 Fw Pg Fk
open PyProof.Rows hiding St
end Fp

set_option Elab.async false
set_option linter.all false
set_option maxRecDepth 100000
set_option maxHeartbeats 4000000
set_option autoImplicit false
namespace Cn
open PySem PySem.Spec L2 Fw Pg Fk
open PyProof.Rows hiding St
open Dw (Mt it2 fts walk srtN rgo rds mt Clo Fo sz M ns mir tu hk word)
section
variable {f g : Fo} {n : Nat}
end
end Cn
namespace Fp
open PySem PySem.Spec L2 Fw Pg Fk Cn
open PyProof.Rows hiding St
open Dw (Mt it2 fts walk srtN rgo rds mt Clo Fo sz M ns mir tu hk word)
end Fp

set_option Elab.async false
set_option linter.all false
set_option maxRecDepth 100000
set_option maxHeartbeats 4000000
set_option autoImplicit false
set_option exponentiation.threshold 100000
namespace Fw
open PySem PySem.Spec L2
open PyProof.Rows hiding St
open Pg
end Fw

set_option Elab.async false
set_option linter.all false
set_option maxRecDepth 100000
set_option maxHeartbeats 2000000
set_option autoImplicit false
namespace Lawk07
open PySem PySem.Spec L2 Fw Pg Mg
open PyProof.Rows hiding St
def b__law_made : Ss :=
  (seq (sPar [2, 3, 4] (sCons (s2 kFdv (sBlt kLen (sCons (sVar 0) sNil)) (sK (.int 2))) (sCons sDn (sCons sDn sNil))))
  (seq (sFor (sItr (sCall G__law_duos 1 [0] (sCons (sVar 0) sNil))) (gTp 2 (gsCons (gNm 5) (gsCons (gNm 6) gsNil)))
  (sAsg (sTup (sCons (sVar 6) (sCons (sVar 5) sNil))) (gTp 2 (gsCons (gSbD (sVar 3) (sVar 5)) (gsCons (gSbD (sVar 3) (sVar 6)) gsNil)))))
  (seq (sFor (sItr (sCall G__law_duos 1 [0] (sCons (sVar 1) sNil))) (gTp 2 (gsCons (gNm 5) (gsCons (gNm 6) gsNil)))
  (sAsg (sTup (sCons (sVar 6) (sCons (sVar 5) sNil))) (gTp 2 (gsCons (gSbD (sVar 4) (sVar 5)) (gsCons (gSbD (sVar 4) (sVar 6)) gsNil)))))
  (seq (sAsg (sTup (sCons (sLst sNil) (sCons (sLst sNil) sNil))) (gTp 2 (gsCons (gNm 7) (gsCons (gNm 8) gsNil))))
  (seq (sFor (sRg1 (sCons (s2 kMul (sK (.int 4)) (sVar 2)) sNil)) (gNm 9)
  (seq (sPar [10, 11] (sCons (s2 kGe (sVar 9) (s2 kMul (sK (.int 2)) (sVar 2))) (sCons (s2 kMod (sBlt kInt (sCons (sVar 9) sNil)) (s2 kMul (sK (.int 2)) (sVar 2))) sNil)))
  (sIf (sAnd (sBl (s2 kNe (s2 kLt (sVar 11) (sVar 2)) (sVar 10))) (sBl (s2 (kInX true) (sTup (sCons (sVar 10) (sCons (sVar 11) sNil))) (sVar 8))))
  (seq (sSet 12 (sVar 11))
  (seq (sFor (sRg1 (sCons (s2 kMul (sK (.int 4)) (sVar 2)) sNil)) (gNm 13)
  (seq (sDrop (sMth "list" kApp (sVar 8) (sCons (sTup (sCons (sVar 10) (sCons (sVar 11) sNil))) sNil)))
  (seq (sSet 11 (sIte (sTru (sVar 10)) (s2 kIxD (sVar 4) (sVar 11)) (s2 kIxD (sVar 3) (sVar 11))))
  (seq (sDrop (sMth "list" kApp (sVar 8) (sCons (sTup (sCons (sVar 10) (sCons (sVar 11) sNil))) sNil)))
  (seq (sIf (sBl (s2 kNe (s2 kLt (sVar 11) (sVar 2)) (sVar 10)))
  (fun e h => .bk e h)
  skip)
  (sPar [10, 11] (sCons (sNotV (sVar 10)) (sCons (s2 kSub (s2 kSub (s2 kMul (sK (.int 2)) (sVar 2)) (sK (.int 1))) (sVar 11)) sNil))))))))
  (sDrop (sMth "list" kApp (sVar 7) (sCons (sTup (sCons (sVar 12) (sCons (sVar 11) sNil))) sNil)))))
  skip)))
  (seq (sSet 14 (sLc (sRg1 (sCons (sVar 2) sNil)) (gNm 16) (sBl (s2 (kInX true) (sTup (sCons (sK (.bl true)) (sCons (sVar 16) sNil))) (sVar 8))) (sVar 16) [16]))
  (seq (sSet 15 (sK (.int 0)))
  (seq (whl (sBl (s2 kNe (sVar 14) (sLst sNil)))
  (seq (sPar [11, 15] (sCons (s2 kIxD (sVar 14) (sK (.int 0))) (sCons (s2 kAdd (sVar 15) (sK (.int 1))) sNil)))
  (seq (sFor (sRg1 (sCons (s2 kMul (sK (.int 2)) (sVar 2)) sNil)) (gNm 13)
  (seq (sDrop (sMth "list" kApp (sVar 8) (sCons (sTup (sCons (sK (.bl true)) (sCons (sVar 11) sNil))) sNil)))
  (seq (sSet 11 (s2 kIxD (sVar 4) (sVar 11)))
  (seq (sDrop (sMth "list" kApp (sVar 8) (sCons (sTup (sCons (sK (.bl true)) (sCons (sVar 11) sNil))) sNil)))
  (sSet 11 (s2 kSub (s2 kSub (s2 kMul (sK (.int 2)) (sVar 2)) (sK (.int 1))) (s2 kIxD (sVar 3) (s2 kSub (s2 kSub (s2 kMul (sK (.int 2)) (sVar 2)) (sK (.int 1))) (sVar 11)))))))))
  (sSet 14 (sLc (sItr (sVar 14)) (gNm 16) (sBl (s2 (kInX true) (sTup (sCons (sK (.bl true)) (sCons (sVar 16) sNil))) (sVar 8))) (sVar 16) [16])))) 1000)
  (sRet (sTup (sCons (sCall G__law_drawn_of 1 [0] (sCons (sVar 7) sNil)) (sCons (sVar 15) sNil))))))))))))
abbrev R__law_made : Fn := runB 17 b__law_made
def G__law_made : Fn := pureF R__law_made
def b__law_flipped : Ss :=
  (sRet (sCall G__law_mirrored 1 [0] (sCons (sVar 0) sNil)))
abbrev R__law_flipped : Fn := runB 1 b__law_flipped
def G__law_flipped : Fn := pureF R__law_flipped
def b__law_two_right : Ss :=
  (seq (sAsg (sCall G_product 2 [0, 1] (sCons (sVar 0) (sCons (sCall G_flip 1 [0] (sCons (sVar 1) sNil)) sNil))) (gTp 2 (gsCons (gNm 2) (gsCons (gNm 3) gsNil))))
  (seq (sSet 4 (s2 kAdd (sCall G_closed 1 [0] (sCons (sVar 2) sNil)) (sVar 3)))
  (seq (sIf (sOr (sBl (s2 kNe (sVar 4) (sBlt kLen (sCons (sCall G__law_rounds 2 [0, 1] (sCons (sVar 0) (sCons (sVar 1) sNil))) sNil)))) (sBl (s2 kNe (sCall G_count_rounds 2 [0, 1] (sCons (sVar 0) (sCons (sVar 1) sNil))) (sVar 4))))
  (sRet (sK (.bl false)))
  skip)
  (seq (sSet 5 (s2 kFdv (sBlt kLen (sCons (sVar 0) sNil)) (sK (.int 2))))
  (seq (sSet 6 (s2 kAdd (s2 kMulS (sK (.str [40])) (sVar 5)) (s2 kMulS (sK (.str [41])) (sVar 5))))
  (seq (sIf (sOr (sBl (s2 kNe (sCall G_unit 1 [0] (sCons (sVar 5) sNil)) (sVar 6))) (sBl (s2 kNe (sCallK G_closed 0 1 [0] sNil (sCons (sVar 0) sNil)) (sBlt kLen (sCons (sCall G__law_rounds 2 [0, 1] (sCons (sVar 0) (sCons (sVar 6) sNil))) sNil)))))
  (sRet (sK (.bl false)))
  skip)
  (seq (sSet 7 (sCall G__law_made 2 [0, 1] (sCons (sVar 0) (sCons (sVar 1) sNil))))
  (seq (sIf (sBl (s2 kNe (sBlt kRpr (sCons (sLst (sCons (sCall G_product 2 [0, 1] (sCons (sVar 0) (sCons (sVar 1) sNil))) (sCons (sCallK G_product 0 2 [1, 0] sNil (sCons (sVar 1) (sCons (sVar 0) sNil))) sNil))) sNil)) (sBlt kRpr (sCons (sLst (sCons (sVar 7) (sCons (sVar 7) sNil))) sNil))))
  (sRet (sK (.bl false)))
  skip)
  (seq (sIf (sBl (s2 kNe (sLst (sCons (sCall G_flip 1 [0] (sCons (sVar 0) sNil)) (sCons (sCallK G_flip 0 1 [0] sNil (sCons (sCall G_flip 1 [0] (sCons (sVar 0) sNil)) sNil)) (sCons (sCall G_mirrored 1 [0] (sCons (sVar 0) sNil)) sNil)))) (sLst (sCons (sCall G__law_flipped 1 [0] (sCons (sVar 0) sNil)) (sCons (sVar 0) (sCons (sCall G_flip 1 [0] (sCons (sVar 0) sNil)) sNil))))))
  (sRet (sK (.bl false)))
  skip)
  (seq (sIf (sBl (s2 kNe (sCall G_product 2 [0, 1] (sCons (sCall G_flip 1 [0] (sCons (sVar 1) sNil)) (sCons (sCall G_flip 1 [0] (sCons (sVar 0) sNil)) sNil))) (sTup (sCons (sCall G_flip 1 [0] (sCons (s2 kIx (sVar 7) (sK (.int 0))) sNil)) (sCons (s2 kIx (sVar 7) (sK (.int 1))) sNil)))))
  (sRet (sK (.bl false)))
  skip)
  (seq (sSet 8 (sBlt kLen (sCons (sLc (sItr (sCall G__law_duos 1 [0] (sCons (sVar 0) sNil))) (gNm 9) (sAnd (sBl (s2 kLt (s2 kIx (sVar 9) (sK (.int 0))) (sVar 5))) (sBl (s2 kGe (s2 kIx (sVar 9) (sK (.int 1))) (sVar 5)))) (sVar 9) [9]) sNil)))
  (seq (sIf (sBl (s2 kNe (sLst (sCons (sCall G_strands 1 [0] (sCons (sVar 0) sNil)) (sCons (sCallK G_strands 0 1 [0] sNil (sCons (sCall G_flip 1 [0] (sCons (sVar 0) sNil)) sNil)) sNil))) (sLst (sCons (sVar 8) (sCons (sVar 8) sNil)))))
  (sRet (sK (.bl false)))
  skip)
  (sRet (sAndV (s2 kLe (sCall G_strands 1 [0] (sCons (s2 kIx (sVar 7) (sK (.int 0))) sNil)) (sBlt kMin (sCons (sVar 8) (sCons (sCall G_strands 1 [0] (sCons (sVar 1) sNil)) sNil)))) (s2 kEq (sCall G_count_rounds 2 [0, 1] (sCons (sCall G_turned 1 [0] (sCons (sVar 0) sNil)) (sCons (sCall G_turned 1 [0] (sCons (sVar 1) sNil)) sNil))) (sVar 4))))))))))))))))
abbrev R__law_two_right : Fn := runB 10 b__law_two_right
def G__law_two_right : Fn := pureF R__law_two_right
def b__law_right : Ss :=
  (seq (sFor (sRg1 (sCons (sK (.int 4)) sNil)) (gNm 1)
  (seq (sSet 2 (s2 kAdd (sK (.int 1)) (sCall G__law_of 2 [0, 1] (sCons (sVar 0) (sCons (sLst (sCons (sK (.int 0)) (sCons (sK (.int 1)) (sCons (sK (.int 1)) (sCons (sK (.int 2)) (sCons (sK (.int 3)) (sCons (sK (.int 5)) (sCons (sK (.int 11)) sNil)))))))) sNil)))))
  (seq (sPar [3, 4] (sCons (sCall G__law_bow 2 [0, 1] (sCons (sVar 0) (sCons (sVar 2) sNil))) (sCons (sCall G__law_bow 2 [0, 1] (sCons (sVar 0) (sCons (sVar 2) sNil))) sNil)))
  (seq (sIf (sBl (s2 kEq (sCall G__law_sip 2 [0, 1] (sCons (sVar 0) (sCons (sK (.int 5)) sNil))) (sK (.int 0))))
  (sSet 4 (s2 kAdd (s2 kMulS (sK (.str [40])) (sVar 2)) (s2 kMulS (sK (.str [41])) (sVar 2))))
  skip)
  (sIf (sNot (sTru (sCall G__law_two_right 2 [0, 1] (sCons (sVar 3) (sCons (sVar 4) sNil)))))
  (sRet (sK (.bl false)))
  skip)))))
  (sRet (sK (.bl true))))
abbrev R__law_right : Fn := runB 5 b__law_right
@[irreducible] def G__law_right : Fn := R__law_right
theorem g__law_right (xs : List Va) (h : Hs) (_ : xs.length = 1) (_ : G__law_right xs h ≠ .bad) : R__law_right xs h = G__law_right xs h := by unfold G__law_right; rfl
def b_law : Ss :=
  (sRet (sBlt kAll (sCons (sLc (sRg1 (sCons (sK (.int 2)) sNil)) (gNm 1) tru (sCall G__law_right 1 [0] (sCons (sCall G__law_mug 2 [0, 1] (sCons (sVar 0) (sCons (sVar 1) sNil))) sNil)) [1]) sNil)))
abbrev R_law : Fn := runB 2 b_law
end Lawk07

set_option Elab.async false
set_option linter.all false
set_option maxRecDepth 100000
set_option maxHeartbeats 4000000
set_option autoImplicit false
namespace Fw
open PySem PySem.Spec L2
open PyProof.Rows hiding St
instance : Enc Bool where
  deq := inferInstance
  va b := .bl b
  py b := .bool b
  ok _ := True
  dp := 0
  rd h x n l := by obtain ⟨m, rfl⟩ := rdV_pos (h := h) l (.non); rfl
  dpt x := by simp [PyData.depth]
  cl x _ := by simp [PyData.canLay0]
  eqv x y := by
    simp only [PyData.eqv]
    cases x <;> cases y <;> rfl
/-- a pair in a list of pairs -/
theorem in_P2 {α β : Type} [Enc α] [Enc β] {neg : Bool} (hd : Enc.dp (α × β) < 20) {h : Hs} {n : Nat} {x : α × β} {xs : List (α × β)} (q : h[n]? = some (.lst (xs.map Enc.va))) (hx : Enc.ok x) (hxs : ∀ y ∈ xs, Enc.ok y) : kInX neg (.tup [Enc.va x.1, Enc.va x.2]) (.loc n) h = .ok (.bl (ngB neg (decide (x ∈ xs)))) h := by
  have e1 : (Va.tup [Enc.va x.1, Enc.va x.2]) = Enc.va x := rfl
  have r1 : rdV h 24 (.tup [Enc.va x.1, Enc.va x.2]) = some (Enc.py x) := Enc.rd h x 24 (by omega)
  have r2 : rdV h 24 (.loc n) = some (.list (xs.map Enc.py)) := by
    simp only [rdV, q, mapO_enc h 23 (show Enc.dp (α × β) < 23 by omega), Option.map_some]
  have s1 : SeqAt.shaped (Enc.py x) = true := Enc.shp (by omega) x hx
  have s2 : SeqAt.shaped (.list (xs.map Enc.py)) = true := by
    have dd := Enc.dpt xs
    have cc := Enc.cl xs hxs
    have dd : (PyData.tuple (xs.map Enc.py)).depth ≤ Enc.dp (α × β) + 1 := dd
    have cc : (PyData.tuple (xs.map Enc.py)).canLay0 = true := cc
    unfold SeqAt.shaped
    have e1 : (PyData.list (xs.map Enc.py)).canLay0 = (PyData.tuple (xs.map Enc.py)).canLay0 := by simp only [PyData.canLay0]
    have e2 : (PyData.list (xs.map Enc.py)).depth = (PyData.tuple (xs.map Enc.py)).depth := by simp only [PyData.depth]
    rw [e1, e2, cc, Bool.true_and]
    exact decide_eq_true (by omega)
  have an : (xs.map Enc.py).any (fun z => PyData.eqv z (Enc.py x)) = decide (x ∈ xs) := by
    rw [List.any_map, Bool.eq_iff_iff, List.any_eq_true, decide_eq_true_eq]
    constructor
    · rintro ⟨y, hy, e⟩
      rw [Function.comp_apply, Enc.eqv, decide_eq_true_eq] at e
      rw [← e]; exact hy
    · intro hy
      exact ⟨x, hy, by rw [Function.comp_apply, Enc.eqv, decide_eq_true rfl]⟩
  have fl : flA (.tup [Enc.va x.1, Enc.va x.2]) = false := rfl
  simp only [kInX, q, kIn]
  rw [if_neg (by rw [fl]; simp)]
  simp only [kInD, r1, r2]
  rw [if_pos ⟨s1, s2⟩, an]
end Fw
namespace Lawk07
open PySem PySem.Spec L2 Fw Pg Mg Cn
open PyProof.Rows hiding St
open Dw (Mt it2 fts walk srtN rgo rds mt Clo Fo sz M ns mir tu hk word)
/-! ### places of both tangles, told as the law tells them -/
/-- a place of the two: near or far, and its foot -/
def sc (n y : Nat) : Bool × Nat := (decide (2 * n ≤ y), hr (2 * n) y)
end Lawk07

set_option Elab.async false
set_option linter.all false
set_option maxRecDepth 100000
set_option maxHeartbeats 4000000
set_option autoImplicit false
namespace Lawk14
open PySem PySem.Spec L2 Fw Pg Fk Rv
open PyProof.Rows hiding St
open Fd (PP pos)
theorem law_crosses_ok (p q : Nat × Nat) (h : Hs) : G__law_crosses [vP p, vP q] h = .ok (.bl (X p q)) h := by
  suffices hh : ∃ h', R__law_crosses [vP p, vP q] [] = .ok (.bl (X p q)) h' by
    obtain ⟨h', hh⟩ := hh
    exact pure_of rfl hh rfl
  refine ⟨[], ?_⟩
  show fin (b__law_crosses [some (vP p), some (vP q)] []) = _
  have a0 : ∀ h, s2 kIx (sVar 0) (sK (.int 0)) [some (vP p), some (vP q)] h = .ok (.int (p.1 : Nat)) h := fun h => rfl
  have a1 : ∀ h, s2 kIx (sVar 0) (sK (.int 1)) [some (vP p), some (vP q)] h = .ok (.int (p.2 : Nat)) h := fun h => rfl
  have b0 : ∀ h, s2 kIx (sVar 1) (sK (.int 0)) [some (vP p), some (vP q)] h = .ok (.int (q.1 : Nat)) h := fun h => rfl
  have b1 : ∀ h, s2 kIx (sVar 1) (sK (.int 1)) [some (vP p), some (vP q)] h = .ok (.int (q.2 : Nat)) h := fun h => rfl
  have c1 := ch3_ok (h := []) a0 b0 a1 b1
  have c2 := ch3_ok (h := []) b0 a0 b1 a1
  unfold b__law_crosses X
  cases hb : (decide (p.1 < q.1) && (decide (q.1 < p.2) && decide (p.2 < q.2)))
  · rw [hb] at c1
    rw [sRet_ap, sOrV_ap, c1, fwd_ok, asB_bl, byB_f, c2, Bool.false_or]
    rfl
  · rw [hb] at c1
    rw [sRet_ap, sOrV_ap, c1, fwd_ok, asB_bl, byB_t, Bool.true_or]
    rfl
theorem rs_up2 : ∀ a, a < 2 → ∀ b, b < 14 → Builtin.Range.small (a : Nat) (b : Nat) 2 = true ∧ Builtin.Range.rangeSize (a : Nat) (b : Nat) 2 = (((b - a + 1) / 2 : Nat) : Int) := by decide +kernel
theorem rgk3_up2 {a b : Nat} {h : Hs} (ha : a < 2) (hb : b < 14) : rgk3 [.int (a : Nat), .int (b : Nat), .int (2 : Nat)] h = .ok (srcC (a : Nat) 2 ((b - a + 1) / 2), (b - a + 1) / 2) h := by
  obtain ⟨x, y⟩ := rs_up2 a ha b hb
  have e : ((((b - a + 1) / 2 : Nat) : Int)).toNat = (b - a + 1) / 2 := Int.toNat_natCast _
  have p : (0 : Int) ≤ (((b - a + 1) / 2 : Nat) : Int) := by omega
  generalize (b - a + 1) / 2 = N at *
  show (if ((2 : Int) ≠ 0 ∧ (2 : Int).natAbs < 1073741824) ∧ Builtin.Range.small (a : Nat) (b : Nat) 2 = true ∧ 0 ≤ Builtin.Range.rangeSize (a : Nat) (b : Nat) 2 then Rs.ok (srcC (a : Nat) 2 (Builtin.Range.rangeSize (a : Nat) (b : Nat) 2).toNat, (Builtin.Range.rangeSize (a : Nat) (b : Nat) 2).toNat) h else .bad) = _
  rw [if_pos ⟨by decide, x, by omega⟩, y, e]
theorem law_sides_ok {m : Nat} {c : List Nat} {h : Hs} (d : Cd m c) (l : m ≤ 6) : ∃ (a b : Nat) (h' : Hs), G__law_sides [.tup (c.map vN)] h = .ok (.tup [.loc a, .loc b]) h' ∧ Gr h h' ∧ h'[a]? = some (.lst ((hi m c).map vP)) ∧ h'[b]? = some (.lst ((lo m c).map vP)) := by
  have m0 := d.m0
  have ql : (c.map vN).length = 2 * m := by rw [List.length_map, d.pp.len]
  obtain ⟨P1, hP1⟩ : ∃ P : List Va, P = (List.range (2 * m)).map fun k => .tup [vN (g c k), vN (g c ((k + 1) % (2 * m)))] := ⟨_, rfl⟩
  obtain ⟨P2, hP2⟩ : ∃ P : List Va, P = (List.range (2 * m)).map fun k => vP (ed c (2 * m) k) := ⟨_, rfl⟩
  refine pure2_of (F := R__law_sides) (h' := [.lst P1, .lst P2, .lst ((hi m c).map vP), .lst ((lo m c).map vP)]) (a := 2) (b := 3) (lf_tN c) ?_ rfl rfl (lfL_map (fun _ => rfl) _) (lfL_map (fun _ => rfl) _)
  have i0 : ∀ k h, k < 2 * m → kIx (.tup (c.map vN)) (.int (k : Nat)) h = .ok (.int (g c k : Nat)) h := fun k h hk => ix_tupN (d.atV hk)
  have md : ∀ k h, kMod (.int (k + 1 : Nat)) (.int (2 * m : Nat)) h = .ok (.int ((k + 1) % (2 * m) : Nat)) h := fun k h => by
    have e : ((k + 1 : Nat) : Int) % ((2 * m : Nat) : Int) = (((k + 1) % (2 * m) : Nat) : Int) := (Int.natCast_emod _ _).symm
    simp only [kMod]
    rw [if_pos (by omega), e]
  have l1 : ∀ en2 en3 en4 en5, lcl (srcR 0 (2 * m)) (gNm 3) tru (sTup (sCons (s2 kIx (sVar 0) (sVar 3)) (sCons (s2 kIx (sVar 0) (s2 kMod (s2 kAdd (sVar 3) (sK (.int (1 : Nat)))) (sVar 1))) sNil))) (2 * m) 0 [some (.tup (c.map vN)), some (.int (2 * m : Nat)), en2, en3, en4, en5] [] = .ok P1 [] := fun _ _ _ _ => by
    rw [hP1]
    refine lcl_rg _ fun k hk => ⟨_, rfl, rfl, ?_⟩
    have i1 := fun h => i0 k h hk
    have i2 := fun h => i0 ((k + 1) % (2 * m)) h (Nat.mod_lt _ (by omega))
    have mk := fun h => md k h
    simp (disch := first | omega | exact rfl) only [EV0, EV1, EV2, EV3, List.set_cons_zero, List.set_cons_succ, List.length_cons, List.length_nil, List.length_map, Nat.zero_add, List.cons_append, List.nil_append, and_self, and_true, true_and, and_false, false_and, if_true, if_false, decide_true, decide_false, decide_eq_true_eq, Bool.not_true, Bool.not_false, Bool.false_eq_true, Bool.true_eq_false, Bool.not_eq_true, eq_self, not_true_eq_false, not_false_eq_true, List.cons.injEq, Nat.reduceAdd, Nat.reduceLeDiff, Nat.reduceEqDiff, Nat.reduceSub, Nat.reduceMul, ↓reduceIte, reduceCtorEq, i1, i2, mk] <;> rfl
  have l2 : ∀ en2 en3 en4 en5, lcl (srcL 0) (gTp 2 (gsCons (gNm 4) (gsCons (gNm 5) gsNil))) tru (sTup (sCons (sBlt kMin (sCons (sVar 4) (sCons (sVar 5) sNil))) (sCons (sBlt kMax (sCons (sVar 4) (sCons (sVar 5) sNil))) sNil))) (2 * m) 0 [some (.tup (c.map vN)), some (.int (2 * m : Nat)), en2, en3, en4, en5] [.lst P1] = .ok P2 [.lst P1] := fun _ _ _ _ => by
    have w : P2 = (List.range (2 * m)).map fun k => vP (ed c (2 * m) k) := hP2
    rw [w]
    exact lcl_pure (fun k => .tup [vN (g c k), vN (g c ((k + 1) % (2 * m)))]) _ (fun i hi => by simp [srcL, hP1, hi]) (by simp [srcL, hP1]) fun k hk => ⟨_, by simp (disch := first | omega | exact rfl) only [EV0, EV1, EV2, EV3, List.set_cons_zero, List.set_cons_succ, List.length_cons, List.length_nil, List.length_map, Nat.zero_add, List.cons_append, List.nil_append, and_self, and_true, true_and, and_false, false_and, if_true, if_false, decide_true, decide_false, decide_eq_true_eq, Bool.not_true, Bool.not_false, Bool.false_eq_true, Bool.true_eq_false, Bool.not_eq_true, eq_self, not_true_eq_false, not_false_eq_true, List.cons.injEq, Nat.reduceAdd, Nat.reduceLeDiff, Nat.reduceEqDiff, Nat.reduceSub, Nat.reduceMul, ↓reduceIte, reduceCtorEq] <;> rfl, rfl, by simp (disch := first | omega | exact rfl) only [EV0, EV1, EV2, EV3, List.set_cons_zero, List.set_cons_succ, List.length_cons, List.length_nil, List.length_map, Nat.zero_add, List.cons_append, List.nil_append, and_self, and_true, true_and, and_false, false_and, if_true, if_false, decide_true, decide_false, decide_eq_true_eq, Bool.not_true, Bool.not_false, Bool.false_eq_true, Bool.true_eq_false, Bool.not_eq_true, eq_self, not_true_eq_false, not_false_eq_true, List.cons.injEq, Nat.reduceAdd, Nat.reduceLeDiff, Nat.reduceEqDiff, Nat.reduceSub, Nat.reduceMul, ↓reduceIte, reduceCtorEq, vN, mn_ok, mx_ok] <;> rfl⟩
  have ip : ∀ k (h : Hs), h[1]? = some (.lst P2) → k < 2 * m → kIx (.loc 1) (.int (k : Nat)) h = .ok (vP (ed c (2 * m) k)) h := fun k h e hk => ix_loc e (by simp [hP2, hk])
  have l3 : ∀ e1 e3 e4 e5, lcl (srcC ((0 : Nat) : Int) 2 m) (gNm 3) tru (s2 kIx (sVar 2) (sVar 3)) m 0 [some (.tup (c.map vN)), e1, some (.loc 1), e3, e4, e5] [.lst P1, .lst P2] = .ok ((hi m c).map vP) [.lst P1, .lst P2] := fun e1 e3 e4 e5 => by
    have := lcl_pure (s := srcC ((0 : Nat) : Int) 2 m) (g := gNm 3) (t := tru) (el := s2 kIx (sVar 2) (sVar 3)) (n := m) (e := [some (.tup (c.map vN)), e1, some (.loc 1), e3, e4, e5]) (h := [.lst P1, .lst P2]) (fun i => .int (2 * i : Nat)) (fun i => vP (ed c (2 * m) (2 * i))) (fun i hi => by rw [srcC_at hi]; simp; omega) srcC_end fun i hi => ⟨_, rfl, rfl, by
      have := ip (2 * i) [.lst P1, .lst P2] rfl (by omega)
      simp (disch := first | omega | exact rfl) only [EV0, EV1, EV2, EV3, List.set_cons_zero, List.set_cons_succ, List.length_cons, List.length_nil, List.length_map, Nat.zero_add, List.cons_append, List.nil_append, and_self, and_true, true_and, and_false, false_and, if_true, if_false, decide_true, decide_false, decide_eq_true_eq, Bool.not_true, Bool.not_false, Bool.false_eq_true, Bool.true_eq_false, Bool.not_eq_true, eq_self, not_true_eq_false, not_false_eq_true, List.cons.injEq, Nat.reduceAdd, Nat.reduceLeDiff, Nat.reduceEqDiff, Nat.reduceSub, Nat.reduceMul, ↓reduceIte, reduceCtorEq, this]⟩
    rw [this]
    unfold hi
    rw [List.map_map]
    rfl
  have l4 : ∀ e1 e3 e4 e5, lcl (srcC ((1 : Nat) : Int) 2 m) (gNm 3) tru (s2 kIx (sVar 2) (sVar 3)) m 0 [some (.tup (c.map vN)), e1, some (.loc 1), e3, e4, e5] [.lst P1, .lst P2, .lst ((hi m c).map vP)] = .ok ((lo m c).map vP) [.lst P1, .lst P2, .lst ((hi m c).map vP)] := fun e1 e3 e4 e5 => by
    have := lcl_pure (s := srcC ((1 : Nat) : Int) 2 m) (g := gNm 3) (t := tru) (el := s2 kIx (sVar 2) (sVar 3)) (n := m) (e := [some (.tup (c.map vN)), e1, some (.loc 1), e3, e4, e5]) (h := [.lst P1, .lst P2, .lst ((hi m c).map vP)]) (fun i => .int (2 * i + 1 : Nat)) (fun i => vP (ed c (2 * m) (2 * i + 1))) (fun i hi => by rw [srcC_at hi]; simp; omega) srcC_end fun i hi => ⟨_, rfl, rfl, by
      have := ip (2 * i + 1) [.lst P1, .lst P2, .lst ((Rv.hi m c).map vP)] rfl (by omega)
      simp (disch := first | omega | exact rfl) only [EV0, EV1, EV2, EV3, List.set_cons_zero, List.set_cons_succ, List.length_cons, List.length_nil, List.length_map, Nat.zero_add, List.cons_append, List.nil_append, and_self, and_true, true_and, and_false, false_and, if_true, if_false, decide_true, decide_false, decide_eq_true_eq, Bool.not_true, Bool.not_false, Bool.false_eq_true, Bool.true_eq_false, Bool.not_eq_true, eq_self, not_true_eq_false, not_false_eq_true, List.cons.injEq, Nat.reduceAdd, Nat.reduceLeDiff, Nat.reduceEqDiff, Nat.reduceSub, Nat.reduceMul, ↓reduceIte, reduceCtorEq, this]⟩
    rw [this]
    unfold Rv.lo
    rw [List.map_map]
    rfl
  have n1 : newL P1 [] = .ok (.loc 0) [.lst P1] := new_ok (by simp [hP1]; omega)
  have n2 : newL P2 [.lst P1] = .ok (.loc 1) [.lst P1, .lst P2] := new_ok (by simp [hP2]; omega)
  have n3 : newL ((hi m c).map vP) [.lst P1, .lst P2] = .ok (.loc 2) [.lst P1, .lst P2, .lst ((hi m c).map vP)] := new_ok (by rw [List.length_map, hi_len]; omega)
  have n4 : newL ((lo m c).map vP) [.lst P1, .lst P2, .lst ((hi m c).map vP)] = .ok (.loc 3) [.lst P1, .lst P2, .lst ((hi m c).map vP), .lst ((lo m c).map vP)] := new_ok (by rw [List.length_map, lo_len]; omega)
  have r0 := fun h => rgk3_up2 (a := 0) (b := 2 * m) (h := h) (by omega) (by omega)
  have r1 := fun h => rgk3_up2 (a := 1) (b := 2 * m) (h := h) (by omega) (by omega)
  rw [show (2 * m - 0 + 1) / 2 = m by omega] at r0
  rw [show (2 * m - 1 + 1) / 2 = m by omega] at r1
  have it : itV (.loc 0) [Ob.lst P1] = some (srcL 0, 2 * m) := by simp [itV, hP1]
  simp only [R__law_sides, runB_ap, List.map_cons, List.map_nil, List.length_cons, List.length_nil, Nat.zero_add, Nat.reduceAdd, Nat.reduceSub, List.replicate_succ, List.replicate_zero, List.cons_append, List.nil_append]
  unfold b__law_sides
  (rw [Fw.seq_ap]; conv => { pattern (Fw.thn _ _); arg 1; simp (disch := first | omega | exact rfl) only [EV0, EV1, EV2, EV3, List.set_cons_zero, List.set_cons_succ, List.length_cons, List.length_nil, List.length_map, Nat.zero_add, List.cons_append, List.nil_append, and_self, and_true, true_and, and_false, false_and, if_true, if_false, decide_true, decide_false, decide_eq_true_eq, Bool.not_true, Bool.not_false, Bool.false_eq_true, Bool.true_eq_false, Bool.not_eq_true, eq_self, not_true_eq_false, not_false_eq_true, List.cons.injEq, Nat.reduceAdd, Nat.reduceLeDiff, Nat.reduceEqDiff, Nat.reduceSub, Nat.reduceMul, ↓reduceIte, reduceCtorEq, ln_tup, ql] }; rw [Fw.thn_nx])
  (rw [Fw.seq_ap]; conv => { pattern (Fw.thn _ _); arg 1; simp (disch := first | omega | exact rfl) only [EV0, EV1, EV2, EV3, List.set_cons_zero, List.set_cons_succ, List.length_cons, List.length_nil, List.length_map, Nat.zero_add, List.cons_append, List.nil_append, and_self, and_true, true_and, and_false, false_and, if_true, if_false, decide_true, decide_false, decide_eq_true_eq, Bool.not_true, Bool.not_false, Bool.false_eq_true, Bool.true_eq_false, Bool.not_eq_true, eq_self, not_true_eq_false, not_false_eq_true, List.cons.injEq, Nat.reduceAdd, Nat.reduceLeDiff, Nat.reduceEqDiff, Nat.reduceSub, Nat.reduceMul, ↓reduceIte, reduceCtorEq, sRg1_k, rgk1_ok, l1, lst_ok, n1] }; rw [Fw.thn_nx])
  (rw [Fw.seq_ap]; conv => { pattern (Fw.thn _ _); arg 1; simp (disch := first | omega | exact rfl) only [EV0, EV1, EV2, EV3, List.set_cons_zero, List.set_cons_succ, List.length_cons, List.length_nil, List.length_map, Nat.zero_add, List.cons_append, List.nil_append, and_self, and_true, true_and, and_false, false_and, if_true, if_false, decide_true, decide_false, decide_eq_true_eq, Bool.not_true, Bool.not_false, Bool.false_eq_true, Bool.true_eq_false, Bool.not_eq_true, eq_self, not_true_eq_false, not_false_eq_true, List.cons.injEq, Nat.reduceAdd, Nat.reduceLeDiff, Nat.reduceEqDiff, Nat.reduceSub, Nat.reduceMul, ↓reduceIte, reduceCtorEq, it, l2, lst_ok, n2] }; rw [Fw.thn_nx])
  simp (disch := first | omega | exact rfl) only [EV0, EV1, EV2, EV3, List.set_cons_zero, List.set_cons_succ, List.length_cons, List.length_nil, List.length_map, Nat.zero_add, List.cons_append, List.nil_append, and_self, and_true, true_and, and_false, false_and, if_true, if_false, decide_true, decide_false, decide_eq_true_eq, Bool.not_true, Bool.not_false, Bool.false_eq_true, Bool.true_eq_false, Bool.not_eq_true, eq_self, not_true_eq_false, not_false_eq_true, List.cons.injEq, Nat.reduceAdd, Nat.reduceLeDiff, Nat.reduceEqDiff, Nat.reduceSub, Nat.reduceMul, ↓reduceIte, reduceCtorEq, sRg3_k, r0, r1, l3, l4, lst_ok, n3, n4]
end Lawk14

set_option Elab.async false
set_option linter.all false
set_option maxRecDepth 100000
set_option maxHeartbeats 4000000
set_option autoImplicit false
namespace Lawk14
open PySem PySem.Spec L2 Fw Pg Fk Rv
open PyProof.Rows hiding St
open Fd (PP pos)
theorem q__law_text : G__law_text = R__law_text := by unfold G__law_text; rfl
theorem q__law_meets : G__law_meets = R__law_meets := by unfold G__law_meets; rfl
theorem in_P {neg : Bool} {h : Hs} {n : Nat} {x : Nat × Nat} {xs : List (Nat × Nat)} (q : h[n]? = some (.lst (xs.map vP))) : kIn neg (vP x) (.loc n) h = .ok (.bl (ngB neg (decide (x ∈ xs)))) h := by
  have := in_P2 (α := Nat) (β := Nat) (neg := neg) (by decide) (x := x) (xs := xs) (h := h) (n := n) q ⟨trivial, trivial⟩ (fun _ _ => ⟨trivial, trivial⟩)
  have e : kInX neg (vP x) (.loc n) h = kIn neg (vP x) (.loc n) h := by simp only [kInX, q]
  rw [← e]
  exact this
theorem law_text_ok {a m : Nat} {ps : List (Nat × Nat)} {h : Hs} (ea : h[a]? = some (.lst (ps.map vP))) (l : ps.length = m) (l2 : m ≤ 12) : ∃ h', G__law_text [.loc a] h = .ok (.str (tx ps (2 * m))) h' ∧ Gr h h' := by
  rw [q__law_text]
  have it : itV (.loc a) h = some (srcL a, ps.length) := by simp [itV, ea]
  have l1 : ∀ e1 e2 e3, lcl (srcL a) (gNm 2) tru (s2 kIx (sVar 2) (sK (.int (0 : Nat)))) ps.length 0 [some (.loc a), e1, e2, e3] h = .ok (ps.map fun p => vN p.1) h := fun e1 e2 e3 =>
    lcl_xs (f := vP) _ (fun i => by simp [srcL, ea]) fun p hp => ⟨_, rfl, rfl, rfl⟩
  have n1 := new_ok (xs := ps.map fun p => vN p.1) (h := h) (by rw [List.length_map]; omega)
  have ex : ∀ i, i < 2 * m → ∃ c : Nat, c = (if i ∈ ps.map Prod.fst then 40 else 41) := fun i _ => ⟨_, rfl⟩
  have el := last_at h (Ob.lst (ps.map fun p => vN p.1))
  have ln : kLen [.loc a] (h ++ [.lst (ps.map fun p => vN p.1)]) = .ok (.int (m : Nat)) (h ++ [.lst (ps.map fun p => vN p.1)]) := by
    rw [ln_loc (app_at ea), List.length_map, l]
  have mu : ∀ h, kMul (.int (2 : Nat)) (.int (m : Nat)) h = .ok (.int (2 * m : Nat)) h := fun h => by simp [kMul]
  generalize hb : h ++ [Ob.lst (ps.map fun p => vN p.1)] = H at *
  have el' : H[h.length]? = some (.lst ((ps.map Prod.fst).map vN)) := by rw [el, List.map_map]; rfl
  have l3 : ∀ e2 e3, lcl (srcR 0 (2 * m)) (gNm 3) tru (sIte (sBl (s2 (kIn false) (sVar 3) (sVar 1))) (sK (.str [40])) (sK (.str [41]))) (2 * m) 0 [some (.loc a), some (.loc h.length), e2, e3] H = .ok ((tx ps (2 * m)).map fun c => Va.str [c]) H := fun e2 e3 => by
    unfold tx
    rw [List.map_map]
    refine lcl_rg _ fun k hk => ⟨_, rfl, rfl, ?_⟩
    have i := in_N (neg := false) (x := k) el'
    by_cases w : k ∈ ps.map Prod.fst
    · rw [decide_eq_true w] at i
      simp only [Function.comp, if_pos w]
      simp (disch := first | omega | exact rfl) only [EV0, EV1, EV2, EV3, List.set_cons_zero, List.set_cons_succ, List.length_cons, List.length_nil, List.length_map, Nat.zero_add, List.cons_append, List.nil_append, and_self, and_true, true_and, and_false, false_and, if_true, if_false, decide_true, decide_false, decide_eq_true_eq, Bool.not_true, Bool.not_false, Bool.false_eq_true, Bool.true_eq_false, Bool.not_eq_true, eq_self, not_true_eq_false, not_false_eq_true, List.cons.injEq, Nat.reduceAdd, Nat.reduceLeDiff, Nat.reduceEqDiff, Nat.reduceSub, Nat.reduceMul, ↓reduceIte, reduceCtorEq, i, ngB]
    · rw [decide_eq_false w] at i
      simp only [Function.comp, if_neg w]
      simp (disch := first | omega | exact rfl) only [EV0, EV1, EV2, EV3, List.set_cons_zero, List.set_cons_succ, List.length_cons, List.length_nil, List.length_map, Nat.zero_add, List.cons_append, List.nil_append, and_self, and_true, true_and, and_false, false_and, if_true, if_false, decide_true, decide_false, decide_eq_true_eq, Bool.not_true, Bool.not_false, Bool.false_eq_true, Bool.true_eq_false, Bool.not_eq_true, eq_self, not_true_eq_false, not_false_eq_true, List.cons.injEq, Nat.reduceAdd, Nat.reduceLeDiff, Nat.reduceEqDiff, Nat.reduceSub, Nat.reduceMul, ↓reduceIte, reduceCtorEq, i, ngB]
  have n3 := new_ok (xs := (tx ps (2 * m)).map fun c => Va.str [c]) (h := H) (by rw [List.length_map, tx_len]; omega)
  have jn := join_one (s := tx ps (2 * m)) (last_at H (Ob.lst ((tx ps (2 * m)).map fun c => Va.str [c]))) (by rw [tx_len]; omega)
  refine ⟨H ++ [Ob.lst ((tx ps (2 * m)).map fun c => Va.str [c])], ?_, by rw [← hb]; exact (Gr.app _ _).trans (.app _ _)⟩
  simp only [R__law_text, runB_ap, List.map_cons, List.map_nil, List.length_cons, List.length_nil, Nat.zero_add, Nat.reduceAdd, Nat.reduceSub, List.replicate_succ, List.replicate_zero, List.cons_append, List.nil_append]
  unfold b__law_text
  (rw [Fw.seq_ap]; conv => { pattern (Fw.thn _ _); arg 1; simp (disch := first | omega | exact rfl) only [EV0, EV1, EV2, EV3, List.set_cons_zero, List.set_cons_succ, List.length_cons, List.length_nil, List.length_map, Nat.zero_add, List.cons_append, List.nil_append, and_self, and_true, true_and, and_false, false_and, if_true, if_false, decide_true, decide_false, decide_eq_true_eq, Bool.not_true, Bool.not_false, Bool.false_eq_true, Bool.true_eq_false, Bool.not_eq_true, eq_self, not_true_eq_false, not_false_eq_true, List.cons.injEq, Nat.reduceAdd, Nat.reduceLeDiff, Nat.reduceEqDiff, Nat.reduceSub, Nat.reduceMul, ↓reduceIte, reduceCtorEq, it, l1, lst_ok, n1] }; rw [Fw.thn_nx])
  simp (disch := first | omega | exact rfl) only [EV0, EV1, EV2, EV3, List.set_cons_zero, List.set_cons_succ, List.length_cons, List.length_nil, List.length_map, Nat.zero_add, List.cons_append, List.nil_append, and_self, and_true, true_and, and_false, false_and, if_true, if_false, decide_true, decide_false, decide_eq_true_eq, Bool.not_true, Bool.not_false, Bool.false_eq_true, Bool.true_eq_false, Bool.not_eq_true, eq_self, not_true_eq_false, not_false_eq_true, List.cons.injEq, Nat.reduceAdd, Nat.reduceLeDiff, Nat.reduceEqDiff, Nat.reduceSub, Nat.reduceMul, ↓reduceIte, reduceCtorEq, ln, mu, sRg1_k, rgk1_ok, l3, lst_ok, n3, ty_str, jn]
theorem law_meets_ok {a b m : Nat} {c : List Nat} {p q : Nat × Nat} {h : Hs} (ea : h[a]? = some (.lst ((hi m c).map vP))) (eb : h[b]? = some (.lst ((lo m c).map vP))) (x : X p q = true) (y : (p ∈ hi m c ∧ q ∈ hi m c) ∨ (p ∈ lo m c ∧ q ∈ lo m c)) : G__law_meets [vX (some (p, q)), .loc a, .loc b] h = .ok (.bl true) h := by
  rw [q__law_meets]
  show fin (b__law_meets [some (.tup [vP p, vP q]), some (.loc a), some (.loc b)] h) = _
  have lc := law_crosses_ok p q h
  rw [x] at lc
  have ii : kIsI [.tup [vP p, vP q], .ty "tuple"] h = .ok (.bl true) h := by
    show (if "tuple" ∈ isTs then Rs.ok (Va.bl (isB "tuple" "tuple")) h else .bad) = _
    rw [if_pos (by decide)]
    rfl
  have p1 := in_P (neg := false) (x := p) ea
  have p2 := in_P (neg := false) (x := q) ea
  have p3 := in_P (neg := false) (x := p) eb
  have p4 := in_P (neg := false) (x := q) eb
  have i0 : ∀ h, kIx (.tup [vP p, vP q]) (.int (0 : Nat)) h = .ok (vP p) h := fun h => rfl
  have i1 : ∀ h, kIx (.tup [vP p, vP q]) (.int (1 : Nat)) h = .ok (vP q) h := fun h => rfl
  unfold b__law_meets
  (rw [Fw.seq_ap]; conv => { pattern (Fw.thn _ _); arg 1; simp (disch := first | omega | exact rfl) only [EV0, EV1, EV2, EV3, List.set_cons_zero, List.set_cons_succ, List.length_cons, List.length_nil, List.length_map, Nat.zero_add, List.cons_append, List.nil_append, and_self, and_true, true_and, and_false, false_and, if_true, if_false, decide_true, decide_false, decide_eq_true_eq, Bool.not_true, Bool.not_false, Bool.false_eq_true, Bool.true_eq_false, Bool.not_eq_true, eq_self, not_true_eq_false, not_false_eq_true, List.cons.injEq, Nat.reduceAdd, Nat.reduceLeDiff, Nat.reduceEqDiff, Nat.reduceSub, Nat.reduceMul, ↓reduceIte, reduceCtorEq, ii, lc, i0, i1, ln_tup] }; rw [Fw.thn_nx])
  have : ∀ (P Q : Prop) [Decidable P] [Decidable Q], (P ∧ Q) → decide P = true ∧ decide Q = true := fun P Q _ _ z => ⟨decide_eq_true z.1, decide_eq_true z.2⟩
  by_cases z1 : p ∈ hi m c
  · rw [decide_eq_true z1] at p1
    by_cases z2 : q ∈ hi m c
    · rw [decide_eq_true z2] at p2
      simp (disch := first | omega | exact rfl) only [EV0, EV1, EV2, EV3, List.set_cons_zero, List.set_cons_succ, List.length_cons, List.length_nil, List.length_map, Nat.zero_add, List.cons_append, List.nil_append, and_self, and_true, true_and, and_false, false_and, if_true, if_false, decide_true, decide_false, decide_eq_true_eq, Bool.not_true, Bool.not_false, Bool.false_eq_true, Bool.true_eq_false, Bool.not_eq_true, eq_self, not_true_eq_false, not_false_eq_true, List.cons.injEq, Nat.reduceAdd, Nat.reduceLeDiff, Nat.reduceEqDiff, Nat.reduceSub, Nat.reduceMul, ↓reduceIte, reduceCtorEq, p1, p2, i0, i1, ngB]
    · rw [decide_eq_false z2] at p2
      have y : p ∈ lo m c ∧ q ∈ lo m c := y.resolve_left fun w => z2 w.2
      rw [decide_eq_true y.1] at p3
      rw [decide_eq_true y.2] at p4
      simp (disch := first | omega | exact rfl) only [EV0, EV1, EV2, EV3, List.set_cons_zero, List.set_cons_succ, List.length_cons, List.length_nil, List.length_map, Nat.zero_add, List.cons_append, List.nil_append, and_self, and_true, true_and, and_false, false_and, if_true, if_false, decide_true, decide_false, decide_eq_true_eq, Bool.not_true, Bool.not_false, Bool.false_eq_true, Bool.true_eq_false, Bool.not_eq_true, eq_self, not_true_eq_false, not_false_eq_true, List.cons.injEq, Nat.reduceAdd, Nat.reduceLeDiff, Nat.reduceEqDiff, Nat.reduceSub, Nat.reduceMul, ↓reduceIte, reduceCtorEq, p1, p2, p3, p4, i0, i1, ngB]
  · rw [decide_eq_false z1] at p1
    have y : p ∈ lo m c ∧ q ∈ lo m c := y.resolve_left fun w => z1 w.1
    rw [decide_eq_true y.1] at p3
    rw [decide_eq_true y.2] at p4
    simp (disch := first | omega | exact rfl) only [EV0, EV1, EV2, EV3, List.set_cons_zero, List.set_cons_succ, List.length_cons, List.length_nil, List.length_map, Nat.zero_add, List.cons_append, List.nil_append, and_self, and_true, true_and, and_false, false_and, if_true, if_false, decide_true, decide_false, decide_eq_true_eq, Bool.not_true, Bool.not_false, Bool.false_eq_true, Bool.true_eq_false, Bool.not_eq_true, eq_self, not_true_eq_false, not_false_eq_true, List.cons.injEq, Nat.reduceAdd, Nat.reduceLeDiff, Nat.reduceEqDiff, Nat.reduceSub, Nat.reduceMul, ↓reduceIte, reduceCtorEq, p1, p3, p4, i0, i1, ngB]
def bd (ps : List (Nat × Nat)) : List (Nat × Nat) := ps.filter fun p => !decide (ps.filter (X p) = [])
theorem bd_nil {ps : List (Nat × Nat)} : bd ps = [] ↔ NX ps := by
  unfold bd
  rw [List.filter_eq_nil_iff]
  constructor
  · intro w p hp q hq
    have := w p hp
    simp only [Bool.not_eq_true, Bool.not_eq_false', decide_eq_true_eq, List.filter_eq_nil_iff] at this
    have := this q hq
    simpa using this
  · intro w p hp
    simp only [Bool.not_eq_true, Bool.not_eq_false', decide_eq_true_eq, List.filter_eq_nil_iff]
    intro q hq
    rw [w p hp q hq]
theorem bad_ok {a : Nat} {ps : List (Nat × Nat)} {fs : Sx} {f z1 l2 l3 l4 z5 z6 z7 z8 z9 : Option Va} {h : Hs} (ea : h[a]? = some (.lst (ps.map vP))) (l : ps.length ≤ 12) (hf : ∀ z8 z9 hx, fs [f, z1, l2, l3, l4, z5, z6, z7, z8, z9] hx = .ok (.loc a) hx) :
    ∃ h', lcl (srcL a) (gNm 8) (sBl (s2 kNe (sLc (sItr fs) (gNm 9) (sTru (sCall G__law_crosses 2 [0, 1] (sCons (sVar 8) (sCons (sVar 9) sNil)))) (sVar 9) [9]) (sLst sNil))) (sVar 8) ps.length 0 [f, z1, l2, l3, l4, z5, z6, z7, z8, z9] h = .ok ((bd ps).map vP) h' ∧ Gr h h' := by
  have := lcl_fil (s := srcL a) (g := gNm 8) (t := sBl (s2 kNe (sLc (sItr fs) (gNm 9) (sTru (sCall G__law_crosses 2 [0, 1] (sCons (sVar 8) (sCons (sVar 9) sNil)))) (sVar 9) [9]) (sLst sNil))) (el := sVar 8) (n := ps.length) (e := [f, z1, l2, l3, l4, z5, z6, z7, z8, z9])
    (fun i => ((ps.drop i).filter fun p => !decide (ps.filter (X p) = [])).map vP) (by simp) (fun i hx => Gr h hx) (by
    rintro i hx hi gr
    obtain ⟨p, ep⟩ : ∃ p, ps[i]? = some p := ⟨ps[i], List.getElem?_eq_getElem hi⟩
    have dr : ps.drop i = p :: ps.drop (i + 1) := by
      rw [List.drop_eq_getElem_cons hi]
      congr 1
      rw [List.getElem?_eq_getElem hi] at ep
      exact Option.some.inj ep
    have ea2 := gr.at ea
    have it : itV (.loc a) hx = some (srcL a, ps.length) := by simp [itV, ea2]
    have c := lcl_cnt (s := srcL a) (gt := gNm 9) (t := sTru (sCall G__law_crosses 2 [0, 1] (sCons (sVar 8) (sCons (sVar 9) sNil)))) (el := sVar 9) (xs := ps) (g := vP) (e := [f, z1, l2, l3, l4, z5, z6, z7, some (vP p), none]) (h := hx) (X p) vP (fun j q eq => ⟨by simp [srcL, ea2, eq], _, rfl, by
      have := law_crosses_ok p q hx
      simp (disch := first | omega | exact rfl) only [EV0, EV1, EV2, EV3, List.set_cons_zero, List.set_cons_succ, List.length_cons, List.length_nil, List.length_map, Nat.zero_add, List.cons_append, List.nil_append, and_self, and_true, true_and, and_false, false_and, if_true, if_false, decide_true, decide_false, decide_eq_true_eq, Bool.not_true, Bool.not_false, Bool.false_eq_true, Bool.true_eq_false, Bool.not_eq_true, eq_self, not_true_eq_false, not_false_eq_true, List.cons.injEq, Nat.reduceAdd, Nat.reduceLeDiff, Nat.reduceEqDiff, Nat.reduceSub, Nat.reduceMul, ↓reduceIte, reduceCtorEq, this], fun _ => rfl⟩) (by simp [srcL, ea2])
    have n1 := new_ok (xs := (ps.filter (X p)).map vP) (h := hx) (by
      rw [List.length_map]
      have := List.length_filter_le (X p) ps
      omega)
    have n2 := new_ok (xs := ([] : List Va)) (h := hx ++ [.lst ((ps.filter (X p)).map vP)]) (by simp)
    have ne : kNe (.loc hx.length) (.loc (hx.length + 1)) (hx ++ [Ob.lst ((ps.filter (X p)).map vP)] ++ [Ob.lst []]) = .ok (.bl (!decide (ps.filter (X p) = []))) (hx ++ [Ob.lst ((ps.filter (X p)).map vP)] ++ [Ob.lst []]) :=
      eqLE (α := Nat × Nat) true (by decide) (xs := ps.filter (X p)) (ys := []) (app_at (last_at hx _)) (by have := last_at (hx ++ [Ob.lst ((ps.filter (X p)).map vP)]) (Ob.lst []); rw [List.length_append] at this; exact this) (fun _ _ => ⟨trivial, trivial⟩) (fun _ _ => ⟨trivial, trivial⟩)
    rw [List.length_append, List.length_singleton] at n2
    refine ⟨vP p, [f, z1, l2, l3, l4, z5, z6, z7, some (vP p), z9], hx, hx ++ [Ob.lst ((ps.filter (X p)).map vP)] ++ [Ob.lst []], !decide (ps.filter (X p) = []), by simp [srcL, ea2, ep], rfl, ?_, fun w => ⟨?_, gr.trans ((Gr.app _ _).trans (.app _ _))⟩, fun w => ⟨vP p, _, rfl, ?_, gr.trans ((Gr.app _ _).trans (.app _ _))⟩⟩
    · simp (disch := first | omega | exact rfl) only [EV0, EV1, EV2, EV3, List.set_cons_zero, List.set_cons_succ, List.length_cons, List.length_nil, List.length_map, Nat.zero_add, List.cons_append, List.nil_append, and_self, and_true, true_and, and_false, false_and, if_true, if_false, decide_true, decide_false, decide_eq_true_eq, Bool.not_true, Bool.not_false, Bool.false_eq_true, Bool.true_eq_false, Bool.not_eq_true, eq_self, not_true_eq_false, not_false_eq_true, List.cons.injEq, Nat.reduceAdd, Nat.reduceLeDiff, Nat.reduceEqDiff, Nat.reduceSub, Nat.reduceMul, ↓reduceIte, reduceCtorEq, hf, it, c, lst_ok, n1, n2, ne]
    · rw [dr, List.filter_cons, if_neg (by rw [w]; decide)]
    · rw [dr, List.filter_cons, if_pos w]
      rfl) (by
    rintro hx gr
    simp [srcL, gr.at ea]) (h := h) (.refl _)
  exact this
end Lawk14

set_option Elab.async false
set_option linter.all false
set_option maxRecDepth 100000
set_option maxHeartbeats 4000000
set_option autoImplicit false
namespace Fw
open PySem PySem.Spec L2
open PyProof.Rows hiding St
theorem loop_brk {s : Src} {b : Va → Ss} {n : Nat} {e : En} {h : Hs} {L : Rt} (hL : loop s b n 0 e h = L) (I : Nat → En → Hs → Prop) (J : En → Hs → Prop) (h0 : I 0 e h) (en : ∀ e h, I n e h → s n h = some none ∧ J e h)
    (st : ∀ i e h, i < n → I i e h → ∃ x, s i h = some (some x) ∧ ((∃ e' h', b x e h = .bk e' h' ∧ J e' h') ∨ ∃ e' h', b x e h = .nx e' h' ∧ I (i + 1) e' h')) : ∃ e' h', L = .nx e' h' ∧ J e' h' := by
  subst hL
  have go : ∀ k i e h, i + k = n → I i e h → ∃ e' h', loop s b k i e h = .nx e' h' ∧ J e' h' := by
    intro k
    induction k with
    | zero =>
      intro i e h q hI
      have : i = n := by omega
      subst this
      exact ⟨e, h, by simp only [loop, (en e h hI).1], (en e h hI).2⟩
    | succ k ih =>
      intro i e h q hI
      obtain ⟨x, sx, o⟩ := st i e h (by omega) hI
      rcases o with ⟨e1, h1, c, r⟩ | ⟨e1, h1, c, d⟩
      · exact ⟨e1, h1, by simp only [loop, sx, c, aft], r⟩
      · obtain ⟨e2, h2, c2, d2⟩ := ih (i + 1) e1 h1 (by omega) d
        exact ⟨e2, h2, by simp only [loop, sx, c, aft]; exact c2, d2⟩
  exact go n 0 e h (by omega) h0
end Fw
namespace Lawk14
open PySem PySem.Spec L2 Fw Pg Fk Rv
open PyProof.Rows hiding St
open Fd (PP pos)
open Dw (Mt it2 fts walk mt Fo sz M sg word)
theorem q__law_drawn : G__law_drawn = R__law_drawn := by unfold G__law_drawn; rfl
theorem law_drawn_ok {h : Hs} {m n : Nat} (q : Mug h m) (n0 : 0 < n) (l : n ≤ 6) : ∃ (c : List Nat) (h' : Hs), G__law_drawn [.loc m, .int (n : Nat)] h = .ok (.tup (c.map vN)) h' ∧ Cd n c ∧ Kp m h h' := by
  rw [q__law_drawn]
  have m1 : m < h.length := by
    obtain ⟨_, _, _, e⟩ := q
    exact (List.getElem?_eq_some_iff.mp e).1
  have mu : ∀ h, kMul (.int (2 : Nat)) (.int (n : Nat)) h = .ok (.int (2 * n : Nat)) h := fun h => by simp [kMul]
  have lr : ∀ e, sLstRg2 (sK (.int (1 : Nat))) (s2 kMul (sK (.int (2 : Nat))) (sVar 1)) (some (.loc m) :: some (.int (n : Nat)) :: e) h = .ok (.loc h.length) (h ++ [Ob.lst ((List.range' 1 (2 * n - 1)).map vN)]) := fun e => by
    unfold sLstRg2
    rw [bnd_ap, sK_ap, fwd_ok, bnd_ap]
    simp (disch := first | omega | exact rfl) only [EV0, EV1, EV2, EV3, List.set_cons_zero, List.set_cons_succ, List.length_cons, List.length_nil, List.length_map, Nat.zero_add, List.cons_append, List.nil_append, and_self, and_true, true_and, and_false, false_and, if_true, if_false, decide_true, decide_false, decide_eq_true_eq, Bool.not_true, Bool.not_false, Bool.false_eq_true, Bool.true_eq_false, Bool.not_eq_true, eq_self, not_true_eq_false, not_false_eq_true, List.cons.injEq, Nat.reduceAdd, Nat.reduceLeDiff, Nat.reduceEqDiff, Nat.reduceSub, Nat.reduceMul, ↓reduceIte, reduceCtorEq, mu]
    rw [if_pos ⟨by omega, by omega, by omega, by omega, by omega⟩]
    have e2 : rgA (1 : Nat) (2 * n : Nat) = (List.range' 1 (2 * n - 1)).map vN := by
      unfold rgA vN
      rw [show (((2 * n : Nat) : Int) - ((1 : Nat) : Int)).toNat = 2 * n - 1 by omega, List.range'_eq_map_range, List.map_map]
      refine List.map_congr_left fun k _ => ?_
      show Va.int _ = Va.int _
      congr 1
    rw [e2]
    exact new_ok (by simp; omega)
  have nf : newL [.int (0 : Nat)] (h ++ [Ob.lst ((List.range' 1 (2 * n - 1)).map vN)]) = .ok (.loc (h.length + 1)) (h ++ [Ob.lst ((List.range' 1 (2 * n - 1)).map vN), Ob.lst [.int (0 : Nat)]]) := by
    have := new_ok (xs := [.int (0 : Nat)]) (h := h ++ [Ob.lst ((List.range' 1 (2 * n - 1)).map vN)]) (by simp)
    rw [List.length_append, List.length_singleton, List.append_assoc] at this
    exact this
  have sb : ∀ h, kSub (.int (2 * n : Nat)) (.int (1 : Nat)) h = .ok (.int (2 * n - 1 : Nat)) h := fun h => by
    simp only [kSub]
    rw [show ((2 * n - 1 : Nat) : Int) = ((2 * n : Nat) : Int) - ((1 : Nat) : Int) by omega]
    rfl
  simp only [R__law_drawn, runB_ap, List.map_cons, List.map_nil, List.length_cons, List.length_nil, Nat.zero_add, Nat.reduceAdd, Nat.reduceSub, List.replicate_succ, List.replicate_zero, List.cons_append, List.nil_append]
  unfold b__law_drawn
  (rw [Fw.seq_ap]; conv => { pattern (Fw.thn _ _); arg 1; simp (disch := first | omega | exact rfl) only [EV0, EV1, EV2, EV3, List.set_cons_zero, List.set_cons_succ, List.length_cons, List.length_nil, List.length_map, Nat.zero_add, List.cons_append, List.nil_append, and_self, and_true, true_and, and_false, false_and, if_true, if_false, decide_true, decide_false, decide_eq_true_eq, Bool.not_true, Bool.not_false, Bool.false_eq_true, Bool.true_eq_false, Bool.not_eq_true, eq_self, not_true_eq_false, not_false_eq_true, List.cons.injEq, Nat.reduceAdd, Nat.reduceLeDiff, Nat.reduceEqDiff, Nat.reduceSub, Nat.reduceMul, ↓reduceIte, reduceCtorEq, lr, nf] }; rw [Fw.thn_nx])
  (rw [Fw.seq_ap]; conv => { pattern (Fw.thn _ _); arg 1; simp (disch := first | omega | exact rfl) only [EV0, EV1, EV2, EV3, List.set_cons_zero, List.set_cons_succ, List.length_cons, List.length_nil, List.length_map, Nat.zero_add, List.cons_append, List.nil_append, and_self, and_true, true_and, and_false, false_and, if_true, if_false, decide_true, decide_false, decide_eq_true_eq, Bool.not_true, Bool.not_false, Bool.false_eq_true, Bool.true_eq_false, Bool.not_eq_true, eq_self, not_true_eq_false, not_false_eq_true, List.cons.injEq, Nat.reduceAdd, Nat.reduceLeDiff, Nat.reduceEqDiff, Nat.reduceSub, Nat.reduceMul, ↓reduceIte, reduceCtorEq, mu, sb, sRg1_k, rgk1_ok] })
  generalize hL : loop _ _ _ _ _ _ = L
  have pm0 : ([0] ++ List.range' 1 (2 * n - 1)).Perm (List.range (2 * n)) := by
    obtain ⟨k, hk⟩ : ∃ k, 2 * n = k + 1 := ⟨2 * n - 1, by omega⟩
    rw [hk, Nat.add_sub_cancel, List.range_eq_range', List.range'_succ]
    exact .refl _
  obtain ⟨e', h', rfl, z4, tk, rm, rfl, hr, ht, rl, pm, tl, t0, k⟩ := loop_rg hL (fun i en hx => ∃ (z4 : Option Va) (tk rm : List Nat), en = [some (.loc m), some (.int (n : Nat)), some (.loc h.length), some (.loc (h.length + 1)), z4] ∧ hx[h.length]? = some (Ob.lst (rm.map vN)) ∧ hx[h.length + 1]? = some (Ob.lst (tk.map vN)) ∧ rm.length + i = 2 * n - 1 ∧ (tk ++ rm).Perm (List.range (2 * n)) ∧ tk.length = i + 1 ∧ tk[0]? = some 0 ∧ Kp m h hx)
    ⟨none, [0], List.range' 1 (2 * n - 1), rfl, by simp, by rw [List.getElem?_append_right (by omega), Nat.add_sub_cancel_left]; rfl, by simp, pm0, rfl, rfl, .app q _⟩ (by
    rintro i en hx hi ⟨z4, tk, rm, rfl, hr, ht, rl, pm, tl, t0, k⟩
    obtain ⟨j, h2, e1, jl, k2⟩ := pour_ok k.mug (top := rm.length) (by omega) (by omega)
    have hr2 := k2.old _ _ (by omega) hr
    have ht2 := k2.old _ _ (by omega) ht
    have ln := ln_loc hr
    rw [List.length_map] at ln
    have ex : rm[j]? = some rm[j] := List.getElem?_eq_getElem jl
    have po : kPopA (.loc h.length) [.int (j : Nat)] h2 = .ok (.int (rm[j] : Nat)) (h2.set h.length (Ob.lst ((rm.eraseIdx j).map vN))) := by
      have e2 : (rm.map vN)[((j : Nat) : Int).toNat]? = some (.int (rm[j] : Nat)) := by
        rw [Int.toNat_natCast, List.getElem?_map, ex]; rfl
      simp only [kPopA, hr2]
      rw [if_pos ⟨by omega, by omega⟩, e2]
      simp only [Int.toNat_natCast]
      have : (rm.map vN).eraseIdx j = (rm.eraseIdx j).map vN := by rw [List.eraseIdx_eq_take_drop_succ, List.eraseIdx_eq_take_drop_succ, List.map_append, List.map_take, List.map_drop]
      rw [this]
    have ty := ty_lst hr
    have ty1 := ty_lst ht
    have ht3 : (h2.set h.length (Ob.lst ((rm.eraseIdx j).map vN)))[h.length + 1]? = some (Ob.lst (tk.map vN)) := set_ne (by omega) ht2
    have ap := app_ok (y := .int (rm[j] : Nat)) ht3 (by rw [List.length_map]; omega)
    have kk : Kp m h ((h2.set h.length (Ob.lst ((rm.eraseIdx j).map vN))).set (h.length + 1) (Ob.lst (tk.map vN ++ [.int (rm[j] : Nat)]))) := by
      have kz := k.trans k2
      obtain ⟨a, b, c, e⟩ := kz.mug
      exact ⟨⟨a, b, c, set_ne (by omega) (set_ne (by omega) e)⟩, fun i o ne e => by
        have := (List.getElem?_eq_some_iff.mp e).1
        exact set_ne (by omega) (set_ne (by omega) (kz.old i o ne e))⟩
    refine ⟨_, _, by simp (disch := first | omega | exact rfl) only [EV0, EV1, EV2, EV3, List.set_cons_zero, List.set_cons_succ, List.length_cons, List.length_nil, List.length_map, Nat.zero_add, List.cons_append, List.nil_append, and_self, and_true, true_and, and_false, false_and, if_true, if_false, decide_true, decide_false, decide_eq_true_eq, Bool.not_true, Bool.not_false, Bool.false_eq_true, Bool.true_eq_false, Bool.not_eq_true, eq_self, not_true_eq_false, not_false_eq_true, List.cons.injEq, Nat.reduceAdd, Nat.reduceLeDiff, Nat.reduceEqDiff, Nat.reduceSub, Nat.reduceMul, ↓reduceIte, reduceCtorEq, stp_ap, gNm_ap, ty, ty1, ln, e1, po, ap] <;> rfl, _, tk ++ [rm[j]], rm.eraseIdx j, rfl, set_ne (by omega) (set_at hr2), ?_, by rw [List.length_eraseIdx, if_pos jl]; omega, ?_, by simp [tl], ?_, kk⟩
    · rw [set_at ht3, List.map_append]
      rfl
    · refine List.Perm.trans ?_ pm
      rw [List.append_assoc]
      refine List.Perm.append_left tk ?_
      show (rm[j] :: rm.eraseIdx j).Perm rm
      exact Un.perm_erase jl
    · rw [List.getElem?_append_left (by omega), t0])
  have rm0 : rm = [] := List.length_eq_zero_iff.mp (by omega)
  subst rm0
  rw [List.append_nil] at pm
  have tp := tpL_ok ht
  refine ⟨tk, h', by simp (disch := first | omega | exact rfl) only [EV0, EV1, EV2, EV3, List.set_cons_zero, List.set_cons_succ, List.length_cons, List.length_nil, List.length_map, Nat.zero_add, List.cons_append, List.nil_append, and_self, and_true, true_and, and_false, false_and, if_true, if_false, decide_true, decide_false, decide_eq_true_eq, Bool.not_true, Bool.not_false, Bool.false_eq_true, Bool.true_eq_false, Bool.not_eq_true, eq_self, not_true_eq_false, not_false_eq_true, List.cons.injEq, Nat.reduceAdd, Nat.reduceLeDiff, Nat.reduceEqDiff, Nat.reduceSub, Nat.reduceMul, ↓reduceIte, reduceCtorEq, tp] <;> rfl, ⟨⟨by omega, pm.nodup_iff.mpr List.nodup_range, fun x hx => List.mem_range.mp (pm.mem_iff.mp hx)⟩, n0, ?_⟩, k⟩
  unfold g
  rw [t0]
  rfl
end Lawk14

set_option Elab.async false
set_option linter.all false
set_option maxRecDepth 100000
set_option maxHeartbeats 4000000
set_option autoImplicit false
namespace Lawk14
open PySem PySem.Spec L2 Fw Pg Fk Rv
open PyProof.Rows hiding St
open Fd (PP pos)
open Dw (Mt it2 fts walk mt Fo sz M sg word)
theorem law_path_ok {f w : Fo} {n : Nat} {h : Hs} (n0 : 0 < n) (l : n ≤ 6) (sf : sz f = 2 * n) (sw : sz w = 2 * n) : ∃ c : List Nat, (c.length = 2 * n → Cd n c) ∧ c.length ≤ 24 ∧ G__law_path [.str (word f), .str (word w)] h = .ok (.tup (c.map vN)) h := by
  have mu : Mt (2 * n) (mt f) := sf ▸ Dw.mt_Mt f
  have ml : Mt (2 * n) (mt w) := sw ▸ Dw.mt_Mt w
  suffices hh : ∃ j, j ≤ n ∧ (∀ i, 0 < i → i < j → it2 (mt f) (mt w) i 0 ≠ 0) ∧ ∃ h', R__law_path [.str (word f), .str (word w)] [] = .ok (.tup ((fts (mt f) (mt w) 0 j).map vN)) h' by
    obtain ⟨j, jn, nz, h', e⟩ := hh
    refine ⟨fts (mt f) (mt w) 0 j, fun cl => ?_, by rw [fts_len]; omega, pure_of rfl e (lf_N _)⟩
    rw [fts_len] at cl
    obtain rfl : j = n := by omega
    refine ⟨⟨fts_len _ _ _ _, Dw.fts_nodup mu ml (by omega) nz j (Nat.le_refl _), fun x hx => ?_⟩, n0, ?_⟩
    · obtain ⟨i, _, e⟩ := Dw.fts_mem_iff.mp hx
      have := Dw.it2_lt mu ml (f := 0) (by omega) i
      rcases e with rfl | rfl
      · exact this
      · exact mu.lt _ this
    · obtain ⟨k, rfl⟩ : ∃ k, j = k + 1 := ⟨j - 1, by omega⟩
      unfold g fts
      rw [List.range_succ_eq_map]
      rfl
  have m1 := law_mates_ok (f := f) (h := []) (by omega)
  have m2 := law_mates_ok (f := w) (h := [.lst ((M 0 f).map vN)]) (by omega)
  have m1 : G__law_mates [.str (word f)] [] = .ok (.loc 0) [.lst ((M 0 f).map vN)] := m1
  have m2 : G__law_mates [.str (word w)] [.lst ((M 0 f).map vN)] = .ok (.loc 1) [.lst ((M 0 f).map vN), .lst ((M 0 w).map vN)] := m2
  have n2 : newL [] [.lst ((M 0 f).map vN), .lst ((M 0 w).map vN)] = .ok (.loc 2) [.lst ((M 0 f).map vN), .lst ((M 0 w).map vN), .lst []] := rfl
  have wl := Dw.word_len f
  have ls : ∀ h, kLen [.str (word f)] h = .ok (.int (2 * n : Nat)) h := fun h => by
    have : kLen [.str (word f)] h = .ok (.int ((word f).length : Nat)) h := by simp [show (word f).length ≤ 16777216 by omega]
    rw [this, wl, sf]
  have fd : ∀ h, kFdv (.int (2 * n : Nat)) (.int (2 : Nat)) h = .ok (.int (n : Nat)) h := fun h => by
    have e : ((2 * n : Nat) : Int) / ((2 : Nat) : Int) = ((n : Nat) : Int) := by omega
    simp [kFdv]
  have a1 : ∀ x, x < 2 * n → ((M 0 f).map vN)[x]? = some (.int (mt f x : Nat)) := fun x hx => by
    rw [List.getElem?_map, Dw.mt_at (by omega)]
    rfl
  have a2 : ∀ x, x < 2 * n → ((M 0 w).map vN)[x]? = some (.int (mt w x : Nat)) := fun x hx => by
    rw [List.getElem?_map, Dw.mt_at (by omega)]
    rfl
  generalize M 0 f = Mf at *
  generalize M 0 w = Mw at *
  generalize word f = wf at *
  generalize word w = ww at *
  simp only [R__law_path, runB_ap, List.map_cons, List.map_nil, List.length_cons, List.length_nil, Nat.zero_add, Nat.reduceAdd, Nat.reduceSub, List.replicate_succ, List.replicate_zero, List.cons_append, List.nil_append]
  unfold b__law_path
  (rw [Fw.seq_ap]; conv => { pattern (Fw.thn _ _); arg 1; simp (disch := first | omega | exact rfl) only [EV0, EV1, EV2, EV3, List.set_cons_zero, List.set_cons_succ, List.length_cons, List.length_nil, List.length_map, Nat.zero_add, List.cons_append, List.nil_append, and_self, and_true, true_and, and_false, false_and, if_true, if_false, decide_true, decide_false, decide_eq_true_eq, Bool.not_true, Bool.not_false, Bool.false_eq_true, Bool.true_eq_false, Bool.not_eq_true, eq_self, not_true_eq_false, not_false_eq_true, List.cons.injEq, Nat.reduceAdd, Nat.reduceLeDiff, Nat.reduceEqDiff, Nat.reduceSub, Nat.reduceMul, ↓reduceIte, reduceCtorEq, m1, m2] }; rw [Fw.thn_nx])
  (rw [Fw.seq_ap]; conv => { pattern (Fw.thn _ _); arg 1; simp (disch := first | omega | exact rfl) only [EV0, EV1, EV2, EV3, List.set_cons_zero, List.set_cons_succ, List.length_cons, List.length_nil, List.length_map, Nat.zero_add, List.cons_append, List.nil_append, and_self, and_true, true_and, and_false, false_and, if_true, if_false, decide_true, decide_false, decide_eq_true_eq, Bool.not_true, Bool.not_false, Bool.false_eq_true, Bool.true_eq_false, Bool.not_eq_true, eq_self, not_true_eq_false, not_false_eq_true, List.cons.injEq, Nat.reduceAdd, Nat.reduceLeDiff, Nat.reduceEqDiff, Nat.reduceSub, Nat.reduceMul, ↓reduceIte, reduceCtorEq, n2] }; rw [Fw.thn_nx])
  (rw [Fw.seq_ap]; conv => { pattern (Fw.thn _ _); arg 1; simp (disch := first | omega | exact rfl) only [EV0, EV1, EV2, EV3, List.set_cons_zero, List.set_cons_succ, List.length_cons, List.length_nil, List.length_map, Nat.zero_add, List.cons_append, List.nil_append, and_self, and_true, true_and, and_false, false_and, if_true, if_false, decide_true, decide_false, decide_eq_true_eq, Bool.not_true, Bool.not_false, Bool.false_eq_true, Bool.true_eq_false, Bool.not_eq_true, eq_self, not_true_eq_false, not_false_eq_true, List.cons.injEq, Nat.reduceAdd, Nat.reduceLeDiff, Nat.reduceEqDiff, Nat.reduceSub, Nat.reduceMul, ↓reduceIte, reduceCtorEq, ls, fd, sRg1_k, rgk1_ok] })
  generalize hL : loop _ _ _ _ _ _ = L
  obtain ⟨e', h', rfl, j, r, z5, z6, jn, nz, rfl, gr, hr⟩ := loop_brk hL (fun j en hx => ∃ r z6, (∀ i, 0 < i → i ≤ j → it2 (mt f) (mt w) i 0 ≠ 0) ∧ en = [some (.str wf), some (.str ww), some (.loc 0), some (.loc 1), some (.loc r), some (.int (it2 (mt f) (mt w) j 0 : Nat)), z6] ∧ Gr [.lst (Mf.map vN), .lst (Mw.map vN)] hx ∧ hx[r]? = some (.lst ((fts (mt f) (mt w) 0 j).map vN)))
    (fun en hx => ∃ j r z5 z6, j ≤ n ∧ (∀ i, 0 < i → i < j → it2 (mt f) (mt w) i 0 ≠ 0) ∧ en = [some (.str wf), some (.str ww), some (.loc 0), some (.loc 1), some (.loc r), z5, z6] ∧ Gr [.lst (Mf.map vN), .lst (Mw.map vN)] hx ∧ hx[r]? = some (.lst ((fts (mt f) (mt w) 0 j).map vN)))
    ⟨2, none, fun i a b => by omega, rfl, ⟨[.lst []], rfl⟩, rfl⟩ (by
    rintro en hx ⟨r, z6, nz, rfl, gr, hr⟩
    exact ⟨by simp, n, r, _, _, Nat.le_refl _, fun i a b => nz i a (by omega), rfl, gr, hr⟩) (by
    rintro j en hx hj ⟨r, z6, nz, rfl, gr, hr⟩
    refine ⟨.int (j : Nat), by simp [hj], ?_⟩
    have xl := Dw.it2_lt mu ml (f := 0) (by omega) j
    have ul := mu.lt _ xl
    generalize hx0 : it2 (mt f) (mt w) j 0 = x at *
    have i1 : ∀ hy, Gr hx hy → kIx (.loc 0) (.int (x : Nat)) hy = .ok (.int (mt f x : Nat)) hy := fun hy g => ix_loc ((gr.trans g).at rfl) (a1 x xl)
    have i2 : ∀ hy, Gr hx hy → kIx (.loc 1) (.int (mt f x : Nat)) hy = .ok (.int (mt w (mt f x) : Nat)) hy := fun hy g => ix_loc ((gr.trans g).at rfl) (a2 _ ul)
    have i0 := i1 hx (.refl _)
    have nw := new_ok (xs := [Va.int (x : Nat), .int (mt f x : Nat)]) (h := hx) (by simp)
    have al := adL_ok (app_at (r := [Ob.lst [Va.int (x : Nat), .int (mt f x : Nat)]]) hr) (last_at hx (Ob.lst [Va.int (x : Nat), .int (mt f x : Nat)])) (by rw [List.length_map, fts_len]; simp; omega)
    rw [show (fts (mt f) (mt w) 0 j).map vN ++ [Va.int (x : Nat), .int (mt f x : Nat)] = (fts (mt f) (mt w) 0 (j + 1)).map vN by rw [Dw.fts_succ, hx0, List.map_append]; rfl] at al
    generalize hy0 : hx ++ [Ob.lst [Va.int (x : Nat), .int (mt f x : Nat)]] = hy at *
    have gy : Gr hx (hy ++ [.lst ((fts (mt f) (mt w) 0 (j + 1)).map vN)]) := by rw [← hy0]; exact (Gr.app _ _).trans (.app _ _)
    have i3 := i1 _ gy
    have i4 := i2 _ gy
    have ly := last_at hy (Ob.lst ((fts (mt f) (mt w) 0 (j + 1)).map vN))
    have it : it2 (mt f) (mt w) (j + 1) 0 = mt w (mt f x) := by rw [Dw.it2_succ, hx0]
    generalize hv : mt w (mt f x) = v at *
    by_cases v0 : v = 0
    · subst v0
      have eq0 : ∀ h, kEq (.int (0 : Nat)) (.int (0 : Nat)) h = .ok (.bl true) h := fun h => by rw [eqn_ok]; rfl
      exact .inl ⟨_, _, by simp (disch := first | omega | exact rfl) only [EV0, EV1, EV2, EV3, List.set_cons_zero, List.set_cons_succ, List.length_cons, List.length_nil, List.length_map, Nat.zero_add, List.cons_append, List.nil_append, and_self, and_true, true_and, and_false, false_and, if_true, if_false, decide_true, decide_false, decide_eq_true_eq, Bool.not_true, Bool.not_false, Bool.false_eq_true, Bool.true_eq_false, Bool.not_eq_true, eq_self, not_true_eq_false, not_false_eq_true, List.cons.injEq, Nat.reduceAdd, Nat.reduceLeDiff, Nat.reduceEqDiff, Nat.reduceSub, Nat.reduceMul, ↓reduceIte, reduceCtorEq, stp_ap, seq_ap, gNm_ap, i0, nw, al, i3, i4, eq0] <;> rfl, j + 1, hy.length, _, _, by omega, fun i a b => nz i a (by omega), rfl, gr.trans gy, ly⟩
    · have eq0 : ∀ h, kEq (.int (v : Nat)) (.int (0 : Nat)) h = .ok (.bl false) h := fun h => by rw [eqn_ok, decide_eq_false v0]
      refine .inr ⟨_, _, by simp (disch := first | omega | exact rfl) only [EV0, EV1, EV2, EV3, List.set_cons_zero, List.set_cons_succ, List.length_cons, List.length_nil, List.length_map, Nat.zero_add, List.cons_append, List.nil_append, and_self, and_true, true_and, and_false, false_and, if_true, if_false, decide_true, decide_false, decide_eq_true_eq, Bool.not_true, Bool.not_false, Bool.false_eq_true, Bool.true_eq_false, Bool.not_eq_true, eq_self, not_true_eq_false, not_false_eq_true, List.cons.injEq, Nat.reduceAdd, Nat.reduceLeDiff, Nat.reduceEqDiff, Nat.reduceSub, Nat.reduceMul, ↓reduceIte, reduceCtorEq, stp_ap, seq_ap, gNm_ap, i0, nw, al, i3, i4, eq0] <;> rfl, hy.length, _, fun i a b => ?_, by rw [it], gr.trans gy, ly⟩
      by_cases e : i = j + 1
      · rw [e, it]; exact v0
      · exact nz i a (by omega))
  have tp := tpL_ok hr
  exact ⟨j, jn, nz, h', by simp (disch := first | omega | exact rfl) only [EV0, EV1, EV2, EV3, List.set_cons_zero, List.set_cons_succ, List.length_cons, List.length_nil, List.length_map, Nat.zero_add, List.cons_append, List.nil_append, and_self, and_true, true_and, and_false, false_and, if_true, if_false, decide_true, decide_false, decide_eq_true_eq, Bool.not_true, Bool.not_false, Bool.false_eq_true, Bool.true_eq_false, Bool.not_eq_true, eq_self, not_true_eq_false, not_false_eq_true, List.cons.injEq, Nat.reduceAdd, Nat.reduceLeDiff, Nat.reduceEqDiff, Nat.reduceSub, Nat.reduceMul, ↓reduceIte, reduceCtorEq, tp] <;> rfl⟩
end Lawk14

set_option Elab.async false
set_option linter.all false
set_option maxRecDepth 100000
set_option maxHeartbeats 8000000
set_option autoImplicit false
namespace St
open PySem PySem.Spec L2 Fw Pg Sp
open Fd (PP pos lo hi mok pt gB GB ins opn lyg lyg_ok lyg_len lay layT srtL srtL_v flatMap_le opn_len)
open Un (zT)
open PyProof.Rows hiding St
end St

set_option Elab.async false
set_option linter.all false
set_option maxRecDepth 100000
set_option maxHeartbeats 8000000
set_option autoImplicit false
namespace Fw
open PySem PySem.Spec L2
open PyProof.Rows hiding St
open Pg (vN)
end Fw
namespace Fd
variable {P : Nat → Int} {n : Nat} {q : List Nat}
/-- the pieces below m -/
def qf (q : List Nat) (m : Nat) : List Nat := q.filter fun x => decide (x < m)
theorem ins_filter {q' : List Nat} {k : Nat} (p : PP n q') : (ins q' n k).filter (fun x => decide (x < n)) = q' := by
  unfold ins
  rw [List.filter_append, List.filter_cons_of_neg (by simp), ← List.filter_append, List.take_append_drop]
  exact List.filter_eq_self.mpr fun x hx => decide_eq_true (p.lt x hx)
theorem qf_all (p : PP n q) : qf q n = q := List.filter_eq_self.mpr fun x hx => decide_eq_true (p.lt x hx)
theorem qf_qf {m : Nat} (h : m ≤ n) : qf (qf q n) m = qf q m := by
  unfold qf
  rw [List.filter_filter]
  refine List.filter_congr fun x _ => ?_
  rw [Bool.eq_iff_iff, Bool.and_eq_true, decide_eq_true_eq, decide_eq_true_eq]
  omega
theorem qf_pp : ∀ {n : Nat} {q : List Nat}, PP n q → ∀ m, m ≤ n → PP m (qf q m)
  | 0, q, p, m, h => by
    have : m = 0 := by omega
    subst this
    rw [qf_all p]
    exact p
  | n + 1, q, p, m, h => by
    by_cases e : m = n + 1
    · subst e
      rw [qf_all p]
      exact p
    · obtain ⟨q', k, rfl, hk, p'⟩ := ins_split p
      have : qf (ins q' n k) n = q' := ins_filter p'
      rw [← qf_qf (n := n) (by omega), this]
      exact qf_pp p' m (by omega)
def ky (q : List Nat) (c : Nat) : Nat := pos (qf q (c + 2)) (c + 1)
theorem qf_ins (p : PP n q) {c : Nat} (h : c + 2 ≤ n) : qf q (c + 2) = ins (qf q (c + 1)) (c + 1) (ky q c) ∧ ky q c ≤ c + 1 := by
  have p2 := qf_pp p (c + 2) h
  obtain ⟨q', k, e, hk, p'⟩ := ins_split p2
  have f : qf q (c + 1) = q' := by
    rw [← qf_qf (q := q) (n := c + 2) (m := c + 1) (by omega), e]
    exact ins_filter p'
  have kk : ky q c = k := by
    unfold ky
    rw [e]
    exact p'.pos_new hk
  rw [f, kk]
  exact ⟨e, hk⟩
def lyB (P : Nat → Int) (n : Nat) (q : List Nat) : Bool := (List.range (n - 1)).all fun c => gB P (qf q (c + 1)) (c + 1) (ky q c)
end Fd

set_option Elab.async false
set_option linter.all false
set_option maxRecDepth 100000
set_option maxHeartbeats 8000000
set_option autoImplicit false
namespace St
open PySem PySem.Spec L2 Fw Pg Sp
open Fd (PP pos mok pt gB ins opn qf qf_pp ky qf_ins lyB)
open PyProof.Rows hiding St
theorem in_N {neg : Bool} {h : Hs} {n x : Nat} {xs : List Nat} (q : h[n]? = some (.lst (xs.map vN))) : kIn neg (.int (x : Nat)) (.loc n) h = .ok (.bl (ngB neg (decide (x ∈ xs)))) h := by
  have ia : inA (.int (x : Nat)) (xs.map vN) = decide (x ∈ xs) := by
    clear q
    induction xs with
    | nil => rfl
    | cons y ys ih =>
      have e : eqA (vN y) (.int (x : Nat)) = decide (x = y) := by
        show ((y : Int) == (x : Int)) = decide (x = y)
        rw [Bool.eq_iff_iff]
        simp
        omega
      show (eqA (vN y) (.int (x : Nat)) || inA (.int (x : Nat)) (ys.map vN)) = _
      rw [e, ih]
      simp [Bool.or_comm]
  have fl : (xs.map vN).all flA = true := by
    rw [List.all_map]
    exact List.all_eq_true.mpr fun _ _ => rfl
  simp only [kIn, q, kInQ]
  rw [if_pos ⟨rfl, fl⟩, if_pos ⟨rfl, fl⟩, ia]
end St

set_option Elab.async false
set_option linter.all false
set_option maxRecDepth 100000
set_option maxHeartbeats 4000000
set_option autoImplicit false
namespace Zt
open PySem PySem.Spec L2 Fw Pg
open PyProof.Rows hiding St
def zT (q : List Nat) : List Int := q.map fun x : Nat => (x : Int)
theorem vT_z (q : List Nat) : vT q = tupV (zT q) := by
  unfold vT tupV zT
  rw [List.map_map]
  rfl
end Zt

set_option Elab.async false
set_option linter.all false
set_option maxRecDepth 100000
set_option maxHeartbeats 4000000
set_option autoImplicit false
namespace Fd
open Fw
def mnP (P : Nat → Int) (n : Nat) : Int := leastI (P 0) ((List.range n).map fun i => P (i + 1))
def mxP (P : Nat → Int) (n : Nat) : Int := greatI (P 0) ((List.range n).map fun i => P (i + 1))
end Fd
namespace St
open PySem PySem.Spec L2 Fw Pg Sp
open Fd (PP pt mnP mxP)
open PyProof.Rows hiding St
end St

set_option Elab.async false
set_option linter.all false
set_option maxRecDepth 100000
set_option maxHeartbeats 4000000
set_option autoImplicit false
namespace Fd
open Fw
variable {P Q : Nat → Int} {n : Nat} {q : List Nat}
end Fd

set_option Elab.async false
set_option linter.all false
set_option maxRecDepth 100000
set_option maxHeartbeats 8000000
set_option autoImplicit false
namespace Fd
def crB (l s : List Nat) (k : Nat) : Bool := !decide (s.getD k 0 = s.getD (k + 1) 0) && decide (l.getD (k + 1) 0 ≤ min (l.getD k 0) (l.getD (k + 2) 0))
def endA (l : List Nat) : Bool := decide (1 < l.length) && decide (l.getD 0 0 ≤ l.getD 1 0)
def endB (l : List Nat) : Bool := decide (1 < l.length) && decide (l.getD (l.length - 1) 0 ≤ l.getD (l.length - 2) 0)
/-- the steps that can be made -/
def stepsL (l s : List Nat) : List (Bool × Nat) := ((List.range (s.length - 1)).filter (crB l s)).map (fun k => (true, k)) ++ ((if endA l = true then [(false, 0)] else []) ++ (if endB l = true then [(false, 1)] else []))
end Fd
namespace St
open PySem PySem.Spec L2 Fw Pg Sp
open Fd (crB endA endB stepsL)
open PyProof.Rows hiding St
theorem slW_mid {q : List Nat} {a b : Nat} {h : Hs} (ab : a ≤ b) (l : b ≤ q.length) : kSlW (.tup (q.map vN)) (some (a : Int)) (some (b : Int)) h = .ok (.tup (((q.drop a).take (b - a)).map vN)) h := by
  simp only [kSlW, HT.sIx_nat, List.length_map]
  rw [Nat.min_eq_left (show a ≤ q.length by omega), Nat.min_eq_left l]
  split
  · rename_i c
    have : a = 0 ∧ b = q.length := by omega
    rw [this.1, this.2, List.drop_zero, Nat.sub_zero, List.take_length]
  · unfold cutA
    rw [HT.sIx_nat, HT.sIx_nat, List.length_map, Nat.min_eq_left (show a ≤ q.length by omega), Nat.min_eq_left l, List.map_take, List.map_drop]
theorem getD_at {l : List Nat} {i d : Nat} (h : i < l.length) : l[i]? = some (l.getD i d) := by
  rw [List.getD_eq_getElem?_getD, List.getElem?_eq_getElem h]
  rfl
theorem three {l : List Nat} {k : Nat} (h : k + 2 < l.length) : (l.drop k).take (k + 3 - k) = [l.getD k 0, l.getD (k + 1) 0, l.getD (k + 2) 0] := by
  have a := getD_at (d := 0) (show k < l.length by omega)
  have b := getD_at (d := 0) (show k + 1 < l.length by omega)
  have c := getD_at (d := 0) h
  rw [show k + 3 - k = 3 by omega]
  refine List.ext_getElem? fun i => ?_
  by_cases hi : i < 3
  · rw [List.getElem?_take_of_lt hi, List.getElem?_drop]
    match i, hi with
    | 0, _ => simpa using a
    | 1, _ => simpa using b
    | 2, _ => simpa using c
  · rw [List.getElem?_eq_none (by rw [List.length_take]; omega), List.getElem?_eq_none (by simp; omega)]
theorem mnW_ok {a b : Nat} {h : Hs} : kMinW [.int (a : Nat), .int (b : Nat)] h = .ok (.int (min a b : Nat)) h := mn_ok
end St

set_option Elab.async false
set_option linter.all false
set_option maxRecDepth 100000
set_option maxHeartbeats 4000000
set_option autoImplicit false
namespace Rv
open Fd (PP pos)
theorem Cd.swap {m j k : Nat} {c : List Nat} (d : Cd m c) (k0 : 0 < k) (kj : k ≤ j) (jl : j < 2 * m) : Cd m ((List.range (2 * m)).map fun i => if i = k then g c j else if i = j then g c k else g c i) := by
  obtain ⟨σ, hσ⟩ : ∃ σ : Nat → Nat, σ = fun i => if i = k then j else if i = j then k else i := ⟨_, rfl⟩
  have hs : ∀ i, σ i = if i = k then j else if i = j then k else i := fun i => by rw [hσ]
  clear hσ
  have e : ((List.range (2 * m)).map fun i => if i = k then g c j else if i = j then g c k else g c i) = (List.range (2 * m)).map fun i => g c (σ i) := List.map_congr_left fun i _ => by
    rw [hs]
    by_cases a : i = k
    · rw [if_pos a, if_pos a]
    · rw [if_neg a, if_neg a]
      by_cases b : i = j
      · rw [if_pos b, if_pos b]
      · rw [if_neg b, if_neg b]
  have sl : ∀ i, i < 2 * m → σ i < 2 * m := fun i hi => by
    rw [hs]
    split
    · exact jl
    · split <;> omega
  have si : ∀ a b, σ a = σ b → a = b := fun a b h => by
    rw [hs, hs] at h
    split at h <;> split at h <;> (try split at h) <;> (try split at h) <;> omega
  rw [e]
  refine ⟨⟨by simp, ?_, ?_⟩, d.m0, ?_⟩
  · refine List.pairwise_map.mpr ?_
    refine List.Pairwise.imp_of_mem ?_ List.nodup_range
    intro a b ha hb ab z
    exact ab (si a b (d.inj (sl a (List.mem_range.mp ha)) (sl b (List.mem_range.mp hb)) z))
  · intro x hx
    obtain ⟨i, hi, rfl⟩ := List.mem_map.mp hx
    exact d.lt (sl i (List.mem_range.mp hi))
  · have m0 := d.m0
    have : ((List.range (2 * m)).map fun i => g c (σ i))[0]? = some (g c (σ 0)) := by
      rw [List.getElem?_map, List.getElem?_range (by omega)]
      rfl
    have s0 : σ 0 = 0 := by rw [hs, if_neg (by omega), if_neg (by omega)]
    rw [s0, d.z] at this
    unfold g at this ⊢
    rw [this]
    rfl
theorem Cd.turn {m j k : Nat} {c : List Nat} (d : Cd m c) (k0 : 0 < k) (kj : k ≤ j) (jl : j < 2 * m) : Cd m (c.take k ++ ((c.drop k).take (j + 1 - k)).reverse ++ c.drop (j + 1)) := by
  have pm : (c.take k ++ ((c.drop k).take (j + 1 - k)).reverse ++ c.drop (j + 1)).Perm c := by
    have e : c = c.take k ++ ((c.drop k).take (j + 1 - k) ++ (c.drop k).drop (j + 1 - k)) := by rw [List.take_append_drop, List.take_append_drop]
    rw [List.drop_drop, show k + (j + 1 - k) = j + 1 by omega] at e
    rw [List.append_assoc]
    conv => rhs; rw [e]
    exact List.Perm.append_left _ (List.Perm.append_right _ (List.reverse_perm _))
  refine ⟨⟨by rw [pm.length_eq, d.pp.len], pm.nodup_iff.mpr d.pp.nd, fun x hx => d.pp.lt x (pm.mem_iff.mp hx)⟩, d.m0, ?_⟩
  have z := d.z
  have cl := d.pp.len
  unfold g at z ⊢
  rw [List.append_assoc, List.getElem?_append_left (by rw [List.length_take]; omega), List.getElem?_take_of_lt k0]
  exact z
end Rv
namespace Lawk14
open PySem PySem.Spec L2 Fw Pg Fk Rv
open PyProof.Rows hiding St
open Fd (PP pos)
open Dw (Mt it2 fts walk mt Fo sz M sg word)
theorem q__law_candidate : G__law_candidate = R__law_candidate := by unfold G__law_candidate; rfl
theorem candidate_ok {h : Hs} {m : Nat} (q : Mug h m) : ∃ (n : Nat) (c : List Nat) (h' : Hs), G__law_candidate [.loc m] h = .ok (.tup (c.map vN)) h' ∧ Cd n c ∧ n ≤ 6 ∧ Kp m h h' := by
  rw [q__law_candidate]
  suffices hh : ∃ (n : Nat) (c : List Nat) (h' : Hs), fin (b__law_candidate [some (.loc m), none, none, none, none, none, none, none] h) = .ok (.tup (c.map vN)) h' ∧ Cd n c ∧ n ≤ 6 ∧ Kp m h h' from hh
  unfold b__law_candidate
  obtain ⟨r1, h1, e1, l1, k1⟩ := pour_ok q (top := 6) (by omega) (by omega)
  have aw : ∀ a b h, kAddW (.int (a : Nat)) (.int (b : Nat)) h = .ok (.int (a + b : Nat)) h := fun a b h => rfl
  (rw [Fw.seq_ap]; conv => { pattern (Fw.thn _ _); arg 1; simp (disch := first | omega | exact rfl) only [EV0, EV1, EV2, EV3, List.set_cons_zero, List.set_cons_succ, List.length_cons, List.length_nil, List.length_map, Nat.zero_add, List.cons_append, List.nil_append, and_self, and_true, true_and, and_false, false_and, if_true, if_false, decide_true, decide_false, decide_eq_true_eq, Bool.not_true, Bool.not_false, Bool.false_eq_true, Bool.true_eq_false, Bool.not_eq_true, eq_self, not_true_eq_false, not_false_eq_true, List.cons.injEq, Nat.reduceAdd, Nat.reduceLeDiff, Nat.reduceEqDiff, Nat.reduceSub, Nat.reduceMul, ↓reduceIte, reduceCtorEq, e1, aw] }; rw [Fw.thn_nx])
  obtain ⟨N, hN⟩ : ∃ N, N = 1 + r1 := ⟨_, rfl⟩
  rw [← hN]
  have N0 : 0 < N := by omega
  have N6 : N ≤ 6 := by omega
  have nw := new_ok (xs := [Va.int (1 : Nat), .int (2 : Nat), .int (2 : Nat), .int (N : Nat)]) (h := h1) (by simp)
  obtain ⟨x, h2, e2, mx, k2⟩ := pick_ok (k1.new (Ob.lst [Va.int (1 : Nat), .int (2 : Nat), .int (2 : Nat), .int (N : Nat)])).mug (last_at h1 _) (Mug.ne k1.mug) (by simp) (by simp)
  obtain ⟨n1, rfl, n10, n16⟩ : ∃ n : Nat, x = .int (n : Nat) ∧ 0 < n ∧ n ≤ 6 := by
    simp only [List.mem_cons, List.not_mem_nil, or_false] at mx
    rcases mx with rfl | rfl | rfl | rfl <;> exact ⟨_, rfl, by omega, by omega⟩
  obtain ⟨c1, h3, e3, d1, k3⟩ := law_drawn_ok k2.mug n10 n16
  (rw [Fw.seq_ap]; conv => { pattern (Fw.thn _ _); arg 1; simp (disch := first | omega | exact rfl) only [EV0, EV1, EV2, EV3, List.set_cons_zero, List.set_cons_succ, List.length_cons, List.length_nil, List.length_map, Nat.zero_add, List.cons_append, List.nil_append, and_self, and_true, true_and, and_false, false_and, if_true, if_false, decide_true, decide_false, decide_eq_true_eq, Bool.not_true, Bool.not_false, Bool.false_eq_true, Bool.true_eq_false, Bool.not_eq_true, eq_self, not_true_eq_false, not_false_eq_true, List.cons.injEq, Nat.reduceAdd, Nat.reduceLeDiff, Nat.reduceEqDiff, Nat.reduceSub, Nat.reduceMul, ↓reduceIte, reduceCtorEq, nw, e2, e3] }; rw [Fw.thn_nx])
  have k13 : Kp m h h3 := ((k1.new _).trans k2).trans k3
  (rw [Fw.seq_ap]; conv => { pattern (Fw.thn _ _); arg 1; simp (disch := first | omega | exact rfl) only [EV0, EV1, EV2, EV3, List.set_cons_zero, List.set_cons_succ, List.length_cons, List.length_nil, List.length_map, Nat.zero_add, List.cons_append, List.nil_append, and_self, and_true, true_and, and_false, false_and, if_true, if_false, decide_true, decide_false, decide_eq_true_eq, Bool.not_true, Bool.not_false, Bool.false_eq_true, Bool.true_eq_false, Bool.not_eq_true, eq_self, not_true_eq_false, not_false_eq_true, List.cons.injEq, Nat.reduceAdd, Nat.reduceLeDiff, Nat.reduceEqDiff, Nat.reduceSub, Nat.reduceMul, ↓reduceIte, reduceCtorEq, sRg1_k, rgk1_ok] })
  generalize hL : loop _ _ _ _ _ _ = L
  have mu : ∀ h, kMul (.int (2 : Nat)) (.int (N : Nat)) h = .ok (.int (2 * N : Nat)) h := fun h => by simp [kMul]
  obtain ⟨e', h4, rfl, n, c, z3, z4, rfl, d, n6, k4⟩ := loop_brk hL (fun t en hx => ∃ z3 z4, en = [some (.loc m), some (.int (N : Nat)), some (.tup (c1.map vN)), z3, z4, none, none, none] ∧ Kp m h hx)
    (fun en hx => ∃ n c z3 z4, en = [some (.loc m), some (.int (N : Nat)), some (.tup (c.map vN)), z3, z4, none, none, none] ∧ Cd n c ∧ n ≤ 6 ∧ Kp m h hx) ⟨none, none, rfl, k13⟩ (by
    rintro en hx ⟨z3, z4, rfl, k⟩
    exact ⟨by simp, n1, c1, z3, z4, rfl, d1, n16, k⟩) (by
    rintro t en hx ht ⟨z3, z4, rfl, k⟩
    obtain ⟨f, ha, ea, sf, ka⟩ := row_ok k.mug (n := N) (by omega)
    obtain ⟨w, hb, eb, sw, kb⟩ := row_ok ka.mug (n := N) (by omega)
    obtain ⟨c, dc, cl, ep⟩ := law_path_ok (h := hb) N0 N6 sf sw
    have ln : ∀ h, kLen [.tup (c.map vN)] h = .ok (.int (c.length : Nat)) h := fun h => by rw [ln_tup, List.length_map]
    refine ⟨.int (t : Nat), by simp [ht], ?_⟩
    by_cases w : c.length = 2 * N
    · have eq0 : ∀ h, kEq (.int (c.length : Nat)) (.int (2 * N : Nat)) h = .ok (.bl true) h := fun h => by rw [eqn_ok, decide_eq_true w]
      exact .inl ⟨_, _, by simp (disch := first | omega | exact rfl) only [EV0, EV1, EV2, EV3, List.set_cons_zero, List.set_cons_succ, List.length_cons, List.length_nil, List.length_map, Nat.zero_add, List.cons_append, List.nil_append, and_self, and_true, true_and, and_false, false_and, if_true, if_false, decide_true, decide_false, decide_eq_true_eq, Bool.not_true, Bool.not_false, Bool.false_eq_true, Bool.true_eq_false, Bool.not_eq_true, eq_self, not_true_eq_false, not_false_eq_true, List.cons.injEq, Nat.reduceAdd, Nat.reduceLeDiff, Nat.reduceEqDiff, Nat.reduceSub, Nat.reduceMul, ↓reduceIte, reduceCtorEq, stp_ap, seq_ap, gNm_ap, ea, eb, ep, ln, mu, eq0] <;> rfl, N, c, _, _, rfl, dc w, N6, (k.trans ka).trans kb⟩
    · have eq0 : ∀ h, kEq (.int (c.length : Nat)) (.int (2 * N : Nat)) h = .ok (.bl false) h := fun h => by rw [eqn_ok, decide_eq_false w]
      exact .inr ⟨_, _, by simp (disch := first | omega | exact rfl) only [EV0, EV1, EV2, EV3, List.set_cons_zero, List.set_cons_succ, List.length_cons, List.length_nil, List.length_map, Nat.zero_add, List.cons_append, List.nil_append, and_self, and_true, true_and, and_false, false_and, if_true, if_false, decide_true, decide_false, decide_eq_true_eq, Bool.not_true, Bool.not_false, Bool.false_eq_true, Bool.true_eq_false, Bool.not_eq_true, eq_self, not_true_eq_false, not_false_eq_true, List.cons.injEq, Nat.reduceAdd, Nat.reduceLeDiff, Nat.reduceEqDiff, Nat.reduceSub, Nat.reduceMul, ↓reduceIte, reduceCtorEq, stp_ap, seq_ap, gNm_ap, ea, eb, ep, ln, mu, eq0] <;> rfl, _, _, rfl, (k.trans ka).trans kb⟩)
  rw [thn_nx]
  have m0 := d.m0
  have cl := d.pp.len
  have ln : ∀ h, kLen [.tup (c.map vN)] h = .ok (.int (2 * n : Nat)) h := fun h => by rw [ln_tup, List.length_map, cl]
  obtain ⟨r5, h5, e5, l5, k5⟩ := pour_ok k4.mug (top := 2 * n) (by omega) (by omega)
  obtain ⟨r6, h6, e6, l6, k6⟩ := pour_ok k5.mug (top := 2 * n) (by omega) (by omega)
  (rw [Fw.seq_ap]; conv => { pattern (Fw.thn _ _); arg 1; simp (disch := first | omega | exact rfl) only [EV0, EV1, EV2, EV3, List.set_cons_zero, List.set_cons_succ, List.length_cons, List.length_nil, List.length_map, Nat.zero_add, List.cons_append, List.nil_append, and_self, and_true, true_and, and_false, false_and, if_true, if_false, decide_true, decide_false, decide_eq_true_eq, Bool.not_true, Bool.not_false, Bool.false_eq_true, Bool.true_eq_false, Bool.not_eq_true, eq_self, not_true_eq_false, not_false_eq_true, List.cons.injEq, Nat.reduceAdd, Nat.reduceLeDiff, Nat.reduceEqDiff, Nat.reduceSub, Nat.reduceMul, ↓reduceIte, reduceCtorEq, ln, e5, e6] }; rw [Fw.thn_nx])
  (rw [Fw.seq_ap]; conv => { pattern (Fw.thn _ _); arg 1; simp (disch := first | omega | exact rfl) only [EV0, EV1, EV2, EV3, List.set_cons_zero, List.set_cons_succ, List.length_cons, List.length_nil, List.length_map, Nat.zero_add, List.cons_append, List.nil_append, and_self, and_true, true_and, and_false, false_and, if_true, if_false, decide_true, decide_false, decide_eq_true_eq, Bool.not_true, Bool.not_false, Bool.false_eq_true, Bool.true_eq_false, Bool.not_eq_true, eq_self, not_true_eq_false, not_false_eq_true, List.cons.injEq, Nat.reduceAdd, Nat.reduceLeDiff, Nat.reduceEqDiff, Nat.reduceSub, Nat.reduceMul, ↓reduceIte, reduceCtorEq, St.mnW_ok, mx_ok] }; rw [Fw.thn_nx])
  have k46 := (k4.trans k5).trans k6
  obtain ⟨k, hk⟩ : ∃ k, k = min r5 r6 := ⟨_, rfl⟩
  obtain ⟨j, hj⟩ : ∃ j, j = max r5 r6 := ⟨_, rfl⟩
  rw [← hk, ← hj]
  have kj : k ≤ j := by omega
  have jl : j < 2 * n := by omega
  clear hk hj
  by_cases k0 : k = 0
  · subst k0
    have eq0 : ∀ h, kEq (.int (0 : Nat)) (.int (0 : Nat)) h = .ok (.bl true) h := fun h => by rw [eqn_ok]; rfl
    exact ⟨n, c, h6, by simp (disch := first | omega | exact rfl) only [EV0, EV1, EV2, EV3, List.set_cons_zero, List.set_cons_succ, List.length_cons, List.length_nil, List.length_map, Nat.zero_add, List.cons_append, List.nil_append, and_self, and_true, true_and, and_false, false_and, if_true, if_false, decide_true, decide_false, decide_eq_true_eq, Bool.not_true, Bool.not_false, Bool.false_eq_true, Bool.true_eq_false, Bool.not_eq_true, eq_self, not_true_eq_false, not_false_eq_true, List.cons.injEq, Nat.reduceAdd, Nat.reduceLeDiff, Nat.reduceEqDiff, Nat.reduceSub, Nat.reduceMul, ↓reduceIte, reduceCtorEq, seq_ap, eq0] <;> rfl, d, n6, k46⟩
  have eq0 : ∀ h, kEq (.int (k : Nat)) (.int (0 : Nat)) h = .ok (.bl false) h := fun h => by rw [eqn_ok, decide_eq_false k0]
  obtain ⟨r7, h7, e7, l7, k7⟩ := pour_ok k6.mug (top := 3) (by omega) (by omega)
  by_cases g7 : 0 < r7
  · have gt : ∀ h, kGt (.int (r7 : Nat)) (.int (0 : Nat)) h = .ok (.bl true) h := fun h => by rw [gt_ok, decide_eq_true g7]
    exact ⟨n, c, h7, by simp (disch := first | omega | exact rfl) only [EV0, EV1, EV2, EV3, List.set_cons_zero, List.set_cons_succ, List.length_cons, List.length_nil, List.length_map, Nat.zero_add, List.cons_append, List.nil_append, and_self, and_true, true_and, and_false, false_and, if_true, if_false, decide_true, decide_false, decide_eq_true_eq, Bool.not_true, Bool.not_false, Bool.false_eq_true, Bool.true_eq_false, Bool.not_eq_true, eq_self, not_true_eq_false, not_false_eq_true, List.cons.injEq, Nat.reduceAdd, Nat.reduceLeDiff, Nat.reduceEqDiff, Nat.reduceSub, Nat.reduceMul, ↓reduceIte, reduceCtorEq, seq_ap, eq0, e7, gt] <;> rfl, d, n6, k46.trans k7⟩
  have gt : ∀ h, kGt (.int (r7 : Nat)) (.int (0 : Nat)) h = .ok (.bl false) h := fun h => by rw [gt_ok, decide_eq_false g7]
  (rw [Fw.seq_ap]; conv => { pattern (Fw.thn _ _); arg 1; simp (disch := first | omega | exact rfl) only [EV0, EV1, EV2, EV3, List.set_cons_zero, List.set_cons_succ, List.length_cons, List.length_nil, List.length_map, Nat.zero_add, List.cons_append, List.nil_append, and_self, and_true, true_and, and_false, false_and, if_true, if_false, decide_true, decide_false, decide_eq_true_eq, Bool.not_true, Bool.not_false, Bool.false_eq_true, Bool.true_eq_false, Bool.not_eq_true, eq_self, not_true_eq_false, not_false_eq_true, List.cons.injEq, Nat.reduceAdd, Nat.reduceLeDiff, Nat.reduceEqDiff, Nat.reduceSub, Nat.reduceMul, ↓reduceIte, reduceCtorEq, eq0, e7, gt] }; rw [Fw.thn_nx])
  obtain ⟨r8, h8, e8, l8, k8⟩ := pour_ok k7.mug (top := 2) (by omega) (by omega)
  by_cases g8 : r8 = 0
  · have q8 : ∀ h, kEq (.int (r8 : Nat)) (.int (0 : Nat)) h = .ok (.bl true) h := fun h => by rw [eqn_ok, decide_eq_true g8]
    have s1 : ∀ h, kSlW (.tup (c.map vN)) none (some (k : Int)) h = .ok (.tup ((c.take k).map vN)) h := fun h => by rw [slW_to' (by rw [List.length_map]; omega), List.map_take]
    have s2 : ∀ h, kSlW (.tup (c.map vN)) (some (k : Int)) (some ((j + 1 : Nat) : Int)) h = .ok (.tup (((c.drop k).take (j + 1 - k)).map vN)) h := fun h => St.slW_mid (by omega) (by omega)
    have s3 : ∀ h, kSlW (.tup (c.map vN)) (some ((j + 1 : Nat) : Int)) none h = .ok (.tup ((c.drop (j + 1)).map vN)) h := fun h => by rw [slW_fr' (by rw [List.length_map]; omega), List.map_drop]
    have rv : ∀ h, kRevA (.tup (((c.drop k).take (j + 1 - k)).map vN)) h = .ok (.tup ((((c.drop k).take (j + 1 - k)).reverse).map vN)) h := fun h => by rw [rvT_ok, List.map_reverse]
    have a1 : ∀ h, kAddW (.tup ((c.take k).map vN)) (.tup ((((c.drop k).take (j + 1 - k)).reverse).map vN)) h = .ok (.tup ((c.take k ++ ((c.drop k).take (j + 1 - k)).reverse).map vN)) h := fun h => by
      rw [adT_ok (by simp; omega), List.map_append]
    have a2 : ∀ h, kAddW (.tup ((c.take k ++ ((c.drop k).take (j + 1 - k)).reverse).map vN)) (.tup ((c.drop (j + 1)).map vN)) h = .ok (.tup ((c.take k ++ ((c.drop k).take (j + 1 - k)).reverse ++ c.drop (j + 1)).map vN)) h := fun h => by
      rw [adT_ok (by simp; omega), ← List.map_append]
    exact ⟨n, _, h8, by simp (disch := first | omega | exact rfl) only [EV0, EV1, EV2, EV3, List.set_cons_zero, List.set_cons_succ, List.length_cons, List.length_nil, List.length_map, Nat.zero_add, List.cons_append, List.nil_append, and_self, and_true, true_and, and_false, false_and, if_true, if_false, decide_true, decide_false, decide_eq_true_eq, Bool.not_true, Bool.not_false, Bool.false_eq_true, Bool.true_eq_false, Bool.not_eq_true, eq_self, not_true_eq_false, not_false_eq_true, List.cons.injEq, Nat.reduceAdd, Nat.reduceLeDiff, Nat.reduceEqDiff, Nat.reduceSub, Nat.reduceMul, ↓reduceIte, reduceCtorEq, seq_ap, e8, q8, sSlW_ap, sSo_ap, sNo_ap, aw, s1, s2, s3, rv, a1, a2] <;> rfl, d.turn (by omega) kj jl, n6, (k46.trans k7).trans k8⟩
  have q8 : ∀ h, kEq (.int (r8 : Nat)) (.int (0 : Nat)) h = .ok (.bl false) h := fun h => by rw [eqn_ok, decide_eq_false g8]
  (rw [Fw.seq_ap]; conv => { pattern (Fw.thn _ _); arg 1; simp (disch := first | omega | exact rfl) only [EV0, EV1, EV2, EV3, List.set_cons_zero, List.set_cons_succ, List.length_cons, List.length_nil, List.length_map, Nat.zero_add, List.cons_append, List.nil_append, and_self, and_true, true_and, and_false, false_and, if_true, if_false, decide_true, decide_false, decide_eq_true_eq, Bool.not_true, Bool.not_false, Bool.false_eq_true, Bool.true_eq_false, Bool.not_eq_true, eq_self, not_true_eq_false, not_false_eq_true, List.cons.injEq, Nat.reduceAdd, Nat.reduceLeDiff, Nat.reduceEqDiff, Nat.reduceSub, Nat.reduceMul, ↓reduceIte, reduceCtorEq, e8, q8] }; rw [Fw.thn_nx])
  have lc : ∀ e3 e4 e7 hx, lcl (srcR 0 (2 * n)) (gNm 7) tru (sIte (sBl (s2 kEq (sVar 7) (sVar 5))) (s2 kIx (sVar 2) (sVar 6)) (sIte (sBl (s2 kEq (sVar 7) (sVar 6))) (s2 kIx (sVar 2) (sVar 5)) (s2 kIx (sVar 2) (sVar 7)))) (2 * n) 0 [some (.loc m), some (.int (N : Nat)), some (.tup (c.map vN)), e3, e4, some (.int (k : Nat)), some (.int (j : Nat)), e7] hx = .ok (((List.range (2 * n)).map fun i => if i = k then g c j else if i = j then g c k else g c i).map vN) hx := fun e3 e4 e7 hx => by
    rw [List.map_map]
    refine lcl_rg _ fun i hi => ⟨_, rfl, rfl, ?_⟩
    have x1 := fun h => ix_tupN (h := h) (d.atV (k := k) (by omega))
    have x2 := fun h => ix_tupN (h := h) (d.atV (k := j) (by omega))
    have x3 := fun h => ix_tupN (h := h) (d.atV (k := i) hi)
    by_cases a : i = k
    · have q : ∀ h, kEq (.int (i : Nat)) (.int (k : Nat)) h = .ok (.bl true) h := fun h => by rw [eqn_ok, decide_eq_true a]
      simp only [Function.comp, if_pos a]
      simp (disch := first | omega | exact rfl) only [EV0, EV1, EV2, EV3, List.set_cons_zero, List.set_cons_succ, List.length_cons, List.length_nil, List.length_map, Nat.zero_add, List.cons_append, List.nil_append, and_self, and_true, true_and, and_false, false_and, if_true, if_false, decide_true, decide_false, decide_eq_true_eq, Bool.not_true, Bool.not_false, Bool.false_eq_true, Bool.true_eq_false, Bool.not_eq_true, eq_self, not_true_eq_false, not_false_eq_true, List.cons.injEq, Nat.reduceAdd, Nat.reduceLeDiff, Nat.reduceEqDiff, Nat.reduceSub, Nat.reduceMul, ↓reduceIte, reduceCtorEq, q, x2]
    · have q : ∀ h, kEq (.int (i : Nat)) (.int (k : Nat)) h = .ok (.bl false) h := fun h => by rw [eqn_ok, decide_eq_false a]
      simp only [Function.comp, if_neg a]
      by_cases b : i = j
      · have q' : ∀ h, kEq (.int (i : Nat)) (.int (j : Nat)) h = .ok (.bl true) h := fun h => by rw [eqn_ok, decide_eq_true b]
        simp only [if_pos b]
        simp (disch := first | omega | exact rfl) only [EV0, EV1, EV2, EV3, List.set_cons_zero, List.set_cons_succ, List.length_cons, List.length_nil, List.length_map, Nat.zero_add, List.cons_append, List.nil_append, and_self, and_true, true_and, and_false, false_and, if_true, if_false, decide_true, decide_false, decide_eq_true_eq, Bool.not_true, Bool.not_false, Bool.false_eq_true, Bool.true_eq_false, Bool.not_eq_true, eq_self, not_true_eq_false, not_false_eq_true, List.cons.injEq, Nat.reduceAdd, Nat.reduceLeDiff, Nat.reduceEqDiff, Nat.reduceSub, Nat.reduceMul, ↓reduceIte, reduceCtorEq, q, q', x1]
      · have q' : ∀ h, kEq (.int (i : Nat)) (.int (j : Nat)) h = .ok (.bl false) h := fun h => by rw [eqn_ok, decide_eq_false b]
        simp only [if_neg b]
        simp (disch := first | omega | exact rfl) only [EV0, EV1, EV2, EV3, List.set_cons_zero, List.set_cons_succ, List.length_cons, List.length_nil, List.length_map, Nat.zero_add, List.cons_append, List.nil_append, and_self, and_true, true_and, and_false, false_and, if_true, if_false, decide_true, decide_false, decide_eq_true_eq, Bool.not_true, Bool.not_false, Bool.false_eq_true, Bool.true_eq_false, Bool.not_eq_true, eq_self, not_true_eq_false, not_false_eq_true, List.cons.injEq, Nat.reduceAdd, Nat.reduceLeDiff, Nat.reduceEqDiff, Nat.reduceSub, Nat.reduceMul, ↓reduceIte, reduceCtorEq, q, q', x3]
  have d' := d.swap (by omega) kj jl
  have dl := d'.pp.len
  generalize ((List.range (2 * n)).map fun i => if i = k then g c j else if i = j then g c k else g c i) = c' at *
  have nw9 := new_ok (xs := c'.map vN) (h := h8) (by rw [List.length_map]; omega)
  have tp := tpL_ok (last_at h8 (Ob.lst (c'.map vN)))
  exact ⟨n, c', _, by simp (disch := first | omega | exact rfl) only [EV0, EV1, EV2, EV3, List.set_cons_zero, List.set_cons_succ, List.length_cons, List.length_nil, List.length_map, Nat.zero_add, List.cons_append, List.nil_append, and_self, and_true, true_and, and_false, false_and, if_true, if_false, decide_true, decide_false, decide_eq_true_eq, Bool.not_true, Bool.not_false, Bool.false_eq_true, Bool.true_eq_false, Bool.not_eq_true, eq_self, not_true_eq_false, not_false_eq_true, List.cons.injEq, Nat.reduceAdd, Nat.reduceLeDiff, Nat.reduceEqDiff, Nat.reduceSub, Nat.reduceMul, ↓reduceIte, reduceCtorEq, ln, sRg1_k, rgk1_ok, lc, lst_ok, nw9, tp] <;> rfl, d', n6, ((k46.trans k7).trans k8).new _⟩
end Lawk14

set_option Elab.async false
set_option linter.all false
set_option maxRecDepth 100000
set_option maxHeartbeats 4000000
set_option autoImplicit false
namespace Lawk14
open PySem PySem.Spec L2 Fw Pg Fk Rv
open PyProof.Rows hiding St
open Fd (PP pos)
open Dw (Mt it2 fts walk mt Fo sz M sg word)
theorem q__law_right : G__law_right = R__law_right := by unfold G__law_right; rfl
theorem kp_gr {m : Nat} {a h h' : Hs} (k : Kp m a h) (g : Gr h h') : Kp m a h' := by
  obtain ⟨r, rfl⟩ := g
  exact k.trans (.app k.mug _)
theorem ne_nn {a b : Nat} {h : Hs} (ea : h[a]? = some (.lst [.non, .non])) (eb : h[b]? = some (.lst [.non, .non])) : kNe (.loc a) (.loc b) h = .ok (.bl false) h := by
  have r : ∀ n, h[n]? = some (Ob.lst [.non, .non]) → rdV h 24 (.loc n) = some (.list [.none, .none]) := fun n e => by
    simp only [rdV, e]
    rfl
  exact eqD_of true (r a ea) (r b eb) (by decide) (by decide) rfl
theorem tx_sg (ps : List (Nat × Nat)) (N : Nat) : ∀ c ∈ tx ps N, c < 0x110000 := by
  intro c hc
  obtain ⟨k, _, rfl⟩ := List.mem_map.mp hc
  split <;> decide
theorem ne_tt {a b : List Nat} {h : Hs} (ha : ∀ c ∈ a, c < 0x110000) (hb : ∀ c ∈ b, c < 0x110000) : kNe (.tup [.str a, .str b]) (.tup [.str a, .str b]) h = .ok (.bl false) h := by
  have := eqE (α := Tx × Tx) true (by decide) (⟨a⟩, ⟨b⟩) (⟨a⟩, ⟨b⟩) (show (∀ c ∈ a, c < 0x110000) ∧ ∀ c ∈ b, c < 0x110000 from ⟨ha, hb⟩) (show (∀ c ∈ a, c < 0x110000) ∧ ∀ c ∈ b, c < 0x110000 from ⟨ha, hb⟩) h
  rw [decide_eq_true rfl] at this
  exact this
theorem right_ok {h : Hs} {m : Nat} (q : Mug h m) : ∃ h', G__law_right [.loc m] h = .ok (.bl true) h' ∧ Kp m h h' := by
  rw [q__law_right]
  suffices hh : ∃ h', fin (b__law_right [some (.loc m), none, none, none, none, none, none, none, none, none] h) = .ok (.bl true) h' ∧ Kp m h h' from hh
  unfold b__law_right
  (rw [Fw.seq_ap]; conv => { pattern (Fw.thn _ _); arg 1; simp (disch := first | omega | exact rfl) only [EV0, EV1, EV2, EV3, List.set_cons_zero, List.set_cons_succ, List.length_cons, List.length_nil, List.length_map, Nat.zero_add, List.cons_append, List.nil_append, and_self, and_true, true_and, and_false, false_and, if_true, if_false, decide_true, decide_false, decide_eq_true_eq, Bool.not_true, Bool.not_false, Bool.false_eq_true, Bool.true_eq_false, Bool.not_eq_true, eq_self, not_true_eq_false, not_false_eq_true, List.cons.injEq, Nat.reduceAdd, Nat.reduceLeDiff, Nat.reduceEqDiff, Nat.reduceSub, Nat.reduceMul, ↓reduceIte, reduceCtorEq, sRg1_k, rgk1_ok] })
  generalize hL : loop _ _ _ _ _ _ = L
  obtain ⟨e', h', rfl, z1, z2, z3, z4, z5, z6, z7, z8, z9, rfl, k⟩ := loop_rg hL (fun i en hx => ∃ z1 z2 z3 z4 z5 z6 z7 z8 z9 : Option Va, en = [some (.loc m), z1, z2, z3, z4, z5, z6, z7, z8, z9] ∧ Kp m h hx) ⟨_, _, _, _, _, _, _, _, _, rfl, .refl q⟩ (by
    rintro i en hx il ⟨z1, z2, z3, z4, z5, z6, z7, z8, z9, rfl, k⟩
    obtain ⟨n, c, h1, ec, d, n6, k1⟩ := candidate_ok k.mug
    obtain ⟨la, lb, h2, es, g2, ea, eb⟩ := law_sides_ok (h := h1) d n6
    have k2 : Kp m h h2 := kp_gr (k.trans k1) g2
    have ia : itV (.loc la) h2 = some (srcL la, (hi n c).length) := by simp [itV, ea]
    obtain ⟨h3, c3, g3⟩ := bad_ok (fs := sVar 3) (f := some (.loc m)) (z1 := some (.int (i : Nat))) (l2 := some (.tup (c.map vN))) (l3 := some (.loc la)) (l4 := some (.loc lb)) (z5 := z5) (z6 := z6) (z7 := z7) (z8 := none) (z9 := z9) ea (by rw [hi_len]; omega) (fun _ _ _ => rfl)
    have b1 : (bd (hi n c)).length ≤ 12 := by
      have : (bd (hi n c)).length ≤ (hi n c).length := List.length_filter_le _ _
      rw [hi_len] at this
      omega
    have b2 : (bd (lo n c)).length ≤ 12 := by
      have : (bd (lo n c)).length ≤ (lo n c).length := List.length_filter_le _ _
      rw [lo_len] at this
      omega
    have n3 := new_ok (xs := (bd (hi n c)).map vP) (h := h3) (by rw [List.length_map]; omega)
    have G3 : Gr h2 (h3 ++ [.lst ((bd (hi n c)).map vP)]) := g3.trans (.app _ _)
    have at3 := last_at h3 (Ob.lst ((bd (hi n c)).map vP))
    generalize hH3 : h3 ++ [Ob.lst ((bd (hi n c)).map vP)] = H3 at *
    have ib : itV (.loc lb) H3 = some (srcL lb, (lo n c).length) := by simp [itV, G3.at eb]
    obtain ⟨h4, c4, g4⟩ := bad_ok (fs := sVar 4) (f := some (.loc m)) (z1 := some (.int (i : Nat))) (l2 := some (.tup (c.map vN))) (l3 := some (.loc la)) (l4 := some (.loc lb)) (z5 := some (.loc h3.length)) (z6 := z6) (z7 := z7) (z8 := none) (z9 := z9) (G3.at eb) (by rw [lo_len]; omega) (fun _ _ _ => rfl)
    have n4 := new_ok (xs := (bd (lo n c)).map vP) (h := h4) (by rw [List.length_map]; omega)
    have ad := adL_ok (app_at (r := [Ob.lst ((bd (lo n c)).map vP)]) (g4.at at3)) (last_at h4 (Ob.lst ((bd (lo n c)).map vP))) (by rw [List.length_map, List.length_map]; omega)
    rw [← List.map_append] at ad
    have G4 : Gr H3 (h4 ++ [.lst ((bd (lo n c)).map vP)]) := g4.trans (.app _ _)
    generalize hH4 : h4 ++ [Ob.lst ((bd (lo n c)).map vP)] = H4 at *
    have G5 : Gr H3 (H4 ++ [.lst ((bd (hi n c) ++ bd (lo n c)).map vP)]) := G4.trans (.app _ _)
    have at5 := last_at H4 (Ob.lst ((bd (hi n c) ++ bd (lo n c)).map vP))
    generalize hH5 : H4 ++ [Ob.lst ((bd (hi n c) ++ bd (lo n c)).map vP)] = H5 at *
    obtain ⟨r, mg, mt⟩ := meeting_ok d (by omega)
    have n5 := new_ok (xs := [vX r, vX r]) (h := H5) (by simp)
    have G6 : Gr H5 (H5 ++ [.lst [vX r, vX r]]) := .app _ _
    have at6 := last_at H5 (Ob.lst [vX r, vX r])
    generalize hH6 : H5 ++ [Ob.lst [vX r, vX r]] = H6 at *
    have n6' := new_ok (xs := ([] : List Va)) (h := H6) (by simp)
    have G7 : Gr H6 (H6 ++ [.lst []]) := .app _ _
    have eq := eqLE (α := Nat × Nat) false (by decide) (xs := bd (hi n c) ++ bd (lo n c)) (ys := []) (G7.at (G6.at at5)) (last_at H6 (Ob.lst [])) (fun _ _ => ⟨trivial, trivial⟩) (fun _ _ => ⟨trivial, trivial⟩)
    have eq : kEq (.loc H4.length) (.loc H6.length) (H6 ++ [Ob.lst []]) = .ok (.bl (decide (bd (hi n c) ++ bd (lo n c) = []))) (H6 ++ [Ob.lst []]) := eq
    have at67 := G7.at at6
    generalize hH7 : H6 ++ [Ob.lst []] = H7 at *
    have G27 : Gr h2 H7 := G3.trans (G5.trans (G6.trans G7))
    have K7 : Kp m h H7 := kp_gr k2 G27
    obtain ⟨rv1, rv2⟩ := river_of_ok d (by omega)
    by_cases bad : bd (hi n c) ++ bd (lo n c) = []
    · rw [decide_eq_true bad] at eq
      obtain ⟨nh, nl⟩ : NX (hi n c) ∧ NX (lo n c) := by
        rw [List.append_eq_nil_iff] at bad
        exact ⟨bd_nil.mp bad.1, bd_nil.mp bad.2⟩
      have rv := rv1 ⟨nh, nl⟩
      have hr : r = none := by
        cases r with
        | none => rfl
        | some pq =>
          obtain ⟨x, y⟩ := mg.so pq.1 pq.2 rfl
          rcases y with ⟨y, z⟩ | ⟨y, z⟩
          · rw [nh _ y _ z] at x; cases x
          · rw [nl _ y _ z] at x; cases x
      subst hr
      obtain ⟨f, w, sf, sw, wf, ww, wk⟩ := d.river nh nl
      have d0 := d.m0
      obtain ⟨ir, pa⟩ := path_ok (f := f) (g := w) (c := c) (by omega) (by omega) (by omega) (by rw [sf]; exact wk) (by rw [d.pp.len, sf])
      rw [wf, ww] at ir pa
      obtain ⟨h8, t8, g8⟩ := law_text_ok (G27.at ea) (hi_len n c) (by omega)
      obtain ⟨h9, t9, g9⟩ := law_text_ok (g8.at (G27.at eb)) (lo_len n c) (by omega)
      have ne := fun h => ne_tt (h := h) (tx_sg (hi n c) (2 * n)) (tx_sg (lo n c) (2 * n))
      generalize tx (hi n c) (2 * n) = t1 at *
      generalize tx (lo n c) (2 * n) = t2 at *
      have n10 := new_ok (xs := [Va.non, .non]) (h := h9) (by simp)
      have nn := ne_nn (h := h9 ++ [Ob.lst [.non, .non]]) (app_at (r := [Ob.lst [.non, .non]]) (g9.at (g8.at at67))) (last_at h9 _)
      have K10 : Kp m h (h9 ++ [Ob.lst [.non, .non]]) := kp_gr K7 (g8.trans (g9.trans (.app _ _)))
      have i0 : ∀ h, kIx (.tup [.str t1, .str t2]) (.int (0 : Nat)) h = .ok (.str t1) h := fun h => rfl
      have i1 : ∀ h, kIx (.tup [.str t1, .str t2]) (.int (1 : Nat)) h = .ok (.str t2) h := fun h => rfl
      have np : ∀ h, kNe (.tup (c.map vN)) (.tup (c.map vN)) h = .ok (.bl false) h := fun h => by rw [ne_tN, decide_eq_true rfl]; rfl
      have ist : ∀ h, kIs true (.bl true) (.bl true) h = .ok (.bl false) h := fun h => by simp
      exact ⟨_, _, by simp (disch := first | omega | exact rfl) only [EV0, EV1, EV2, EV3, List.set_cons_zero, List.set_cons_succ, List.length_cons, List.length_nil, List.length_map, Nat.zero_add, List.cons_append, List.nil_append, and_self, and_true, true_and, and_false, false_and, if_true, if_false, decide_true, decide_false, decide_eq_true_eq, Bool.not_true, Bool.not_false, Bool.false_eq_true, Bool.true_eq_false, Bool.not_eq_true, eq_self, not_true_eq_false, not_false_eq_true, List.cons.injEq, Nat.reduceAdd, Nat.reduceLeDiff, Nat.reduceEqDiff, Nat.reduceSub, Nat.reduceMul, ↓reduceIte, reduceCtorEq, stp_ap, seq_ap, gNm_ap, ec, es, ia, c3, lst_ok, n3, ib, c4, n4, ad, mt, n5, n6', eq, t8, t9, rv, ne, n10, nn, i0, i1, pa, np, ir, ist] <;> rfl, _, _, _, _, _, _, _, _, _, rfl, K10⟩
    · rw [decide_eq_false bad] at eq
      have nx : ¬ (NX (hi n c) ∧ NX (lo n c)) := fun w => bad (by rw [bd_nil.mpr w.1, bd_nil.mpr w.2]; rfl)
      have rv := rv2 nx
      obtain ⟨pq, rfl⟩ : ∃ pq, r = some pq := by
        cases r with
        | none => exact absurd (mg.no rfl) nx
        | some pq => exact ⟨pq, rfl⟩
      obtain ⟨x, y⟩ := mg.so pq.1 pq.2 rfl
      have lm := law_meets_ok (G27.at ea) (G27.at eb) x y
      have isn : ∀ h, kIs true .non .non h = .ok (.bl false) h := fun h => by simp
      have it6 : itV (.loc H5.length) H7 = some (srcL H5.length, [some pq, some pq].length) := by simp [itV, at67]
      have cc := lcl_cnt (s := srcL H5.length) (gt := gNm 9) (t := sNot (sTru (sCall G__law_meets 3 [0, 1, 2] (sCons (sVar 9) (sCons (sVar 3) (sCons (sVar 4) sNil)))))) (el := sVar 9) (xs := [some pq, some pq]) (g := vX) (e := [some (.loc m), some (.int (i : Nat)), some (.tup (c.map vN)), some (.loc la), some (.loc lb), some (.loc H4.length), some (.loc H5.length), z7, z8, none]) (h := H7) (fun _ => false) vX (fun j p ep => ⟨by
        have : j < 2 := (List.getElem?_eq_some_iff.mp ep).1
        have e2 : ([some pq, some pq].map vX)[j]? = some (vX p) := by rw [List.getElem?_map, ep]; rfl
        have at67 : H7[H5.length]? = some (Ob.lst ([some pq, some pq].map vX)) := at67
        simp only [srcL, at67, e2], _, rfl, by
        have : p = some pq := by
          have := List.mem_of_getElem? ep
          simpa using this
        subst this
        simp (disch := first | omega | exact rfl) only [EV0, EV1, EV2, EV3, List.set_cons_zero, List.set_cons_succ, List.length_cons, List.length_nil, List.length_map, Nat.zero_add, List.cons_append, List.nil_append, and_self, and_true, true_and, and_false, false_and, if_true, if_false, decide_true, decide_false, decide_eq_true_eq, Bool.not_true, Bool.not_false, Bool.false_eq_true, Bool.true_eq_false, Bool.not_eq_true, eq_self, not_true_eq_false, not_false_eq_true, List.cons.injEq, Nat.reduceAdd, Nat.reduceLeDiff, Nat.reduceEqDiff, Nat.reduceSub, Nat.reduceMul, ↓reduceIte, reduceCtorEq, lm], fun z => by cases z⟩) (by simp [srcL, at67])
      have cc : lcl (srcL H5.length) (gNm 9) (sNot (sTru (sCall G__law_meets 3 [0, 1, 2] (sCons (sVar 9) (sCons (sVar 3) (sCons (sVar 4) sNil)))))) (sVar 9) 2 0 [some (.loc m), some (.int (i : Nat)), some (.tup (c.map vN)), some (.loc la), some (.loc lb), some (.loc H4.length), some (.loc H5.length), z7, z8, none] H7 = .ok [] H7 := cc
      have it6 : itV (.loc H5.length) H7 = some (srcL H5.length, 2) := it6
      have m1 := new_ok (xs := ([] : List Va)) (h := H7) (by simp)
      have l1 := last_at H7 (Ob.lst [])
      have g1 : Gr H7 (H7 ++ [.lst []]) := .app _ _
      generalize hH8 : H7 ++ [Ob.lst []] = H8 at *
      have m2 := new_ok (xs := ([] : List Va)) (h := H8) (by simp)
      have ne := eqLE (α := Nat) true (by decide) (xs := []) (ys := []) (app_at (r := [Ob.lst []]) l1) (last_at H8 (Ob.lst [])) (fun _ _ => trivial) (fun _ _ => trivial)
      have ne : kNe (.loc H7.length) (.loc H8.length) (H8 ++ [Ob.lst []]) = .ok (.bl false) (H8 ++ [Ob.lst []]) := ne
      have K10 : Kp m h (H8 ++ [Ob.lst []]) := kp_gr K7 (g1.trans (.app _ _))
      exact ⟨_, _, by simp (disch := first | omega | exact rfl) only [EV0, EV1, EV2, EV3, List.set_cons_zero, List.set_cons_succ, List.length_cons, List.length_nil, List.length_map, Nat.zero_add, List.cons_append, List.nil_append, and_self, and_true, true_and, and_false, false_and, if_true, if_false, decide_true, decide_false, decide_eq_true_eq, Bool.not_true, Bool.not_false, Bool.false_eq_true, Bool.true_eq_false, Bool.not_eq_true, eq_self, not_true_eq_false, not_false_eq_true, List.cons.injEq, Nat.reduceAdd, Nat.reduceLeDiff, Nat.reduceEqDiff, Nat.reduceSub, Nat.reduceMul, ↓reduceIte, reduceCtorEq, stp_ap, seq_ap, gNm_ap, ec, es, ia, c3, lst_ok, n3, ib, c4, n4, ad, mt, n5, n6', eq, rv, isn, it6, cc, m1, m2, ne] <;> rfl, _, _, _, _, _, _, _, _, _, rfl, K10⟩)
  exact ⟨h', by simp (disch := first | omega | exact rfl) only [EV0, EV1, EV2, EV3, List.set_cons_zero, List.set_cons_succ, List.length_cons, List.length_nil, List.length_map, Nat.zero_add, List.cons_append, List.nil_append, and_self, and_true, true_and, and_false, false_and, if_true, if_false, decide_true, decide_false, decide_eq_true_eq, Bool.not_true, Bool.not_false, Bool.false_eq_true, Bool.true_eq_false, Bool.not_eq_true, eq_self, not_true_eq_false, not_false_eq_true, List.cons.injEq, Nat.reduceAdd, Nat.reduceLeDiff, Nat.reduceEqDiff, Nat.reduceSub, Nat.reduceMul, ↓reduceIte, reduceCtorEq] <;> rfl, k⟩
end Lawk14

set_option Elab.async false
set_option linter.all false
set_option maxRecDepth 100000
set_option maxHeartbeats 4000000
set_option autoImplicit false
namespace Lawk14
open PySem PySem.Spec L2 Fw Pg Fk Rv
open PyProof.Rows hiding St
theorem law_true (ns : List Int) (l : ns.length ≤ 63) : ∃ h', R_law [.ros (ns.map Va.int)] [] = .ok (.bl true) h' := by
  show ∃ h', fin (b_law [some (.ros (ns.map Va.int)), none] []) = _
  unfold b_law
  generalize hN : max 2 (min ns.length 4) = N
  have c : ∃ h', lcl (srcR 0 N) (gNm 1) tru (sCall G__law_right 1 [0] (sCons (sCall G__law_flask 2 [0, 1] (sCons (sVar 0) (sCons (sVar 1) sNil))) sNil)) N 0 [some (.ros (ns.map Va.int)), none] [] = .ok (List.replicate N (.bl true)) h' ∧ True := by
    refine lcl_inv _ (by simp) (fun i h' => True) ?_ ?_ trivial
    · rintro i hx hi _
      obtain ⟨a, b, c, e⟩ := Fk.flask_ok (k := i) (h := hx) l
      obtain ⟨hy, f, _⟩ := right_ok (h := hx ++ [.lst [.int a, .int b, .int c]]) (m := hx.length) ⟨a, b, c, last_at _ _⟩
      refine ⟨.int (i : Nat), _, _, _, hy, .bl true, by simp [hi], rfl, rfl, ?_, by simp [hi], trivial⟩
      simp (disch := first | omega | exact rfl) only [EV0, EV1, EV2, EV3, List.set_cons_zero, List.set_cons_succ, List.length_cons, List.length_nil, List.length_map, Nat.zero_add, List.cons_append, List.nil_append, and_self, and_true, true_and, and_false, false_and, if_true, if_false, decide_true, decide_false, decide_eq_true_eq, Bool.not_true, Bool.not_false, Bool.false_eq_true, Bool.true_eq_false, Bool.not_eq_true, eq_self, not_true_eq_false, not_false_eq_true, List.cons.injEq, Nat.reduceAdd, Nat.reduceLeDiff, Nat.reduceEqDiff, Nat.reduceSub, Nat.reduceMul, ↓reduceIte, reduceCtorEq, e, f]
    · rintro hx _
      simp
  obtain ⟨h', c, _⟩ := c
  have n6 := new_ok (xs := List.replicate N (Va.bl true)) (h := h') (by simp; omega)
  have a6 := all_true (h := h' ++ [.lst (List.replicate N (.bl true))]) (last_at h' _) (fun y m => (List.mem_replicate.mp m).2)
  exact ⟨_, by simp (disch := first | omega | exact rfl) only [EV0, EV1, EV2, EV3, List.set_cons_zero, List.set_cons_succ, List.length_cons, List.length_nil, List.length_map, Nat.zero_add, List.cons_append, List.nil_append, and_self, and_true, true_and, and_false, false_and, if_true, if_false, decide_true, decide_false, decide_eq_true_eq, Bool.not_true, Bool.not_false, Bool.false_eq_true, Bool.true_eq_false, Bool.not_eq_true, eq_self, not_true_eq_false, not_false_eq_true, List.cons.injEq, Nat.reduceAdd, Nat.reduceLeDiff, Nat.reduceEqDiff, Nat.reduceSub, Nat.reduceMul, ↓reduceIte, reduceCtorEq, sRg1_k, hN, rgk1_ok, c, lst_ok, n6, a6] <;> rfl⟩
end Lawk14

set_option Elab.async false
set_option linter.all false
set_option maxRecDepth 100000
set_option maxHeartbeats 2000000
set_option autoImplicit false
namespace Lawk14
open PySem PySem.Spec L2 Fw Pg Fk
open PyProof.Rows hiding St
def top (i : Nat) : Stmt := PySem.Challenge.pw_foldworld_k14_whole_candidates_judged.main.body.getD i (.Pass ⟨0, 0, 0, 0⟩)
abbrev st_is_crossing : Stmt := top 1
abbrev N_is_crossing : List Str := ["arch", "other_arch", "low", "high", "other_low", "other_high"]
theorem sc_is_crossing : FnScope N_is_crossing ["arch", "other_arch"] (defScope st_is_crossing) := ⟨rfl, rfl, rfl, by decide +kernel, rfl, by decide +kernel, by decide +kernel⟩
abbrev st_is_within : Stmt := top 12
abbrev N_is_within : List Str := ["value", "least", "most"]
theorem sc_is_within : FnScope N_is_within ["value", "least", "most"] (defScope st_is_within) := ⟨rfl, rfl, rfl, by decide +kernel, rfl, by decide +kernel, by decide +kernel⟩
abbrev st_is_text : Stmt := top 13
abbrev N_is_text : List Str := ["value", "signs", "least", "most"]
theorem sc_is_text : FnScope N_is_text ["value", "signs", "least", "most"] (defScope st_is_text) := ⟨rfl, rfl, rfl, by decide +kernel, rfl, by decide +kernel, by decide +kernel⟩
abbrev st__is_tuple : Stmt := top 18
abbrev N__is_tuple : List Str := ["value", "least", "most"]
theorem sc__is_tuple : FnScope N__is_tuple ["value", "least", "most"] (defScope st__is_tuple) := ⟨rfl, rfl, rfl, by decide +kernel, rfl, by decide +kernel, by decide +kernel⟩
abbrev st_mates_of : Stmt := top 21
abbrev N_mates_of : List Str := ["row", "mates", "still_open", "foot", "sign", "other"]
theorem sc_mates_of : FnScope N_mates_of ["row"] (defScope st_mates_of) := ⟨rfl, rfl, rfl, by decide +kernel, rfl, by decide +kernel, by decide +kernel⟩
abbrev st_walk_from : Stmt := top 23
abbrev N_walk_from : List Str := ["upper_mates", "lower_mates", "foot", "met", "here", "other"]
theorem sc_walk_from : FnScope N_walk_from ["upper_mates", "lower_mates", "foot"] (defScope st_walk_from) := ⟨rfl, rfl, rfl, by decide +kernel, rfl, by decide +kernel, by decide +kernel⟩
abbrev st__joined : Stmt := top 31
abbrev N__joined : List Str := ["feet", "other_feet", "foot", "other"]
theorem sc__joined : FnScope N__joined ["feet", "other_feet"] (defScope st__joined) := ⟨rfl, rfl, rfl, by decide +kernel, rfl, by decide +kernel, by decide +kernel⟩
abbrev st__row_with : Stmt := top 32
abbrev N__row_with : List Str := ["arches", "signs", "low", "_"]
theorem sc__row_with : FnScope N__row_with ["arches"] (defScope st__row_with) := ⟨rfl, rfl, rfl, by decide +kernel, rfl, by decide +kernel, by decide +kernel⟩
abbrev st__law_flask : Stmt := top 34
abbrev N__law_flask : List Str := ["script", "k", "own", "mixed", "entry_here"]
theorem sc__law_flask : FnScope N__law_flask ["script", "k"] (defScope st__law_flask) := ⟨rfl, rfl, rfl, by decide +kernel, rfl, by decide +kernel, by decide +kernel⟩
abbrev st__law_pour : Stmt := top 35
abbrev N__law_pour : List Str := ["flask", "top", "digit", "level_here", "factor"]
theorem sc__law_pour : FnScope N__law_pour ["flask", "top"] (defScope st__law_pour) := ⟨rfl, rfl, rfl, by decide +kernel, rfl, by decide +kernel, by decide +kernel⟩
abbrev st__law_mates : Stmt := top 38
abbrev N__law_mates : List Str := ["line", "found", "opened", "k"]
theorem sc__law_mates : FnScope N__law_mates ["line"] (defScope st__law_mates) := ⟨rfl, rfl, rfl, by decide +kernel, rfl, by decide +kernel, by decide +kernel⟩
abbrev st__law_crosses : Stmt := top 40
abbrev N__law_crosses : List Str := ["one", "other"]
theorem sc__law_crosses : FnScope N__law_crosses ["one", "other"] (defScope st__law_crosses) := ⟨rfl, rfl, rfl, by decide +kernel, rfl, by decide +kernel, by decide +kernel⟩
abbrev st__law_sides : Stmt := top 41
abbrev N__law_sides : List Str := ["line", "size", "pairs", "k", "a", "b"]
theorem sc__law_sides : FnScope N__law_sides ["line"] (defScope st__law_sides) := ⟨rfl, rfl, rfl, by decide +kernel, rfl, by decide +kernel, by decide +kernel⟩
abbrev st__law_text : Stmt := top 42
abbrev N__law_text : List Str := ["pairs", "firsts", "pair", "k"]
theorem sc__law_text : FnScope N__law_text ["pairs"] (defScope st__law_text) := ⟨rfl, rfl, rfl, by decide +kernel, rfl, by decide +kernel, by decide +kernel⟩
abbrev st_first_crossing : Stmt := top 2
abbrev N_first_crossing : List Str := ["arches", "index", "arch", "other_arch"]
theorem sc_first_crossing : FnScope N_first_crossing ["arches"] (defScope st_first_crossing) := ⟨rfl, rfl, rfl, by decide +kernel, rfl, by decide +kernel, by decide +kernel⟩
abbrev st_is_row : Stmt := top 14
abbrev N_is_row : List Str := ["value", "height", "sign"]
theorem sc_is_row : FnScope N_is_row ["value"] (defScope st_is_row) := ⟨rfl, rfl, rfl, by decide +kernel, rfl, by decide +kernel, by decide +kernel⟩
abbrev st__wrong_in_order : Stmt := top 19
abbrev N__wrong_in_order : List Str := ["values", "index", "value"]
theorem sc__wrong_in_order : FnScope N__wrong_in_order ["values"] (defScope st__wrong_in_order) := ⟨rfl, rfl, rfl, by decide +kernel, rfl, by decide +kernel, by decide +kernel⟩
abbrev st_arches_along : Stmt := top 29
abbrev N_arches_along : List Str := ["candidate"]
theorem sc_arches_along : FnScope N_arches_along ["candidate"] (defScope st_arches_along) := ⟨rfl, rfl, rfl, by decide +kernel, rfl, by decide +kernel, by decide +kernel⟩
abbrev st__is_one_round : Stmt := top 30
abbrev N__is_one_round : List Str := ["upper_mates", "lower_mates"]
theorem sc__is_one_round : FnScope N__is_one_round ["upper_mates", "lower_mates"] (defScope st__is_one_round) := ⟨rfl, rfl, rfl, by decide +kernel, rfl, by decide +kernel, by decide +kernel⟩
abbrev st__law_pick : Stmt := top 36
abbrev N__law_pick : List Str := ["flask", "some"]
theorem sc__law_pick : FnScope N__law_pick ["flask", "some"] (defScope st__law_pick) := ⟨rfl, rfl, rfl, by decide +kernel, rfl, by decide +kernel, by decide +kernel⟩
abbrev st__law_row : Stmt := top 37
abbrev N__law_row : List Str := ["flask", "many", "text", "high", "left", "k"]
theorem sc__law_row : FnScope N__law_row ["flask", "many"] (defScope st__law_row) := ⟨rfl, rfl, rfl, by decide +kernel, rfl, by decide +kernel, by decide +kernel⟩
abbrev st__law_path : Stmt := top 39
abbrev N__law_path : List Str := ["high", "low", "near", "far", "found", "here", "turn"]
theorem sc__law_path : FnScope N__law_path ["high", "low"] (defScope st__law_path) := ⟨rfl, rfl, rfl, by decide +kernel, rfl, by decide +kernel, by decide +kernel⟩
abbrev st__law_drawn : Stmt := top 43
abbrev N__law_drawn : List Str := ["flask", "many", "left", "found", "k"]
theorem sc__law_drawn : FnScope N__law_drawn ["flask", "many"] (defScope st__law_drawn) := ⟨rfl, rfl, rfl, by decide +kernel, rfl, by decide +kernel, by decide +kernel⟩
abbrev st__law_meets : Stmt := top 45
abbrev N__law_meets : List Str := ["told", "high", "low"]
theorem sc__law_meets : FnScope N__law_meets ["told", "high", "low"] (defScope st__law_meets) := ⟨rfl, rfl, rfl, by decide +kernel, rfl, by decide +kernel, by decide +kernel⟩
abbrev st_need_row : Stmt := top 15
abbrev N_need_row : List Str := ["value"]
theorem sc_need_row : FnScope N_need_row ["value"] (defScope st_need_row) := ⟨rfl, rfl, rfl, by decide +kernel, rfl, by decide +kernel, by decide +kernel⟩
abbrev st_need_candidate : Stmt := top 17
abbrev N_need_candidate : List Str := ["value", "index"]
theorem sc_need_candidate : FnScope N_need_candidate ["value"] (defScope st_need_candidate) := ⟨rfl, rfl, rfl, by decide +kernel, rfl, by decide +kernel, by decide +kernel⟩
abbrev st__law_candidate : Stmt := top 44
abbrev N__law_candidate : List Str := ["flask", "many", "found", "turn", "line", "k", "j", "i"]
theorem sc__law_candidate : FnScope N__law_candidate ["flask"] (defScope st__law_candidate) := ⟨rfl, rfl, rfl, by decide +kernel, rfl, by decide +kernel, by decide +kernel⟩
abbrev st_need_rows : Stmt := top 16
abbrev N_need_rows : List Str := ["value", "other_value"]
theorem sc_need_rows : FnScope N_need_rows ["value", "other_value"] (defScope st_need_rows) := ⟨rfl, rfl, rfl, by decide +kernel, rfl, by decide +kernel, by decide +kernel⟩
abbrev st_meeting : Stmt := top 28
abbrev N_meeting : List Str := ["candidate", "upper", "lower", "found"]
theorem sc_meeting : FnScope N_meeting ["candidate"] (defScope st_meeting) := ⟨rfl, rfl, rfl, by decide +kernel, rfl, by decide +kernel, by decide +kernel⟩
abbrev st_is_river : Stmt := top 25
abbrev N_is_river : List Str := ["upper", "lower"]
theorem sc_is_river : FnScope N_is_river ["upper", "lower"] (defScope st_is_river) := ⟨rfl, rfl, rfl, by decide +kernel, rfl, by decide +kernel, by decide +kernel⟩
abbrev st_river_of : Stmt := top 27
abbrev N_river_of : List Str := ["candidate", "upper", "lower"]
theorem sc_river_of : FnScope N_river_of ["candidate"] (defScope st_river_of) := ⟨rfl, rfl, rfl, by decide +kernel, rfl, by decide +kernel, by decide +kernel⟩
abbrev st_path : Stmt := top 26
abbrev N_path : List Str := ["upper", "lower"]
theorem sc_path : FnScope N_path ["upper", "lower"] (defScope st_path) := ⟨rfl, rfl, rfl, by decide +kernel, rfl, by decide +kernel, by decide +kernel⟩
abbrev st__law_right : Stmt := top 46
abbrev N__law_right : List Str := ["flask", "turn", "line", "high", "low", "bad", "told", "due", "one", "each"]
theorem sc__law_right : FnScope N__law_right ["flask"] (defScope st__law_right) := ⟨rfl, rfl, rfl, by decide +kernel, rfl, by decide +kernel, by decide +kernel⟩
abbrev st_law : Stmt := top 47
abbrev N_law : List Str := ["script", "k"]
theorem sc_law : FnScope N_law ["script"] (defScope st_law) := ⟨rfl, rfl, rfl, by decide +kernel, rfl, by decide +kernel, by decide +kernel⟩
theorem kb__is_one_round_2 : KwB "_is_one_round" st__is_one_round ["upper_mates", "lower_mates"] [] 2 0 [0, 1] := ⟨rfl, by decide, fun us ws h1 h2 _ _ _ _ _ _ => match us, h1, ws, h2 with | [_, _], _, [], _ => rfl⟩
theorem kb__is_tuple_3 : KwB "_is_tuple" st__is_tuple ["value", "least", "most"] [] 3 0 [0, 1, 2] := ⟨rfl, by decide, fun us ws h1 h2 _ _ _ _ _ _ => match us, h1, ws, h2 with | [_, _, _], _, [], _ => rfl⟩
theorem kb__joined_2 : KwB "_joined" st__joined ["feet", "other_feet"] [] 2 0 [0, 1] := ⟨rfl, by decide, fun us ws h1 h2 _ _ _ _ _ _ => match us, h1, ws, h2 with | [_, _], _, [], _ => rfl⟩
theorem kb__law_candidate_1 : KwB "_law_candidate" st__law_candidate ["flask"] [] 1 0 [0] := ⟨rfl, by decide, fun us ws h1 h2 _ _ _ _ _ _ => match us, h1, ws, h2 with | [_], _, [], _ => rfl⟩
theorem kb__law_crosses_2 : KwB "_law_crosses" st__law_crosses ["one", "other"] [] 2 0 [0, 1] := ⟨rfl, by decide, fun us ws h1 h2 _ _ _ _ _ _ => match us, h1, ws, h2 with | [_, _], _, [], _ => rfl⟩
theorem kb__law_drawn_2 : KwB "_law_drawn" st__law_drawn ["flask", "many"] [] 2 0 [0, 1] := ⟨rfl, by decide, fun us ws h1 h2 _ _ _ _ _ _ => match us, h1, ws, h2 with | [_, _], _, [], _ => rfl⟩
theorem kb__law_flask_2 : KwB "_law_flask" st__law_flask ["script", "k"] [] 2 0 [0, 1] := ⟨rfl, by decide, fun us ws h1 h2 _ _ _ _ _ _ => match us, h1, ws, h2 with | [_, _], _, [], _ => rfl⟩
theorem kb__law_mates_1 : KwB "_law_mates" st__law_mates ["line"] [] 1 0 [0] := ⟨rfl, by decide, fun us ws h1 h2 _ _ _ _ _ _ => match us, h1, ws, h2 with | [_], _, [], _ => rfl⟩
theorem kb__law_meets_3 : KwB "_law_meets" st__law_meets ["told", "high", "low"] [] 3 0 [0, 1, 2] := ⟨rfl, by decide, fun us ws h1 h2 _ _ _ _ _ _ => match us, h1, ws, h2 with | [_, _, _], _, [], _ => rfl⟩
theorem kb__law_path_2 : KwB "_law_path" st__law_path ["high", "low"] [] 2 0 [0, 1] := ⟨rfl, by decide, fun us ws h1 h2 _ _ _ _ _ _ => match us, h1, ws, h2 with | [_, _], _, [], _ => rfl⟩
theorem kb__law_pick_2 : KwB "_law_pick" st__law_pick ["flask", "some"] [] 2 0 [0, 1] := ⟨rfl, by decide, fun us ws h1 h2 _ _ _ _ _ _ => match us, h1, ws, h2 with | [_, _], _, [], _ => rfl⟩
theorem kb__law_pour_2 : KwB "_law_pour" st__law_pour ["flask", "top"] [] 2 0 [0, 1] := ⟨rfl, by decide, fun us ws h1 h2 _ _ _ _ _ _ => match us, h1, ws, h2 with | [_, _], _, [], _ => rfl⟩
theorem kb__law_right_1 : KwB "_law_right" st__law_right ["flask"] [] 1 0 [0] := ⟨rfl, by decide, fun us ws h1 h2 _ _ _ _ _ _ => match us, h1, ws, h2 with | [_], _, [], _ => rfl⟩
theorem kb__law_row_2 : KwB "_law_row" st__law_row ["flask", "many"] [] 2 0 [0, 1] := ⟨rfl, by decide, fun us ws h1 h2 _ _ _ _ _ _ => match us, h1, ws, h2 with | [_, _], _, [], _ => rfl⟩
theorem kb__law_sides_1 : KwB "_law_sides" st__law_sides ["line"] [] 1 0 [0] := ⟨rfl, by decide, fun us ws h1 h2 _ _ _ _ _ _ => match us, h1, ws, h2 with | [_], _, [], _ => rfl⟩
theorem kb__law_text_1 : KwB "_law_text" st__law_text ["pairs"] [] 1 0 [0] := ⟨rfl, by decide, fun us ws h1 h2 _ _ _ _ _ _ => match us, h1, ws, h2 with | [_], _, [], _ => rfl⟩
theorem kb__row_with_1 : KwB "_row_with" st__row_with ["arches"] [] 1 0 [0] := ⟨rfl, by decide, fun us ws h1 h2 _ _ _ _ _ _ => match us, h1, ws, h2 with | [_], _, [], _ => rfl⟩
theorem kb__wrong_in_order_1 : KwB "_wrong_in_order" st__wrong_in_order ["values"] [] 1 0 [0] := ⟨rfl, by decide, fun us ws h1 h2 _ _ _ _ _ _ => match us, h1, ws, h2 with | [_], _, [], _ => rfl⟩
theorem kb_arches_along_1 : KwB "arches_along" st_arches_along ["candidate"] [] 1 0 [0] := ⟨rfl, by decide, fun us ws h1 h2 _ _ _ _ _ _ => match us, h1, ws, h2 with | [_], _, [], _ => rfl⟩
theorem kb_first_crossing_1 : KwB "first_crossing" st_first_crossing ["arches"] [] 1 0 [0] := ⟨rfl, by decide, fun us ws h1 h2 _ _ _ _ _ _ => match us, h1, ws, h2 with | [_], _, [], _ => rfl⟩
theorem kb_is_crossing_2 : KwB "is_crossing" st_is_crossing ["arch", "other_arch"] [] 2 0 [0, 1] := ⟨rfl, by decide, fun us ws h1 h2 _ _ _ _ _ _ => match us, h1, ws, h2 with | [_, _], _, [], _ => rfl⟩
theorem kb_is_river_2 : KwB "is_river" st_is_river ["upper", "lower"] [] 2 0 [0, 1] := ⟨rfl, by decide, fun us ws h1 h2 _ _ _ _ _ _ => match us, h1, ws, h2 with | [_, _], _, [], _ => rfl⟩
theorem kb_is_row_1 : KwB "is_row" st_is_row ["value"] [] 1 0 [0] := ⟨rfl, by decide, fun us ws h1 h2 _ _ _ _ _ _ => match us, h1, ws, h2 with | [_], _, [], _ => rfl⟩
theorem kb_is_text_4 : KwB "is_text" st_is_text ["value", "signs", "least", "most"] [] 4 0 [0, 1, 2, 3] := ⟨rfl, by decide, fun us ws h1 h2 _ _ _ _ _ _ => match us, h1, ws, h2 with | [_, _, _, _], _, [], _ => rfl⟩
theorem kb_is_within_3 : KwB "is_within" st_is_within ["value", "least", "most"] [] 3 0 [0, 1, 2] := ⟨rfl, by decide, fun us ws h1 h2 _ _ _ _ _ _ => match us, h1, ws, h2 with | [_, _, _], _, [], _ => rfl⟩
theorem kb_mates_of_1 : KwB "mates_of" st_mates_of ["row"] [] 1 0 [0] := ⟨rfl, by decide, fun us ws h1 h2 _ _ _ _ _ _ => match us, h1, ws, h2 with | [_], _, [], _ => rfl⟩
theorem kb_meeting_0_candidate : KwB "meeting" st_meeting ["candidate"] ["candidate"] 0 1 [0] := ⟨rfl, by decide, fun us ws h1 h2 _ _ _ _ _ _ => match us, h1, ws, h2 with | [], _, [_], _ => rfl⟩
theorem kb_meeting_1 : KwB "meeting" st_meeting ["candidate"] [] 1 0 [0] := ⟨rfl, by decide, fun us ws h1 h2 _ _ _ _ _ _ => match us, h1, ws, h2 with | [_], _, [], _ => rfl⟩
theorem kb_need_candidate_1 : KwB "need_candidate" st_need_candidate ["value"] [] 1 0 [0] := ⟨rfl, by decide, fun us ws h1 h2 _ _ _ _ _ _ => match us, h1, ws, h2 with | [_], _, [], _ => rfl⟩
theorem kb_need_row_1 : KwB "need_row" st_need_row ["value"] [] 1 0 [0] := ⟨rfl, by decide, fun us ws h1 h2 _ _ _ _ _ _ => match us, h1, ws, h2 with | [_], _, [], _ => rfl⟩
theorem kb_need_rows_2 : KwB "need_rows" st_need_rows ["value", "other_value"] [] 2 0 [0, 1] := ⟨rfl, by decide, fun us ws h1 h2 _ _ _ _ _ _ => match us, h1, ws, h2 with | [_, _], _, [], _ => rfl⟩
theorem kb_path_2 : KwB "path" st_path ["upper", "lower"] [] 2 0 [0, 1] := ⟨rfl, by decide, fun us ws h1 h2 _ _ _ _ _ _ => match us, h1, ws, h2 with | [_, _], _, [], _ => rfl⟩
theorem kb_river_of_0_candidate : KwB "river_of" st_river_of ["candidate"] ["candidate"] 0 1 [0] := ⟨rfl, by decide, fun us ws h1 h2 _ _ _ _ _ _ => match us, h1, ws, h2 with | [], _, [_], _ => rfl⟩
theorem kb_river_of_1 : KwB "river_of" st_river_of ["candidate"] [] 1 0 [0] := ⟨rfl, by decide, fun us ws h1 h2 _ _ _ _ _ _ => match us, h1, ws, h2 with | [_], _, [], _ => rfl⟩
theorem kb_walk_from_3 : KwB "walk_from" st_walk_from ["upper_mates", "lower_mates", "foot"] [] 3 0 [0, 1, 2] := ⟨rfl, by decide, fun us ws h1 h2 _ _ _ _ _ _ => match us, h1, ws, h2 with | [_, _, _], _, [], _ => rfl⟩
structure Glob (K : PySem.W.Frag) (mg : Str → Option Value) : Prop where
  n_abs : mg "abs" = none
  n_all : mg "all" = none
  n_divmod : mg "divmod" = none
  n_enumerate : mg "enumerate" = none
  n_int : mg "int" = none
  n_isinstance : mg "isinstance" = none
  n_len : mg "len" = none
  n_list : mg "list" = none
  n_max : mg "max" = none
  n_min : mg "min" = none
  n_range : mg "range" = none
  n_sorted : mg "sorted" = none
  n_str : mg "str" = none
  n_tuple : mg "tuple" = none
  n_type : mg "type" = none
  n_zip : mg "zip" = none
  c_MOST_ARCHES : ∃ t, mg "MOST_ARCHES" = some (.int 12 t)
section
variable {P : Program} {w : World} {K : PySem.W.Frag} {mg : Str → Option Value} {base : Heap}
set_option maxHeartbeats 8000000 in
theorem d_is_crossing (T : Glob K mg)  {f : Addr} {kV doc pm cdv ct oc : Value} {an od : Option Addr} {osl : Array (Option Value)}
    (lk : K.lookup f = some ⟨oc, od, .func (PySem.W.fnOf "is_crossing" "is_crossing" (defArgs st_is_crossing) (defBody st_is_crossing) (defScope st_is_crossing) .none kV doc pm an cdv ct), osl⟩) (hcd : PySem.W.codeIn K cdv "is_crossing" = true) :
    DefOk P w ⟨K, mg⟩ base 1 f (PySem.W.fnOf "is_crossing" "is_crossing" (defArgs st_is_crossing) (defBody st_is_crossing) (defScope st_is_crossing) .none kV doc pm an cdv ct) ["arch", "other_arch"] R_is_crossing := by
  refine defOk_of (N := N_is_crossing) lk hcd sc_is_crossing fun A outer s H E hr hg => ?_
  have hu := hr.units
  have hu5 := units5 hr
  have nd : (N_is_crossing).Nodup := sc_is_crossing.nd
  have tk := @takes_of (bodyX P w K mg base N_is_crossing "is_crossing" (defScope st_is_crossing) f cdv A outer s H E) E rfl rfl rfl _ rfl
  have hpass : PassesOwn _ _ _ _ := @passes_of (bodyX P w K mg base N_is_crossing "is_crossing" (defScope st_is_crossing) f cdv A outer s H E) _ _ rfl
  exact (ss_cons (sp_asg (se_var 0) (sg_tup rfl (sgs_cons (sg_name 2 nd) (sgs_cons (sg_name 3 nd) sgs_nil))))
  (ss_cons (sp_asg (se_var 1) (sg_tup rfl (sgs_cons (sg_name 4 nd) (sgs_cons (sg_name 5 nd) sgs_nil))))
  (ss_one (sp_ret (se_or (se_ch3 ks_lt ks_lt ks_lt (se_var 2) (se_var 4) (se_var 3) (se_var 5)) (se_one (se_ch3 ks_lt ks_lt ks_lt (se_var 4) (se_var 2) (se_var 5) (se_var 3))))))))
set_option maxHeartbeats 8000000 in
theorem d_is_within (T : Glob K mg)  {f : Addr} {kV doc pm cdv ct oc : Value} {an od : Option Addr} {osl : Array (Option Value)}
    (lk : K.lookup f = some ⟨oc, od, .func (PySem.W.fnOf "is_within" "is_within" (defArgs st_is_within) (defBody st_is_within) (defScope st_is_within) .none kV doc pm an cdv ct), osl⟩) (hcd : PySem.W.codeIn K cdv "is_within" = true) :
    DefOk P w ⟨K, mg⟩ base 1 f (PySem.W.fnOf "is_within" "is_within" (defArgs st_is_within) (defBody st_is_within) (defScope st_is_within) .none kV doc pm an cdv ct) ["value", "least", "most"] R_is_within := by
  refine defOk_of (N := N_is_within) lk hcd sc_is_within fun A outer s H E hr hg => ?_
  have hu := hr.units
  have hu5 := units5 hr
  have nd : (N_is_within).Nodup := sc_is_within.nd
  have tk := @takes_of (bodyX P w K mg base N_is_within "is_within" (defScope st_is_within) f cdv A outer s H E) E rfl rfl rfl _ rfl
  have hpass : PassesOwn _ _ _ _ := @passes_of (bodyX P w K mg base N_is_within "is_within" (defScope st_is_within) f cdv A outer s H E) _ _ rfl
  exact (ss_one (sp_ret (se_and (se_com ks_is (se_bty cs_typ (by rfl) T.n_type (sa_cons (se_var 0) sa_nil)) (se_ty (by rfl) T.n_int)) (se_one (se_chn ks_le ks_le (se_var 1) (se_var 0) (se_var 2))))))
set_option maxHeartbeats 8000000 in
theorem d_is_text (T : Glob K mg)  {f : Addr} {kV doc pm cdv ct oc : Value} {an od : Option Addr} {osl : Array (Option Value)}
    (lk : K.lookup f = some ⟨oc, od, .func (PySem.W.fnOf "is_text" "is_text" (defArgs st_is_text) (defBody st_is_text) (defScope st_is_text) .none kV doc pm an cdv ct), osl⟩) (hcd : PySem.W.codeIn K cdv "is_text" = true) :
    DefOk P w ⟨K, mg⟩ base 1 f (PySem.W.fnOf "is_text" "is_text" (defArgs st_is_text) (defBody st_is_text) (defScope st_is_text) .none kV doc pm an cdv ct) ["value", "signs", "least", "most"] R_is_text := by
  refine defOk_of (N := N_is_text) lk hcd sc_is_text fun A outer s H E hr hg => ?_
  have hu := hr.units
  have hu5 := units5 hr
  have nd : (N_is_text).Nodup := sc_is_text.nd
  have tk := @takes_of (bodyX P w K mg base N_is_text "is_text" (defScope st_is_text) f cdv A outer s H E) E rfl rfl rfl _ rfl
  have hpass : PassesOwn _ _ _ _ := @passes_of (bodyX P w K mg base N_is_text "is_text" (defScope st_is_text) f cdv A outer s H E) _ _ rfl
  exact (ss_one (sp_ret (se_and (se_com ks_is (se_bty cs_typ (by rfl) T.n_type (sa_cons (se_var 0) sa_nil)) (se_ty (by rfl) T.n_str)) (se_and (se_chn ks_le ks_le (se_var 2) (se_blt cs_len (by rfl) T.n_len (sa_cons (se_var 0) sa_nil)) (se_var 3)) (se_one (se_com (ks_eq hu) (se_mth PySem.F.plainAttrs_str PySem.F.slot_str_strip PySem.F.type_str_strip ms_strp (se_var 0) (sa_cons (se_var 1) sa_nil)) (se_str [])))))))
set_option maxHeartbeats 8000000 in
theorem d__is_tuple (T : Glob K mg)  {f : Addr} {kV doc pm cdv ct oc : Value} {an od : Option Addr} {osl : Array (Option Value)}
    (lk : K.lookup f = some ⟨oc, od, .func (PySem.W.fnOf "_is_tuple" "_is_tuple" (defArgs st__is_tuple) (defBody st__is_tuple) (defScope st__is_tuple) .none kV doc pm an cdv ct), osl⟩) (hcd : PySem.W.codeIn K cdv "_is_tuple" = true) :
    DefOk P w ⟨K, mg⟩ base 1 f (PySem.W.fnOf "_is_tuple" "_is_tuple" (defArgs st__is_tuple) (defBody st__is_tuple) (defScope st__is_tuple) .none kV doc pm an cdv ct) ["value", "least", "most"] R__is_tuple := by
  refine defOk_of (N := N__is_tuple) lk hcd sc__is_tuple fun A outer s H E hr hg => ?_
  have hu := hr.units
  have hu5 := units5 hr
  have nd : (N__is_tuple).Nodup := sc__is_tuple.nd
  have tk := @takes_of (bodyX P w K mg base N__is_tuple "_is_tuple" (defScope st__is_tuple) f cdv A outer s H E) E rfl rfl rfl _ rfl
  have hpass : PassesOwn _ _ _ _ := @passes_of (bodyX P w K mg base N__is_tuple "_is_tuple" (defScope st__is_tuple) f cdv A outer s H E) _ _ rfl
  exact (ss_one (sp_ret (se_and (se_com ks_is (se_bty cs_typ (by rfl) T.n_type (sa_cons (se_var 0) sa_nil)) (se_ty (by rfl) T.n_tuple)) (se_one (se_chn ks_le ks_le (se_var 1) (se_blt cs_len (by rfl) T.n_len (sa_cons (se_var 0) sa_nil)) (se_var 2))))))
set_option maxHeartbeats 8000000 in
theorem d_mates_of (T : Glob K mg)  {f : Addr} {kV doc pm cdv ct oc : Value} {an od : Option Addr} {osl : Array (Option Value)}
    (lk : K.lookup f = some ⟨oc, od, .func (PySem.W.fnOf "mates_of" "mates_of" (defArgs st_mates_of) (defBody st_mates_of) (defScope st_mates_of) .none kV doc pm an cdv ct), osl⟩) (hcd : PySem.W.codeIn K cdv "mates_of" = true) :
    DefOk P w ⟨K, mg⟩ base 1 f (PySem.W.fnOf "mates_of" "mates_of" (defArgs st_mates_of) (defBody st_mates_of) (defScope st_mates_of) .none kV doc pm an cdv ct) ["row"] R_mates_of := by
  refine defOk_of (N := N_mates_of) lk hcd sc_mates_of fun A outer s H E hr hg => ?_
  have hu := hr.units
  have hu5 := units5 hr
  have nd : (N_mates_of).Nodup := sc_mates_of.nd
  have tk := @takes_of (bodyX P w K mg base N_mates_of "mates_of" (defScope st_mates_of) f cdv A outer s H E) E rfl rfl rfl _ rfl
  have hpass : PassesOwn _ _ _ _ := @passes_of (bodyX P w K mg base N_mates_of "mates_of" (defScope st_mates_of) f cdv A outer s H E) _ _ rfl
  exact (ss_cons (sp_set 1 nd (se_bin ks_mul (se_lst (sa_cons se_int sa_nil)) (se_blt cs_len (by rfl) T.n_len (sa_cons (se_var 0) sa_nil))))
  (ss_cons (sp_set 2 nd (se_lst sa_nil))
  (ss_cons (sp_for hpass rfl (si_enumT (by rfl) T.n_enumerate (sa_cons (se_var 0) sa_nil)) (sg_tup rfl (sgs_cons (sg_name 3 nd) (sgs_cons (sg_name 4 nd) sgs_nil)))
  (ss_one (sp_if (st_com (ks_eq hu) (se_var 4) (se_str [40]))
  (ss_one (sp_expr (se_mth PySem.F.plainAttrs_list PySem.F.slot_list_append PySem.F.type_list_append ms_app (se_var 2) (sa_cons (se_var 3) sa_nil))))
  (ss_cons (sp_set 5 nd (se_mth0 PySem.F.plainAttrs_list PySem.F.slot_list_pop PySem.F.type_list_pop ms_pop (se_var 2)))
  (ss_cons (sp_asg (se_var 5) (sg_sub (se_var 1) (se_var 3)))
  (ss_one (sp_asg (se_var 3) (sg_sub (se_var 1) (se_var 5)))))))))
  (ss_one (sp_ret (se_var 1))))))
set_option maxHeartbeats 8000000 in
theorem d_walk_from (T : Glob K mg)  {f : Addr} {kV doc pm cdv ct oc : Value} {an od : Option Addr} {osl : Array (Option Value)}
    (lk : K.lookup f = some ⟨oc, od, .func (PySem.W.fnOf "walk_from" "walk_from" (defArgs st_walk_from) (defBody st_walk_from) (defScope st_walk_from) .none kV doc pm an cdv ct), osl⟩) (hcd : PySem.W.codeIn K cdv "walk_from" = true) :
    DefOk P w ⟨K, mg⟩ base 1 f (PySem.W.fnOf "walk_from" "walk_from" (defArgs st_walk_from) (defBody st_walk_from) (defScope st_walk_from) .none kV doc pm an cdv ct) ["upper_mates", "lower_mates", "foot"] R_walk_from := by
  refine defOk_of (N := N_walk_from) lk hcd sc_walk_from fun A outer s H E hr hg => ?_
  have hu := hr.units
  have hu5 := units5 hr
  have nd : (N_walk_from).Nodup := sc_walk_from.nd
  have tk := @takes_of (bodyX P w K mg base N_walk_from "walk_from" (defScope st_walk_from) f cdv A outer s H E) E rfl rfl rfl _ rfl
  have hpass : PassesOwn _ _ _ _ := @passes_of (bodyX P w K mg base N_walk_from "walk_from" (defScope st_walk_from) f cdv A outer s H E) _ _ rfl
  exact (ss_cons (sp_set 3 nd (se_lst sa_nil))
  (ss_cons (sp_set 4 nd (se_var 2))
  (ss_cons (sp_while 1000 hpass (PW.pt (sw_or (st_not (st_tru (se_var 3))) (sw_or1 (st_com (ks_ne hu) (se_var 4) (se_var 2)))))
  (ss_cons (sp_set 5 nd (se_ix (se_var 0) (se_var 4)))
  (ss_cons (sp_expr (se_mth PySem.F.plainAttrs_list PySem.F.slot_list_append PySem.F.type_list_append ms_app (se_var 3) (sa_cons (se_var 4) sa_nil)))
  (ss_cons (sp_expr (se_mth PySem.F.plainAttrs_list PySem.F.slot_list_append PySem.F.type_list_append ms_app (se_var 3) (sa_cons (se_var 5) sa_nil)))
  (ss_one (sp_set 4 nd (se_ix (se_var 1) (se_var 5))))))))
  (ss_one (sp_ret (se_var 3))))))
set_option maxHeartbeats 8000000 in
theorem d__joined (T : Glob K mg)  {f : Addr} {kV doc pm cdv ct oc : Value} {an od : Option Addr} {osl : Array (Option Value)}
    (lk : K.lookup f = some ⟨oc, od, .func (PySem.W.fnOf "_joined" "_joined" (defArgs st__joined) (defBody st__joined) (defScope st__joined) .none kV doc pm an cdv ct), osl⟩) (hcd : PySem.W.codeIn K cdv "_joined" = true) :
    DefOk P w ⟨K, mg⟩ base 1 f (PySem.W.fnOf "_joined" "_joined" (defArgs st__joined) (defBody st__joined) (defScope st__joined) .none kV doc pm an cdv ct) ["feet", "other_feet"] R__joined := by
  refine defOk_of (N := N__joined) lk hcd sc__joined fun A outer s H E hr hg => ?_
  have hu := hr.units
  have hu5 := units5 hr
  have nd : (N__joined).Nodup := sc__joined.nd
  have tk := @takes_of (bodyX P w K mg base N__joined "_joined" (defScope st__joined) f cdv A outer s H E) E rfl rfl rfl _ rfl
  have hpass : PassesOwn _ _ _ _ := @passes_of (bodyX P w K mg base N__joined "_joined" (defScope st__joined) f cdv A outer s H E) _ _ rfl
  exact (ss_one (sp_ret (se_blt cs_srtP (by rfl) T.n_sorted (sa_cons (se_lc rfl nd (si_zip (by rfl) T.n_zip (sa_cons (se_var 0) (sa_cons (se_var 1) sa_nil))) (blkOk_by (own := [("foot", 2), ("other", 3)]) (N := N__joined) (sc := defScope st__joined) (by decide +kernel)) (nt_tup (nts_cons (nt_name 2) (nts_cons (nt_name 3) nts_nil))) (fun _ _ _ _ _ => (pg_tl rfl (pgs_cons (pg_name (i := 2) nd rfl (by first | exact Or.inl rfl | exact Or.inr rfl)) (pgs_cons (pg_name (i := 3) nd rfl (by first | exact Or.inl rfl | exact Or.inr rfl)) pgs_nil)))) (fun _ _ _ _ _ => sts_nil) (fun _ _ _ _ _ => (se_tup (sa_cons (se_blt (cs_min rfl) (by rfl) T.n_min (sa_cons (se_var 2) (sa_cons (se_var 3) sa_nil))) (sa_cons (se_blt (cs_max rfl) (by rfl) T.n_max (sa_cons (se_var 2) (sa_cons (se_var 3) sa_nil))) sa_nil))))) sa_nil))))
set_option maxHeartbeats 8000000 in
theorem d__row_with (T : Glob K mg)  {f : Addr} {kV doc pm cdv ct oc : Value} {an od : Option Addr} {osl : Array (Option Value)}
    (lk : K.lookup f = some ⟨oc, od, .func (PySem.W.fnOf "_row_with" "_row_with" (defArgs st__row_with) (defBody st__row_with) (defScope st__row_with) .none kV doc pm an cdv ct), osl⟩) (hcd : PySem.W.codeIn K cdv "_row_with" = true) :
    DefOk P w ⟨K, mg⟩ base 1 f (PySem.W.fnOf "_row_with" "_row_with" (defArgs st__row_with) (defBody st__row_with) (defScope st__row_with) .none kV doc pm an cdv ct) ["arches"] R__row_with := by
  refine defOk_of (N := N__row_with) lk hcd sc__row_with fun A outer s H E hr hg => ?_
  have hu := hr.units
  have hu5 := units5 hr
  have nd : (N__row_with).Nodup := sc__row_with.nd
  have tk := @takes_of (bodyX P w K mg base N__row_with "_row_with" (defScope st__row_with) f cdv A outer s H E) E rfl rfl rfl _ rfl
  have hpass : PassesOwn _ _ _ _ := @passes_of (bodyX P w K mg base N__row_with "_row_with" (defScope st__row_with) f cdv A outer s H E) _ _ rfl
  exact (ss_cons (sp_set 1 nd (se_bin ks_mul (se_lst (sa_cons (se_str [41]) sa_nil)) (se_bin ks_mul se_int (se_blt cs_len (by rfl) T.n_len (sa_cons (se_var 0) sa_nil)))))
  (ss_cons (sp_for hpass rfl (si_any (se_var 0)) (sg_tup rfl (sgs_cons (sg_name 2 nd) (sgs_cons (sg_name 3 nd) sgs_nil)))
  (ss_one (sp_asg (se_str [40]) (sg_sub (se_var 1) (se_var 2)))))
  (ss_one (sp_ret (se_mth PySem.F.plainAttrs_str PySem.F.slot_str_join PySem.F.type_str_join ms_join (se_str []) (sa_cons (se_var 1) sa_nil))))))
set_option maxHeartbeats 8000000 in
theorem d__law_flask (T : Glob K mg)  {f : Addr} {kV doc pm cdv ct oc : Value} {an od : Option Addr} {osl : Array (Option Value)}
    (lk : K.lookup f = some ⟨oc, od, .func (PySem.W.fnOf "_law_flask" "_law_flask" (defArgs st__law_flask) (defBody st__law_flask) (defScope st__law_flask) .none kV doc pm an cdv ct), osl⟩) (hcd : PySem.W.codeIn K cdv "_law_flask" = true) :
    DefOk P w ⟨K, mg⟩ base 1 f (PySem.W.fnOf "_law_flask" "_law_flask" (defArgs st__law_flask) (defBody st__law_flask) (defScope st__law_flask) .none kV doc pm an cdv ct) ["script", "k"] R__law_flask := by
  refine defOk_of (N := N__law_flask) lk hcd sc__law_flask fun A outer s H E hr hg => ?_
  have hu := hr.units
  have hu5 := units5 hr
  have nd : (N__law_flask).Nodup := sc__law_flask.nd
  have tk := @takes_of (bodyX P w K mg base N__law_flask "_law_flask" (defScope st__law_flask) f cdv A outer s H E) E rfl rfl rfl _ rfl
  have hpass : PassesOwn _ _ _ _ := @passes_of (bodyX P w K mg base N__law_flask "_law_flask" (defScope st__law_flask) f cdv A outer s H E) _ _ rfl
  exact (ss_cons (sp_set 2 nd (se_ite (st_com ks_lt (se_var 1) (se_blt cs_len (by rfl) T.n_len (sa_cons (se_var 0) sa_nil))) (se_bty cs_int (by rfl) T.n_int (sa_cons (se_ix (se_var 0) (se_var 1)) sa_nil)) (se_bin ks_add (se_bin ks_mul se_int (se_var 1)) se_int)))
  (ss_cons (sp_set 3 nd (se_bin ks_add se_int (se_bin ks_mul se_int (se_var 1))))
  (ss_cons (sp_for hpass rfl (si_any (se_sl (se_var 0) so_none (so_some se_int))) (sg_name 4 nd)
  (ss_one (sp_set 3 nd (se_bin ks_mod (se_bty cs_int (by rfl) T.n_int (sa_cons (se_bin ks_add (se_bin ks_mul (se_var 3) se_int) (se_bty cs_int (by rfl) T.n_int (sa_cons (se_var 4) sa_nil))) sa_nil)) se_int))))
  (ss_one (sp_ret (se_lst (sa_cons (se_bin ks_mod (se_bty cs_int (by rfl) T.n_int (sa_cons (se_bin ks_add (se_var 3) (se_bin ks_mul (se_var 2) se_int)) sa_nil)) se_int) (sa_cons se_int (sa_cons (se_ite (PW.pt (sw_or (st_com ks_lt (se_var 2) se_int) (sw_or1 (st_com ks_ge (se_var 2) (se_bin ks_pow se_int se_int))))) (se_blt cs_abs (by rfl) T.n_abs (sa_cons (se_var 2) sa_nil)) se_int) sa_nil)))))))))
set_option maxHeartbeats 8000000 in
theorem d__law_pour (T : Glob K mg)  {f : Addr} {kV doc pm cdv ct oc : Value} {an od : Option Addr} {osl : Array (Option Value)}
    (lk : K.lookup f = some ⟨oc, od, .func (PySem.W.fnOf "_law_pour" "_law_pour" (defArgs st__law_pour) (defBody st__law_pour) (defScope st__law_pour) .none kV doc pm an cdv ct), osl⟩) (hcd : PySem.W.codeIn K cdv "_law_pour" = true) :
    DefOk P w ⟨K, mg⟩ base 1 f (PySem.W.fnOf "_law_pour" "_law_pour" (defArgs st__law_pour) (defBody st__law_pour) (defScope st__law_pour) .none kV doc pm an cdv ct) ["flask", "top"] R__law_pour := by
  refine defOk_of (N := N__law_pour) lk hcd sc__law_pour fun A outer s H E hr hg => ?_
  have hu := hr.units
  have hu5 := units5 hr
  have nd : (N__law_pour).Nodup := sc__law_pour.nd
  have tk := @takes_of (bodyX P w K mg base N__law_pour "_law_pour" (defScope st__law_pour) f cdv A outer s H E) E rfl rfl rfl _ rfl
  have hpass : PassesOwn _ _ _ _ := @passes_of (bodyX P w K mg base N__law_pour "_law_pour" (defScope st__law_pour) f cdv A outer s H E) _ _ rfl
  exact (ss_cons (sp_asg (se_bin ks_add (se_ix (se_var 0) se_int) se_int) (sg_sub (se_var 0) se_int))
  (ss_cons (sp_if (st_com ks_gt (se_ix (se_var 0) se_int) se_int)
  (ss_cons (sp_asg (se_blt cs_dvm (by rfl) T.n_divmod (sa_cons (se_bty cs_int (by rfl) T.n_int (sa_cons (se_ix (se_var 0) se_int) sa_nil)) (sa_cons (se_var 1) sa_nil))) (sg_tup rfl (sgs_cons (sg_sub (se_var 0) se_int) (sgs_cons (sg_name 2 nd) sgs_nil))))
  (ss_one (sp_ret (se_var 2))))
  ss_nil)
  (ss_cons (sp_set 3 nd (se_bty cs_int (by rfl) T.n_int (sa_cons (se_ix (se_var 0) se_int) sa_nil)))
  (ss_cons (sp_set 4 nd (se_bin ks_add (se_bin ks_mod (se_bty cs_int (by rfl) T.n_int (sa_cons (se_var 3) sa_nil)) se_int) se_int))
  (ss_cons (sp_asg (se_bin ks_mod (se_bty cs_int (by rfl) T.n_int (sa_cons (se_bin ks_add (se_bin ks_add (se_bin ks_mul (se_var 3) (se_var 4)) (se_bin ks_mul se_int (se_ix (se_var 0) se_int))) se_int) sa_nil)) se_int) (sg_sub (se_var 0) se_int))
  (ss_one (sp_ret (se_bin ks_mod (se_bty cs_int (by rfl) T.n_int (sa_cons (se_bin ks_fdv (se_ix (se_var 0) se_int) se_int) sa_nil)) (se_var 1)))))))))
set_option maxHeartbeats 8000000 in
theorem d__law_mates (T : Glob K mg)  {f : Addr} {kV doc pm cdv ct oc : Value} {an od : Option Addr} {osl : Array (Option Value)}
    (lk : K.lookup f = some ⟨oc, od, .func (PySem.W.fnOf "_law_mates" "_law_mates" (defArgs st__law_mates) (defBody st__law_mates) (defScope st__law_mates) .none kV doc pm an cdv ct), osl⟩) (hcd : PySem.W.codeIn K cdv "_law_mates" = true) :
    DefOk P w ⟨K, mg⟩ base 1 f (PySem.W.fnOf "_law_mates" "_law_mates" (defArgs st__law_mates) (defBody st__law_mates) (defScope st__law_mates) .none kV doc pm an cdv ct) ["line"] R__law_mates := by
  refine defOk_of (N := N__law_mates) lk hcd sc__law_mates fun A outer s H E hr hg => ?_
  have hu := hr.units
  have hu5 := units5 hr
  have nd : (N__law_mates).Nodup := sc__law_mates.nd
  have tk := @takes_of (bodyX P w K mg base N__law_mates "_law_mates" (defScope st__law_mates) f cdv A outer s H E) E rfl rfl rfl _ rfl
  have hpass : PassesOwn _ _ _ _ := @passes_of (bodyX P w K mg base N__law_mates "_law_mates" (defScope st__law_mates) f cdv A outer s H E) _ _ rfl
  exact (ss_cons (sp_par (i := 1) (j := 2) rfl nd (sa_cons (se_bin ks_mul (se_lst (sa_cons se_int sa_nil)) (se_blt cs_len (by rfl) T.n_len (sa_cons (se_var 0) sa_nil))) (sa_cons (se_lst sa_nil) sa_nil)))
  (ss_cons (sp_for hpass rfl (si_rg1 (by rfl) T.n_range (sa_cons (se_blt cs_len (by rfl) T.n_len (sa_cons (se_var 0) sa_nil)) sa_nil)) (sg_name 3 nd)
  (ss_one (sp_if (st_com (ks_eq hu) (se_ix (se_var 0) (se_var 3)) (se_str [40]))
  (ss_one (sp_expr (se_mth PySem.F.plainAttrs_list PySem.F.slot_list_append PySem.F.type_list_append ms_app (se_var 2) (sa_cons (se_var 3) sa_nil))))
  (ss_cons (sp_asg (se_mth0 PySem.F.plainAttrs_list PySem.F.slot_list_pop PySem.F.type_list_pop ms_pop (se_var 2)) (sg_sub (se_var 1) (se_var 3)))
  (ss_one (sp_asg (se_var 3) (sg_sub (se_var 1) (se_ix (se_var 1) (se_var 3)))))))))
  (ss_one (sp_ret (se_var 1)))))
set_option maxHeartbeats 8000000 in
theorem d__law_crosses (T : Glob K mg)  {f : Addr} {kV doc pm cdv ct oc : Value} {an od : Option Addr} {osl : Array (Option Value)}
    (lk : K.lookup f = some ⟨oc, od, .func (PySem.W.fnOf "_law_crosses" "_law_crosses" (defArgs st__law_crosses) (defBody st__law_crosses) (defScope st__law_crosses) .none kV doc pm an cdv ct), osl⟩) (hcd : PySem.W.codeIn K cdv "_law_crosses" = true) :
    DefOk P w ⟨K, mg⟩ base 1 f (PySem.W.fnOf "_law_crosses" "_law_crosses" (defArgs st__law_crosses) (defBody st__law_crosses) (defScope st__law_crosses) .none kV doc pm an cdv ct) ["one", "other"] R__law_crosses := by
  refine defOk_of (N := N__law_crosses) lk hcd sc__law_crosses fun A outer s H E hr hg => ?_
  have hu := hr.units
  have hu5 := units5 hr
  have nd : (N__law_crosses).Nodup := sc__law_crosses.nd
  have tk := @takes_of (bodyX P w K mg base N__law_crosses "_law_crosses" (defScope st__law_crosses) f cdv A outer s H E) E rfl rfl rfl _ rfl
  have hpass : PassesOwn _ _ _ _ := @passes_of (bodyX P w K mg base N__law_crosses "_law_crosses" (defScope st__law_crosses) f cdv A outer s H E) _ _ rfl
  exact (ss_one (sp_ret (se_or (se_ch3 ks_lt ks_lt ks_lt (se_ix (se_var 0) se_int) (se_ix (se_var 1) se_int) (se_ix (se_var 0) se_int) (se_ix (se_var 1) se_int)) (se_one (se_ch3 ks_lt ks_lt ks_lt (se_ix (se_var 1) se_int) (se_ix (se_var 0) se_int) (se_ix (se_var 1) se_int) (se_ix (se_var 0) se_int))))))
set_option maxHeartbeats 8000000 in
theorem d__law_sides (T : Glob K mg)  {f : Addr} {kV doc pm cdv ct oc : Value} {an od : Option Addr} {osl : Array (Option Value)}
    (lk : K.lookup f = some ⟨oc, od, .func (PySem.W.fnOf "_law_sides" "_law_sides" (defArgs st__law_sides) (defBody st__law_sides) (defScope st__law_sides) .none kV doc pm an cdv ct), osl⟩) (hcd : PySem.W.codeIn K cdv "_law_sides" = true) :
    DefOk P w ⟨K, mg⟩ base 1 f (PySem.W.fnOf "_law_sides" "_law_sides" (defArgs st__law_sides) (defBody st__law_sides) (defScope st__law_sides) .none kV doc pm an cdv ct) ["line"] R__law_sides := by
  refine defOk_of (N := N__law_sides) lk hcd sc__law_sides fun A outer s H E hr hg => ?_
  have hu := hr.units
  have hu5 := units5 hr
  have nd : (N__law_sides).Nodup := sc__law_sides.nd
  have tk := @takes_of (bodyX P w K mg base N__law_sides "_law_sides" (defScope st__law_sides) f cdv A outer s H E) E rfl rfl rfl _ rfl
  have hpass : PassesOwn _ _ _ _ := @passes_of (bodyX P w K mg base N__law_sides "_law_sides" (defScope st__law_sides) f cdv A outer s H E) _ _ rfl
  exact (ss_cons (sp_set 1 nd (se_blt cs_len (by rfl) T.n_len (sa_cons (se_var 0) sa_nil)))
  (ss_cons (sp_set 2 nd (se_lc rfl nd (si_rg1 (by rfl) T.n_range (sa_cons (se_var 1) sa_nil)) (blkOk_by (own := [("k", 3)]) (N := N__law_sides) (sc := defScope st__law_sides) (by decide +kernel)) (nt_name 3) (fun _ _ _ _ _ => (pg_name (i := 3) nd rfl (by first | exact Or.inl rfl | exact Or.inr rfl))) (fun _ _ _ _ _ => sts_nil) (fun _ _ _ _ _ => (se_tup (sa_cons (se_ix (se_var 0) (se_var 3)) (sa_cons (se_ix (se_var 0) (se_bin ks_mod (se_bin ks_add (se_var 3) se_int) (se_var 1))) sa_nil))))))
  (ss_cons (sp_set 2 nd (se_lc rfl nd (si_any (se_var 2)) (blkOk_by (own := [("a", 4), ("b", 5)]) (N := N__law_sides) (sc := defScope st__law_sides) (by decide +kernel)) (nt_tup (nts_cons (nt_name 4) (nts_cons (nt_name 5) nts_nil))) (fun _ _ _ _ _ => (pg_tl rfl (pgs_cons (pg_name (i := 4) nd rfl (by first | exact Or.inl rfl | exact Or.inr rfl)) (pgs_cons (pg_name (i := 5) nd rfl (by first | exact Or.inl rfl | exact Or.inr rfl)) pgs_nil)))) (fun _ _ _ _ _ => sts_nil) (fun _ _ _ _ _ => (se_tup (sa_cons (se_blt (cs_min rfl) (by rfl) T.n_min (sa_cons (se_var 4) (sa_cons (se_var 5) sa_nil))) (sa_cons (se_blt (cs_max rfl) (by rfl) T.n_max (sa_cons (se_var 4) (sa_cons (se_var 5) sa_nil))) sa_nil))))))
  (ss_one (sp_ret (se_tup (sa_cons (se_lc rfl nd (si_rg3 (by rfl) T.n_range (sa_cons se_int (sa_cons (se_var 1) (sa_cons se_int sa_nil)))) (blkOk_by (own := [("k", 3)]) (N := N__law_sides) (sc := defScope st__law_sides) (by decide +kernel)) (nt_name 3) (fun _ _ _ _ _ => (pg_name (i := 3) nd rfl (by first | exact Or.inl rfl | exact Or.inr rfl))) (fun _ _ _ _ _ => sts_nil) (fun _ _ _ _ _ => (se_ix (se_var 2) (se_var 3)))) (sa_cons (se_lc rfl nd (si_rg3 (by rfl) T.n_range (sa_cons se_int (sa_cons (se_var 1) (sa_cons se_int sa_nil)))) (blkOk_by (own := [("k", 3)]) (N := N__law_sides) (sc := defScope st__law_sides) (by decide +kernel)) (nt_name 3) (fun _ _ _ _ _ => (pg_name (i := 3) nd rfl (by first | exact Or.inl rfl | exact Or.inr rfl))) (fun _ _ _ _ _ => sts_nil) (fun _ _ _ _ _ => (se_ix (se_var 2) (se_var 3)))) sa_nil))))))))
set_option maxHeartbeats 8000000 in
theorem d__law_text (T : Glob K mg)  {f : Addr} {kV doc pm cdv ct oc : Value} {an od : Option Addr} {osl : Array (Option Value)}
    (lk : K.lookup f = some ⟨oc, od, .func (PySem.W.fnOf "_law_text" "_law_text" (defArgs st__law_text) (defBody st__law_text) (defScope st__law_text) .none kV doc pm an cdv ct), osl⟩) (hcd : PySem.W.codeIn K cdv "_law_text" = true) :
    DefOk P w ⟨K, mg⟩ base 1 f (PySem.W.fnOf "_law_text" "_law_text" (defArgs st__law_text) (defBody st__law_text) (defScope st__law_text) .none kV doc pm an cdv ct) ["pairs"] R__law_text := by
  refine defOk_of (N := N__law_text) lk hcd sc__law_text fun A outer s H E hr hg => ?_
  have hu := hr.units
  have hu5 := units5 hr
  have nd : (N__law_text).Nodup := sc__law_text.nd
  have tk := @takes_of (bodyX P w K mg base N__law_text "_law_text" (defScope st__law_text) f cdv A outer s H E) E rfl rfl rfl _ rfl
  have hpass : PassesOwn _ _ _ _ := @passes_of (bodyX P w K mg base N__law_text "_law_text" (defScope st__law_text) f cdv A outer s H E) _ _ rfl
  exact (ss_cons (sp_set 1 nd (se_lc rfl nd (si_any (se_var 0)) (blkOk_by (own := [("pair", 2)]) (N := N__law_text) (sc := defScope st__law_text) (by decide +kernel)) (nt_name 2) (fun _ _ _ _ _ => (pg_name (i := 2) nd rfl (by first | exact Or.inl rfl | exact Or.inr rfl))) (fun _ _ _ _ _ => sts_nil) (fun _ _ _ _ _ => (se_ix (se_var 2) se_int))))
  (ss_one (sp_ret (se_mth PySem.F.plainAttrs_str PySem.F.slot_str_join PySem.F.type_str_join ms_join (se_str []) (sa_cons (se_lc rfl nd (si_rg1 (by rfl) T.n_range (sa_cons (se_bin ks_mul se_int (se_blt cs_len (by rfl) T.n_len (sa_cons (se_var 0) sa_nil))) sa_nil)) (blkOk_by (own := [("k", 3)]) (N := N__law_text) (sc := defScope st__law_text) (by decide +kernel)) (nt_name 3) (fun _ _ _ _ _ => (pg_name (i := 3) nd rfl (by first | exact Or.inl rfl | exact Or.inr rfl))) (fun _ _ _ _ _ => sts_nil) (fun _ _ _ _ _ => (se_ite (st_com (ks_in hu hu5) (se_var 3) (se_var 1)) (se_str [40]) (se_str [41])))) sa_nil)))))
set_option maxHeartbeats 8000000 in
theorem d_first_crossing (T : Glob K mg) (GG_is_crossing : Gfn P w ⟨K, mg⟩ base 1 "is_crossing" st_is_crossing ["arch", "other_arch"] G_is_crossing) {f : Addr} {kV doc pm cdv ct oc : Value} {an od : Option Addr} {osl : Array (Option Value)}
    (lk : K.lookup f = some ⟨oc, od, .func (PySem.W.fnOf "first_crossing" "first_crossing" (defArgs st_first_crossing) (defBody st_first_crossing) (defScope st_first_crossing) .none kV doc pm an cdv ct), osl⟩) (hcd : PySem.W.codeIn K cdv "first_crossing" = true) :
    DefOk P w ⟨K, mg⟩ base 2 f (PySem.W.fnOf "first_crossing" "first_crossing" (defArgs st_first_crossing) (defBody st_first_crossing) (defScope st_first_crossing) .none kV doc pm an cdv ct) ["arches"] R_first_crossing := by
  refine defOk_of (N := N_first_crossing) lk hcd sc_first_crossing fun A outer s H E hr hg => ?_
  have hu := hr.units
  have hu5 := units5 hr
  have nd : (N_first_crossing).Nodup := sc_first_crossing.nd
  have tk := @takes_of (bodyX P w K mg base N_first_crossing "first_crossing" (defScope st_first_crossing) f cdv A outer s H E) E rfl rfl rfl _ rfl
  have hpass : PassesOwn _ _ _ _ := @passes_of (bodyX P w K mg base N_first_crossing "first_crossing" (defScope st_first_crossing) f cdv A outer s H E) _ _ rfl
  exact (ss_cons (sp_for hpass rfl (si_enumT (by rfl) T.n_enumerate (sa_cons (se_var 0) sa_nil)) (sg_tup rfl (sgs_cons (sg_name 1 nd) (sgs_cons (sg_name 2 nd) sgs_nil)))
  (ss_one (sp_for hpass rfl (si_any (se_sl (se_var 0) (so_some (se_bin ks_add (se_var 1) se_int)) so_none)) (sg_name 3 nd)
  (ss_one (sp_if (st_tru (se_call 2 GG_is_crossing hr (by decide) hg tk (by rfl) kb_is_crossing_2 (sa_cons (se_var 2) (sa_cons (se_var 3) sa_nil))))
  (ss_one (sp_ret (se_tup (sa_cons (se_var 2) (sa_cons (se_var 3) sa_nil)))))
  ss_nil)))))
  (ss_one (sp_ret se_non)))
set_option maxHeartbeats 8000000 in
theorem d_is_row (T : Glob K mg) (GG_is_text : Gfn P w ⟨K, mg⟩ base 1 "is_text" st_is_text ["value", "signs", "least", "most"] G_is_text) {f : Addr} {kV doc pm cdv ct oc : Value} {an od : Option Addr} {osl : Array (Option Value)}
    (lk : K.lookup f = some ⟨oc, od, .func (PySem.W.fnOf "is_row" "is_row" (defArgs st_is_row) (defBody st_is_row) (defScope st_is_row) .none kV doc pm an cdv ct), osl⟩) (hcd : PySem.W.codeIn K cdv "is_row" = true) :
    DefOk P w ⟨K, mg⟩ base 2 f (PySem.W.fnOf "is_row" "is_row" (defArgs st_is_row) (defBody st_is_row) (defScope st_is_row) .none kV doc pm an cdv ct) ["value"] R_is_row := by
  refine defOk_of (N := N_is_row) lk hcd sc_is_row fun A outer s H E hr hg => ?_
  have hu := hr.units
  have hu5 := units5 hr
  have nd : (N_is_row).Nodup := sc_is_row.nd
  have tk := @takes_of (bodyX P w K mg base N_is_row "is_row" (defScope st_is_row) f cdv A outer s H E) E rfl rfl rfl _ rfl
  have hpass : PassesOwn _ _ _ _ := @passes_of (bodyX P w K mg base N_is_row "is_row" (defScope st_is_row) f cdv A outer s H E) _ _ rfl
  exact (ss_cons (sp_if (st_not (st_tru (se_call 4 GG_is_text hr (by decide) hg tk (by rfl) kb_is_text_4 (sa_cons (se_var 0) (sa_cons (se_str [40, 41]) (sa_cons se_int (sa_cons (se_bin ks_mul se_int (se_gintE (by rfl) T.c_MOST_ARCHES)) sa_nil)))))))
  (ss_one (sp_ret se_bl))
  ss_nil)
  (ss_cons (sp_set 1 nd se_int)
  (ss_cons (sp_for hpass rfl (si_any (se_var 0)) (sg_name 2 nd)
  (ss_cons (sp_aug (i := 1) nd (se_ite (st_com (ks_eq hu) (se_var 2) (se_str [40])) se_int (se_una ks_neg se_int)) ks_iadd)
  (ss_one (sp_if (st_com ks_lt (se_var 1) se_int)
  (ss_one (sp_ret se_bl))
  ss_nil))))
  (ss_one (sp_ret (se_com (ks_eq hu) (se_var 1) se_int))))))
set_option maxHeartbeats 8000000 in
theorem d__wrong_in_order (T : Glob K mg) (GG_is_within : Gfn P w ⟨K, mg⟩ base 1 "is_within" st_is_within ["value", "least", "most"] G_is_within) {f : Addr} {kV doc pm cdv ct oc : Value} {an od : Option Addr} {osl : Array (Option Value)}
    (lk : K.lookup f = some ⟨oc, od, .func (PySem.W.fnOf "_wrong_in_order" "_wrong_in_order" (defArgs st__wrong_in_order) (defBody st__wrong_in_order) (defScope st__wrong_in_order) .none kV doc pm an cdv ct), osl⟩) (hcd : PySem.W.codeIn K cdv "_wrong_in_order" = true) :
    DefOk P w ⟨K, mg⟩ base 2 f (PySem.W.fnOf "_wrong_in_order" "_wrong_in_order" (defArgs st__wrong_in_order) (defBody st__wrong_in_order) (defScope st__wrong_in_order) .none kV doc pm an cdv ct) ["values"] R__wrong_in_order := by
  refine defOk_of (N := N__wrong_in_order) lk hcd sc__wrong_in_order fun A outer s H E hr hg => ?_
  have hu := hr.units
  have hu5 := units5 hr
  have nd : (N__wrong_in_order).Nodup := sc__wrong_in_order.nd
  have tk := @takes_of (bodyX P w K mg base N__wrong_in_order "_wrong_in_order" (defScope st__wrong_in_order) f cdv A outer s H E) E rfl rfl rfl _ rfl
  have hpass : PassesOwn _ _ _ _ := @passes_of (bodyX P w K mg base N__wrong_in_order "_wrong_in_order" (defScope st__wrong_in_order) f cdv A outer s H E) _ _ rfl
  exact (ss_cons (sp_for hpass rfl (si_enumX (by rfl) T.n_enumerate (sa_cons (se_var 0) sa_nil)) (sg_tup rfl (sgs_cons (sg_name 1 nd) (sgs_cons (sg_name 2 nd) sgs_nil)))
  (ss_one (sp_if (PW.pt (sw_or (st_not (st_tru (se_call 3 GG_is_within hr (by decide) hg tk (by rfl) kb_is_within_3 (sa_cons (se_var 2) (sa_cons se_int (sa_cons (se_bin ks_sub (se_blt cs_len (by rfl) T.n_len (sa_cons (se_var 0) sa_nil)) se_int) sa_nil)))))) (sw_or1 (st_com (ks_in hu hu5) (se_var 2) (se_sl (se_var 0) so_none (so_some (se_var 1)))))))
  (ss_one (sp_ret (se_var 1)))
  ss_nil)))
  (ss_one (sp_ret se_non)))
set_option maxHeartbeats 8000000 in
theorem d_arches_along (T : Glob K mg) (GG__joined : Gfn P w ⟨K, mg⟩ base 1 "_joined" st__joined ["feet", "other_feet"] G__joined) {f : Addr} {kV doc pm cdv ct oc : Value} {an od : Option Addr} {osl : Array (Option Value)}
    (lk : K.lookup f = some ⟨oc, od, .func (PySem.W.fnOf "arches_along" "arches_along" (defArgs st_arches_along) (defBody st_arches_along) (defScope st_arches_along) .none kV doc pm an cdv ct), osl⟩) (hcd : PySem.W.codeIn K cdv "arches_along" = true) :
    DefOk P w ⟨K, mg⟩ base 2 f (PySem.W.fnOf "arches_along" "arches_along" (defArgs st_arches_along) (defBody st_arches_along) (defScope st_arches_along) .none kV doc pm an cdv ct) ["candidate"] R_arches_along := by
  refine defOk_of (N := N_arches_along) lk hcd sc_arches_along fun A outer s H E hr hg => ?_
  have hu := hr.units
  have hu5 := units5 hr
  have nd : (N_arches_along).Nodup := sc_arches_along.nd
  have tk := @takes_of (bodyX P w K mg base N_arches_along "arches_along" (defScope st_arches_along) f cdv A outer s H E) E rfl rfl rfl _ rfl
  have hpass : PassesOwn _ _ _ _ := @passes_of (bodyX P w K mg base N_arches_along "arches_along" (defScope st_arches_along) f cdv A outer s H E) _ _ rfl
  exact (ss_one (sp_ret (se_tup (sa_cons (se_call 2 GG__joined hr (by decide) hg tk (by rfl) kb__joined_2 (sa_cons (se_by2 (se_var 0) se_int) (sa_cons (se_by2 (se_var 0) se_int) sa_nil))) (sa_cons (se_call 2 GG__joined hr (by decide) hg tk (by rfl) kb__joined_2 (sa_cons (se_by2 (se_var 0) se_int) (sa_cons (se_bin ks_addW (se_by2 (se_var 0) se_int) (se_slW (se_var 0) so_none (so_some se_int))) sa_nil))) sa_nil)))))
set_option maxHeartbeats 8000000 in
theorem d__is_one_round (T : Glob K mg) (GG_walk_from : Gfn P w ⟨K, mg⟩ base 1 "walk_from" st_walk_from ["upper_mates", "lower_mates", "foot"] G_walk_from) {f : Addr} {kV doc pm cdv ct oc : Value} {an od : Option Addr} {osl : Array (Option Value)}
    (lk : K.lookup f = some ⟨oc, od, .func (PySem.W.fnOf "_is_one_round" "_is_one_round" (defArgs st__is_one_round) (defBody st__is_one_round) (defScope st__is_one_round) .none kV doc pm an cdv ct), osl⟩) (hcd : PySem.W.codeIn K cdv "_is_one_round" = true) :
    DefOk P w ⟨K, mg⟩ base 2 f (PySem.W.fnOf "_is_one_round" "_is_one_round" (defArgs st__is_one_round) (defBody st__is_one_round) (defScope st__is_one_round) .none kV doc pm an cdv ct) ["upper_mates", "lower_mates"] R__is_one_round := by
  refine defOk_of (N := N__is_one_round) lk hcd sc__is_one_round fun A outer s H E hr hg => ?_
  have hu := hr.units
  have hu5 := units5 hr
  have nd : (N__is_one_round).Nodup := sc__is_one_round.nd
  have tk := @takes_of (bodyX P w K mg base N__is_one_round "_is_one_round" (defScope st__is_one_round) f cdv A outer s H E) E rfl rfl rfl _ rfl
  have hpass : PassesOwn _ _ _ _ := @passes_of (bodyX P w K mg base N__is_one_round "_is_one_round" (defScope st__is_one_round) f cdv A outer s H E) _ _ rfl
  exact (ss_cons (sp_if (st_not (st_tru (se_var 0)))
  (ss_one (sp_ret se_bl))
  ss_nil)
  (ss_one (sp_ret (se_com (ks_eq hu) (se_blt cs_len (by rfl) T.n_len (sa_cons (se_call 3 GG_walk_from hr (by decide) hg tk (by rfl) kb_walk_from_3 (sa_cons (se_var 0) (sa_cons (se_var 1) (sa_cons se_int sa_nil)))) sa_nil)) (se_blt cs_len (by rfl) T.n_len (sa_cons (se_var 0) sa_nil))))))
set_option maxHeartbeats 8000000 in
theorem d__law_pick (T : Glob K mg) (GG__law_pour : Gfn P w ⟨K, mg⟩ base 1 "_law_pour" st__law_pour ["flask", "top"] G__law_pour) {f : Addr} {kV doc pm cdv ct oc : Value} {an od : Option Addr} {osl : Array (Option Value)}
    (lk : K.lookup f = some ⟨oc, od, .func (PySem.W.fnOf "_law_pick" "_law_pick" (defArgs st__law_pick) (defBody st__law_pick) (defScope st__law_pick) .none kV doc pm an cdv ct), osl⟩) (hcd : PySem.W.codeIn K cdv "_law_pick" = true) :
    DefOk P w ⟨K, mg⟩ base 2 f (PySem.W.fnOf "_law_pick" "_law_pick" (defArgs st__law_pick) (defBody st__law_pick) (defScope st__law_pick) .none kV doc pm an cdv ct) ["flask", "some"] R__law_pick := by
  refine defOk_of (N := N__law_pick) lk hcd sc__law_pick fun A outer s H E hr hg => ?_
  have hu := hr.units
  have hu5 := units5 hr
  have nd : (N__law_pick).Nodup := sc__law_pick.nd
  have tk := @takes_of (bodyX P w K mg base N__law_pick "_law_pick" (defScope st__law_pick) f cdv A outer s H E) E rfl rfl rfl _ rfl
  have hpass : PassesOwn _ _ _ _ := @passes_of (bodyX P w K mg base N__law_pick "_law_pick" (defScope st__law_pick) f cdv A outer s H E) _ _ rfl
  exact (ss_one (sp_ret (se_ix (se_var 1) (se_call 2 GG__law_pour hr (by decide) hg tk (by rfl) kb__law_pour_2 (sa_cons (se_var 0) (sa_cons (se_blt cs_len (by rfl) T.n_len (sa_cons (se_var 1) sa_nil)) sa_nil))))))
set_option maxHeartbeats 8000000 in
theorem d__law_row (T : Glob K mg) (GG__law_pour : Gfn P w ⟨K, mg⟩ base 1 "_law_pour" st__law_pour ["flask", "top"] G__law_pour) {f : Addr} {kV doc pm cdv ct oc : Value} {an od : Option Addr} {osl : Array (Option Value)}
    (lk : K.lookup f = some ⟨oc, od, .func (PySem.W.fnOf "_law_row" "_law_row" (defArgs st__law_row) (defBody st__law_row) (defScope st__law_row) .none kV doc pm an cdv ct), osl⟩) (hcd : PySem.W.codeIn K cdv "_law_row" = true) :
    DefOk P w ⟨K, mg⟩ base 2 f (PySem.W.fnOf "_law_row" "_law_row" (defArgs st__law_row) (defBody st__law_row) (defScope st__law_row) .none kV doc pm an cdv ct) ["flask", "many"] R__law_row := by
  refine defOk_of (N := N__law_row) lk hcd sc__law_row fun A outer s H E hr hg => ?_
  have hu := hr.units
  have hu5 := units5 hr
  have nd : (N__law_row).Nodup := sc__law_row.nd
  have tk := @takes_of (bodyX P w K mg base N__law_row "_law_row" (defScope st__law_row) f cdv A outer s H E) E rfl rfl rfl _ rfl
  have hpass : PassesOwn _ _ _ _ := @passes_of (bodyX P w K mg base N__law_row "_law_row" (defScope st__law_row) f cdv A outer s H E) _ _ rfl
  exact (ss_cons (sp_par3 (i := 2) (j := 3) (l := 4) rfl nd (sa_cons (se_str []) (sa_cons se_int (sa_cons (se_var 1) sa_nil))))
  (ss_cons (sp_for hpass rfl (si_rg1 (by rfl) T.n_range (sa_cons (se_bin ks_mul se_int (se_var 1)) sa_nil)) (sg_name 5 nd)
  (ss_one (sp_if (PW.pt (sw_and (st_com ks_gt (se_var 4) se_int) (sw_and1 (PW.pt (sw_or (st_com (ks_eq hu) (se_var 3) se_int) (sw_or1 (st_com (ks_eq hu) (se_call 2 GG__law_pour hr (by decide) hg tk (by rfl) kb__law_pour_2 (sa_cons (se_var 0) (sa_cons se_int sa_nil))) se_int)))))))
  (ss_one (sp_par3 (i := 2) (j := 3) (l := 4) rfl nd (sa_cons (se_bin ks_add (se_var 2) (se_str [40])) (sa_cons (se_bin ks_add (se_var 3) se_int) (sa_cons (se_bin ks_sub (se_var 4) se_int) sa_nil)))))
  (ss_one (sp_par (i := 2) (j := 3) rfl nd (sa_cons (se_bin ks_add (se_var 2) (se_str [41])) (sa_cons (se_bin ks_sub (se_var 3) se_int) sa_nil)))))))
  (ss_one (sp_ret (se_var 2)))))
set_option maxHeartbeats 8000000 in
theorem d__law_path (T : Glob K mg) (GG__law_mates : Gfn P w ⟨K, mg⟩ base 1 "_law_mates" st__law_mates ["line"] G__law_mates) {f : Addr} {kV doc pm cdv ct oc : Value} {an od : Option Addr} {osl : Array (Option Value)}
    (lk : K.lookup f = some ⟨oc, od, .func (PySem.W.fnOf "_law_path" "_law_path" (defArgs st__law_path) (defBody st__law_path) (defScope st__law_path) .none kV doc pm an cdv ct), osl⟩) (hcd : PySem.W.codeIn K cdv "_law_path" = true) :
    DefOk P w ⟨K, mg⟩ base 2 f (PySem.W.fnOf "_law_path" "_law_path" (defArgs st__law_path) (defBody st__law_path) (defScope st__law_path) .none kV doc pm an cdv ct) ["high", "low"] R__law_path := by
  refine defOk_of (N := N__law_path) lk hcd sc__law_path fun A outer s H E hr hg => ?_
  have hu := hr.units
  have hu5 := units5 hr
  have nd : (N__law_path).Nodup := sc__law_path.nd
  have tk := @takes_of (bodyX P w K mg base N__law_path "_law_path" (defScope st__law_path) f cdv A outer s H E) E rfl rfl rfl _ rfl
  have hpass : PassesOwn _ _ _ _ := @passes_of (bodyX P w K mg base N__law_path "_law_path" (defScope st__law_path) f cdv A outer s H E) _ _ rfl
  exact (ss_cons (sp_par (i := 2) (j := 3) rfl nd (sa_cons (se_call 1 GG__law_mates hr (by decide) hg tk (by rfl) kb__law_mates_1 (sa_cons (se_var 0) sa_nil)) (sa_cons (se_call 1 GG__law_mates hr (by decide) hg tk (by rfl) kb__law_mates_1 (sa_cons (se_var 1) sa_nil)) sa_nil)))
  (ss_cons (sp_par (i := 4) (j := 5) rfl nd (sa_cons (se_lst sa_nil) (sa_cons se_int sa_nil)))
  (ss_cons (sp_for hpass rfl (si_rg1 (by rfl) T.n_range (sa_cons (se_bin ks_fdv (se_blt cs_len (by rfl) T.n_len (sa_cons (se_var 0) sa_nil)) se_int) sa_nil)) (sg_name 6 nd)
  (ss_cons (sp_set 4 nd (se_bin ks_add (se_var 4) (se_lst (sa_cons (se_var 5) (sa_cons (se_ix (se_var 2) (se_var 5)) sa_nil)))))
  (ss_cons (sp_set 5 nd (se_ix (se_var 3) (se_ix (se_var 2) (se_var 5))))
  (ss_one (sp_if (st_com (ks_eq hu) (se_var 5) se_int)
  (ss_one sp_break)
  ss_nil)))))
  (ss_one (sp_ret (se_bty cs_tpl (by rfl) T.n_tuple (sa_cons (se_var 4) sa_nil)))))))
set_option maxHeartbeats 8000000 in
theorem d__law_drawn (T : Glob K mg) (GG__law_pour : Gfn P w ⟨K, mg⟩ base 1 "_law_pour" st__law_pour ["flask", "top"] G__law_pour) {f : Addr} {kV doc pm cdv ct oc : Value} {an od : Option Addr} {osl : Array (Option Value)}
    (lk : K.lookup f = some ⟨oc, od, .func (PySem.W.fnOf "_law_drawn" "_law_drawn" (defArgs st__law_drawn) (defBody st__law_drawn) (defScope st__law_drawn) .none kV doc pm an cdv ct), osl⟩) (hcd : PySem.W.codeIn K cdv "_law_drawn" = true) :
    DefOk P w ⟨K, mg⟩ base 2 f (PySem.W.fnOf "_law_drawn" "_law_drawn" (defArgs st__law_drawn) (defBody st__law_drawn) (defScope st__law_drawn) .none kV doc pm an cdv ct) ["flask", "many"] R__law_drawn := by
  refine defOk_of (N := N__law_drawn) lk hcd sc__law_drawn fun A outer s H E hr hg => ?_
  have hu := hr.units
  have hu5 := units5 hr
  have nd : (N__law_drawn).Nodup := sc__law_drawn.nd
  have tk := @takes_of (bodyX P w K mg base N__law_drawn "_law_drawn" (defScope st__law_drawn) f cdv A outer s H E) E rfl rfl rfl _ rfl
  have hpass : PassesOwn _ _ _ _ := @passes_of (bodyX P w K mg base N__law_drawn "_law_drawn" (defScope st__law_drawn) f cdv A outer s H E) _ _ rfl
  exact (ss_cons (sp_par (i := 2) (j := 3) rfl nd (sa_cons (se_lstRg2 rfl (by rfl) T.n_list (by rfl) T.n_range se_int (se_bin ks_mul se_int (se_var 1))) (sa_cons (se_lst (sa_cons se_int sa_nil)) sa_nil)))
  (ss_cons (sp_for hpass rfl (si_rg1 (by rfl) T.n_range (sa_cons (se_bin ks_sub (se_bin ks_mul se_int (se_var 1)) se_int) sa_nil)) (sg_name 4 nd)
  (ss_one (sp_expr (se_mth PySem.F.plainAttrs_list PySem.F.slot_list_append PySem.F.type_list_append ms_app (se_var 3) (sa_cons (se_mth PySem.F.plainAttrs_list PySem.F.slot_list_pop PySem.F.type_list_pop ms_popA (se_var 2) (sa_cons (se_call 2 GG__law_pour hr (by decide) hg tk (by rfl) kb__law_pour_2 (sa_cons (se_var 0) (sa_cons (se_blt cs_len (by rfl) T.n_len (sa_cons (se_var 2) sa_nil)) sa_nil))) sa_nil)) sa_nil)))))
  (ss_one (sp_ret (se_bty cs_tpl (by rfl) T.n_tuple (sa_cons (se_var 3) sa_nil))))))
set_option maxHeartbeats 8000000 in
theorem d__law_meets (T : Glob K mg) (GG__law_crosses : Gfn P w ⟨K, mg⟩ base 1 "_law_crosses" st__law_crosses ["one", "other"] G__law_crosses) {f : Addr} {kV doc pm cdv ct oc : Value} {an od : Option Addr} {osl : Array (Option Value)}
    (lk : K.lookup f = some ⟨oc, od, .func (PySem.W.fnOf "_law_meets" "_law_meets" (defArgs st__law_meets) (defBody st__law_meets) (defScope st__law_meets) .none kV doc pm an cdv ct), osl⟩) (hcd : PySem.W.codeIn K cdv "_law_meets" = true) :
    DefOk P w ⟨K, mg⟩ base 2 f (PySem.W.fnOf "_law_meets" "_law_meets" (defArgs st__law_meets) (defBody st__law_meets) (defScope st__law_meets) .none kV doc pm an cdv ct) ["told", "high", "low"] R__law_meets := by
  refine defOk_of (N := N__law_meets) lk hcd sc__law_meets fun A outer s H E hr hg => ?_
  have hu := hr.units
  have hu5 := units5 hr
  have nd : (N__law_meets).Nodup := sc__law_meets.nd
  have tk := @takes_of (bodyX P w K mg base N__law_meets "_law_meets" (defScope st__law_meets) f cdv A outer s H E) E rfl rfl rfl _ rfl
  have hpass : PassesOwn _ _ _ _ := @passes_of (bodyX P w K mg base N__law_meets "_law_meets" (defScope st__law_meets) f cdv A outer s H E) _ _ rfl
  exact (ss_cons (sp_if (PW.pt (sw_or (st_not (st_tru (se_blt cs_isI (by rfl) T.n_isinstance (sa_cons (se_var 0) (sa_cons (se_ty (by rfl) T.n_tuple) sa_nil))))) (sw_or (st_com (ks_ne hu) (se_blt cs_len (by rfl) T.n_len (sa_cons (se_var 0) sa_nil)) se_int) (sw_or1 (st_not (st_tru (se_call 2 GG__law_crosses hr (by decide) hg tk (by rfl) kb__law_crosses_2 (sa_cons (se_ix (se_var 0) se_int) (sa_cons (se_ix (se_var 0) se_int) sa_nil)))))))))
  (ss_one (sp_ret se_bl))
  ss_nil)
  (ss_one (sp_ret (se_or (se_and (se_com (ks_in hu hu5) (se_ix (se_var 0) se_int) (se_var 1)) (se_one (se_com (ks_in hu hu5) (se_ix (se_var 0) se_int) (se_var 1)))) (se_one (se_and (se_com (ks_in hu hu5) (se_ix (se_var 0) se_int) (se_var 2)) (se_one (se_com (ks_in hu hu5) (se_ix (se_var 0) se_int) (se_var 2)))))))))
set_option maxHeartbeats 8000000 in
theorem d_need_row (T : Glob K mg) (GG_is_row : Gfn P w ⟨K, mg⟩ base 2 "is_row" st_is_row ["value"] G_is_row) {f : Addr} {kV doc pm cdv ct oc : Value} {an od : Option Addr} {osl : Array (Option Value)}
    (lk : K.lookup f = some ⟨oc, od, .func (PySem.W.fnOf "need_row" "need_row" (defArgs st_need_row) (defBody st_need_row) (defScope st_need_row) .none kV doc pm an cdv ct), osl⟩) (hcd : PySem.W.codeIn K cdv "need_row" = true) :
    DefOk P w ⟨K, mg⟩ base 3 f (PySem.W.fnOf "need_row" "need_row" (defArgs st_need_row) (defBody st_need_row) (defScope st_need_row) .none kV doc pm an cdv ct) ["value"] R_need_row := by
  refine defOk_of (N := N_need_row) lk hcd sc_need_row fun A outer s H E hr hg => ?_
  have hu := hr.units
  have hu5 := units5 hr
  have nd : (N_need_row).Nodup := sc_need_row.nd
  have tk := @takes_of (bodyX P w K mg base N_need_row "need_row" (defScope st_need_row) f cdv A outer s H E) E rfl rfl rfl _ rfl
  have hpass : PassesOwn _ _ _ _ := @passes_of (bodyX P w K mg base N_need_row "need_row" (defScope st_need_row) f cdv A outer s H E) _ _ rfl
  exact (ss_one (sp_if (st_not (st_tru (se_call 1 GG_is_row hr (by decide) hg tk (by rfl) kb_is_row_1 (sa_cons (se_var 0) sa_nil))))
  (ss_one sp_never)
  ss_nil))
set_option maxHeartbeats 8000000 in
theorem d_need_candidate (T : Glob K mg) (GG__is_tuple : Gfn P w ⟨K, mg⟩ base 1 "_is_tuple" st__is_tuple ["value", "least", "most"] G__is_tuple) (GG__wrong_in_order : Gfn P w ⟨K, mg⟩ base 2 "_wrong_in_order" st__wrong_in_order ["values"] G__wrong_in_order) (GG_is_within : Gfn P w ⟨K, mg⟩ base 1 "is_within" st_is_within ["value", "least", "most"] G_is_within) {f : Addr} {kV doc pm cdv ct oc : Value} {an od : Option Addr} {osl : Array (Option Value)}
    (lk : K.lookup f = some ⟨oc, od, .func (PySem.W.fnOf "need_candidate" "need_candidate" (defArgs st_need_candidate) (defBody st_need_candidate) (defScope st_need_candidate) .none kV doc pm an cdv ct), osl⟩) (hcd : PySem.W.codeIn K cdv "need_candidate" = true) :
    DefOk P w ⟨K, mg⟩ base 3 f (PySem.W.fnOf "need_candidate" "need_candidate" (defArgs st_need_candidate) (defBody st_need_candidate) (defScope st_need_candidate) .none kV doc pm an cdv ct) ["value"] R_need_candidate := by
  refine defOk_of (N := N_need_candidate) lk hcd sc_need_candidate fun A outer s H E hr hg => ?_
  have hu := hr.units
  have hu5 := units5 hr
  have nd : (N_need_candidate).Nodup := sc_need_candidate.nd
  have tk := @takes_of (bodyX P w K mg base N_need_candidate "need_candidate" (defScope st_need_candidate) f cdv A outer s H E) E rfl rfl rfl _ rfl
  have hpass : PassesOwn _ _ _ _ := @passes_of (bodyX P w K mg base N_need_candidate "need_candidate" (defScope st_need_candidate) f cdv A outer s H E) _ _ rfl
  exact (ss_cons (sp_if (PW.pt (sw_or (st_not (st_tru (se_call 3 GG__is_tuple hr (by decide) hg tk (by rfl) kb__is_tuple_3 (sa_cons (se_var 0) (sa_cons se_int (sa_cons (se_bin ks_mul se_int (se_gintE (by rfl) T.c_MOST_ARCHES)) sa_nil)))))) (sw_or1 (st_com (ks_eq hu) (se_bin ks_mod (se_blt cs_len (by rfl) T.n_len (sa_cons (se_var 0) sa_nil)) se_int) se_int))))
  (ss_one sp_never)
  ss_nil)
  (ss_cons (sp_if (st_not (st_tru (se_call 3 GG_is_within hr (by decide) hg tk (by rfl) kb_is_within_3 (sa_cons (se_ix (se_var 0) se_int) (sa_cons se_int (sa_cons se_int sa_nil))))))
  (ss_one sp_never)
  ss_nil)
  (ss_cons (sp_set 1 nd (se_call 1 GG__wrong_in_order hr (by decide) hg tk (by rfl) kb__wrong_in_order_1 (sa_cons (se_var 0) sa_nil)))
  (ss_one (sp_if (st_com ks_isn (se_var 1) se_non)
  (ss_one sp_never)
  ss_nil)))))
set_option maxHeartbeats 8000000 in
theorem d__law_candidate (T : Glob K mg) (GG__law_drawn : Gfn P w ⟨K, mg⟩ base 2 "_law_drawn" st__law_drawn ["flask", "many"] G__law_drawn) (GG__law_path : Gfn P w ⟨K, mg⟩ base 2 "_law_path" st__law_path ["high", "low"] G__law_path) (GG__law_pick : Gfn P w ⟨K, mg⟩ base 2 "_law_pick" st__law_pick ["flask", "some"] G__law_pick) (GG__law_pour : Gfn P w ⟨K, mg⟩ base 1 "_law_pour" st__law_pour ["flask", "top"] G__law_pour) (GG__law_row : Gfn P w ⟨K, mg⟩ base 2 "_law_row" st__law_row ["flask", "many"] G__law_row) {f : Addr} {kV doc pm cdv ct oc : Value} {an od : Option Addr} {osl : Array (Option Value)}
    (lk : K.lookup f = some ⟨oc, od, .func (PySem.W.fnOf "_law_candidate" "_law_candidate" (defArgs st__law_candidate) (defBody st__law_candidate) (defScope st__law_candidate) .none kV doc pm an cdv ct), osl⟩) (hcd : PySem.W.codeIn K cdv "_law_candidate" = true) :
    DefOk P w ⟨K, mg⟩ base 3 f (PySem.W.fnOf "_law_candidate" "_law_candidate" (defArgs st__law_candidate) (defBody st__law_candidate) (defScope st__law_candidate) .none kV doc pm an cdv ct) ["flask"] R__law_candidate := by
  refine defOk_of (N := N__law_candidate) lk hcd sc__law_candidate fun A outer s H E hr hg => ?_
  have hu := hr.units
  have hu5 := units5 hr
  have nd : (N__law_candidate).Nodup := sc__law_candidate.nd
  have tk := @takes_of (bodyX P w K mg base N__law_candidate "_law_candidate" (defScope st__law_candidate) f cdv A outer s H E) E rfl rfl rfl _ rfl
  have hpass : PassesOwn _ _ _ _ := @passes_of (bodyX P w K mg base N__law_candidate "_law_candidate" (defScope st__law_candidate) f cdv A outer s H E) _ _ rfl
  exact (ss_cons (sp_set 1 nd (se_bin ks_addW se_int (se_call 2 GG__law_pour hr (by decide) hg tk (by rfl) kb__law_pour_2 (sa_cons (se_var 0) (sa_cons se_int sa_nil)))))
  (ss_cons (sp_set 2 nd (se_call 2 GG__law_drawn hr (by decide) hg tk (by rfl) kb__law_drawn_2 (sa_cons (se_var 0) (sa_cons (se_call 2 GG__law_pick hr (by decide) hg tk (by rfl) kb__law_pick_2 (sa_cons (se_var 0) (sa_cons (se_lst (sa_cons se_int (sa_cons se_int (sa_cons se_int (sa_cons (se_var 1) sa_nil))))) sa_nil))) sa_nil))))
  (ss_cons (sp_for hpass rfl (si_rg1 (by rfl) T.n_range (sa_cons se_int sa_nil)) (sg_name 3 nd)
  (ss_cons (sp_set 4 nd (se_call 2 GG__law_path hr (by decide) hg tk (by rfl) kb__law_path_2 (sa_cons (se_call 2 GG__law_row hr (by decide) hg tk (by rfl) kb__law_row_2 (sa_cons (se_var 0) (sa_cons (se_var 1) sa_nil))) (sa_cons (se_call 2 GG__law_row hr (by decide) hg tk (by rfl) kb__law_row_2 (sa_cons (se_var 0) (sa_cons (se_var 1) sa_nil))) sa_nil))))
  (ss_one (sp_if (st_com (ks_eq hu) (se_blt cs_len (by rfl) T.n_len (sa_cons (se_var 4) sa_nil)) (se_bin ks_mul se_int (se_var 1)))
  (ss_cons (sp_set 2 nd (se_var 4))
  (ss_one sp_break))
  ss_nil))))
  (ss_cons (sp_asg (se_tup (sa_cons (se_call 2 GG__law_pour hr (by decide) hg tk (by rfl) kb__law_pour_2 (sa_cons (se_var 0) (sa_cons (se_blt cs_len (by rfl) T.n_len (sa_cons (se_var 2) sa_nil)) sa_nil))) (sa_cons (se_call 2 GG__law_pour hr (by decide) hg tk (by rfl) kb__law_pour_2 (sa_cons (se_var 0) (sa_cons (se_blt cs_len (by rfl) T.n_len (sa_cons (se_var 2) sa_nil)) sa_nil))) sa_nil))) (sg_tup rfl (sgs_cons (sg_name 5 nd) (sgs_cons (sg_name 6 nd) sgs_nil))))
  (ss_cons (sp_asg (se_tup (sa_cons (se_blt (cs_minW rfl) (by rfl) T.n_min (sa_cons (se_var 5) (sa_cons (se_var 6) sa_nil))) (sa_cons (se_blt (cs_max rfl) (by rfl) T.n_max (sa_cons (se_var 5) (sa_cons (se_var 6) sa_nil))) sa_nil))) (sg_tup rfl (sgs_cons (sg_name 5 nd) (sgs_cons (sg_name 6 nd) sgs_nil))))
  (ss_cons (sp_if (PW.pt (sw_or (st_com (ks_eq hu) (se_var 5) se_int) (sw_or1 (st_com ks_gt (se_call 2 GG__law_pour hr (by decide) hg tk (by rfl) kb__law_pour_2 (sa_cons (se_var 0) (sa_cons se_int sa_nil))) se_int))))
  (ss_one (sp_ret (se_var 2)))
  ss_nil)
  (ss_cons (sp_if (st_com (ks_eq hu) (se_call 2 GG__law_pour hr (by decide) hg tk (by rfl) kb__law_pour_2 (sa_cons (se_var 0) (sa_cons se_int sa_nil))) se_int)
  (ss_one (sp_ret (se_bin ks_addW (se_bin ks_addW (se_slW (se_var 2) so_none (so_some (se_var 5))) (se_revA (se_slW (se_var 2) (so_some (se_var 5)) (so_some (se_bin ks_addW (se_var 6) se_int))))) (se_slW (se_var 2) (so_some (se_bin ks_addW (se_var 6) se_int)) so_none))))
  ss_nil)
  (ss_one (sp_ret (se_bty cs_tpl (by rfl) T.n_tuple (sa_cons (se_lc rfl nd (si_rg1 (by rfl) T.n_range (sa_cons (se_blt cs_len (by rfl) T.n_len (sa_cons (se_var 2) sa_nil)) sa_nil)) (blkOk_by (own := [("i", 7)]) (N := N__law_candidate) (sc := defScope st__law_candidate) (by decide +kernel)) (nt_name 7) (fun _ _ _ _ _ => (pg_name (i := 7) nd rfl (by first | exact Or.inl rfl | exact Or.inr rfl))) (fun _ _ _ _ _ => sts_nil) (fun _ _ _ _ _ => (se_ite (st_com (ks_eq hu) (se_var 7) (se_var 5)) (se_ix (se_var 2) (se_var 6)) (se_ite (st_com (ks_eq hu) (se_var 7) (se_var 6)) (se_ix (se_var 2) (se_var 5)) (se_ix (se_var 2) (se_var 7)))))) sa_nil)))))))))))
set_option maxHeartbeats 8000000 in
theorem d_need_rows (T : Glob K mg) (GG_need_row : Gfn P w ⟨K, mg⟩ base 3 "need_row" st_need_row ["value"] G_need_row) {f : Addr} {kV doc pm cdv ct oc : Value} {an od : Option Addr} {osl : Array (Option Value)}
    (lk : K.lookup f = some ⟨oc, od, .func (PySem.W.fnOf "need_rows" "need_rows" (defArgs st_need_rows) (defBody st_need_rows) (defScope st_need_rows) .none kV doc pm an cdv ct), osl⟩) (hcd : PySem.W.codeIn K cdv "need_rows" = true) :
    DefOk P w ⟨K, mg⟩ base 4 f (PySem.W.fnOf "need_rows" "need_rows" (defArgs st_need_rows) (defBody st_need_rows) (defScope st_need_rows) .none kV doc pm an cdv ct) ["value", "other_value"] R_need_rows := by
  refine defOk_of (N := N_need_rows) lk hcd sc_need_rows fun A outer s H E hr hg => ?_
  have hu := hr.units
  have hu5 := units5 hr
  have nd : (N_need_rows).Nodup := sc_need_rows.nd
  have tk := @takes_of (bodyX P w K mg base N_need_rows "need_rows" (defScope st_need_rows) f cdv A outer s H E) E rfl rfl rfl _ rfl
  have hpass : PassesOwn _ _ _ _ := @passes_of (bodyX P w K mg base N_need_rows "need_rows" (defScope st_need_rows) f cdv A outer s H E) _ _ rfl
  exact (ss_cons (sp_expr (se_call 1 GG_need_row hr (by decide) hg tk (by rfl) kb_need_row_1 (sa_cons (se_var 0) sa_nil)))
  (ss_cons (sp_expr (se_call 1 GG_need_row hr (by decide) hg tk (by rfl) kb_need_row_1 (sa_cons (se_var 1) sa_nil)))
  (ss_one (sp_if (st_com (ks_ne hu) (se_blt cs_len (by rfl) T.n_len (sa_cons (se_var 0) sa_nil)) (se_blt cs_len (by rfl) T.n_len (sa_cons (se_var 1) sa_nil)))
  (ss_one sp_never)
  ss_nil))))
set_option maxHeartbeats 8000000 in
theorem d_meeting (T : Glob K mg) (GG_arches_along : Gfn P w ⟨K, mg⟩ base 2 "arches_along" st_arches_along ["candidate"] G_arches_along) (GG_first_crossing : Gfn P w ⟨K, mg⟩ base 2 "first_crossing" st_first_crossing ["arches"] G_first_crossing) (GG_need_candidate : Gfn P w ⟨K, mg⟩ base 3 "need_candidate" st_need_candidate ["value"] G_need_candidate) {f : Addr} {kV doc pm cdv ct oc : Value} {an od : Option Addr} {osl : Array (Option Value)}
    (lk : K.lookup f = some ⟨oc, od, .func (PySem.W.fnOf "meeting" "meeting" (defArgs st_meeting) (defBody st_meeting) (defScope st_meeting) .none kV doc pm an cdv ct), osl⟩) (hcd : PySem.W.codeIn K cdv "meeting" = true) :
    DefOk P w ⟨K, mg⟩ base 4 f (PySem.W.fnOf "meeting" "meeting" (defArgs st_meeting) (defBody st_meeting) (defScope st_meeting) .none kV doc pm an cdv ct) ["candidate"] R_meeting := by
  refine defOk_of (N := N_meeting) lk hcd sc_meeting fun A outer s H E hr hg => ?_
  have hu := hr.units
  have hu5 := units5 hr
  have nd : (N_meeting).Nodup := sc_meeting.nd
  have tk := @takes_of (bodyX P w K mg base N_meeting "meeting" (defScope st_meeting) f cdv A outer s H E) E rfl rfl rfl _ rfl
  have hpass : PassesOwn _ _ _ _ := @passes_of (bodyX P w K mg base N_meeting "meeting" (defScope st_meeting) f cdv A outer s H E) _ _ rfl
  exact (ss_cons (sp_expr (se_call 1 GG_need_candidate hr (by decide) hg tk (by rfl) kb_need_candidate_1 (sa_cons (se_var 0) sa_nil)))
  (ss_cons (sp_asg (se_call 1 GG_arches_along hr (by decide) hg tk (by rfl) kb_arches_along_1 (sa_cons (se_var 0) sa_nil)) (sg_tup rfl (sgs_cons (sg_name 1 nd) (sgs_cons (sg_name 2 nd) sgs_nil))))
  (ss_cons (sp_set 3 nd (se_call 1 GG_first_crossing hr (by decide) hg tk (by rfl) kb_first_crossing_1 (sa_cons (se_var 1) sa_nil)))
  (ss_one (sp_ret (se_ite (st_com ks_is (se_var 3) se_non) (se_call 1 GG_first_crossing hr (by decide) hg tk (by rfl) kb_first_crossing_1 (sa_cons (se_var 2) sa_nil)) (se_var 3)))))))
set_option maxHeartbeats 8000000 in
theorem d_is_river (T : Glob K mg) (GG__is_one_round : Gfn P w ⟨K, mg⟩ base 2 "_is_one_round" st__is_one_round ["upper_mates", "lower_mates"] G__is_one_round) (GG_mates_of : Gfn P w ⟨K, mg⟩ base 1 "mates_of" st_mates_of ["row"] G_mates_of) (GG_need_rows : Gfn P w ⟨K, mg⟩ base 4 "need_rows" st_need_rows ["value", "other_value"] G_need_rows) {f : Addr} {kV doc pm cdv ct oc : Value} {an od : Option Addr} {osl : Array (Option Value)}
    (lk : K.lookup f = some ⟨oc, od, .func (PySem.W.fnOf "is_river" "is_river" (defArgs st_is_river) (defBody st_is_river) (defScope st_is_river) .none kV doc pm an cdv ct), osl⟩) (hcd : PySem.W.codeIn K cdv "is_river" = true) :
    DefOk P w ⟨K, mg⟩ base 5 f (PySem.W.fnOf "is_river" "is_river" (defArgs st_is_river) (defBody st_is_river) (defScope st_is_river) .none kV doc pm an cdv ct) ["upper", "lower"] R_is_river := by
  refine defOk_of (N := N_is_river) lk hcd sc_is_river fun A outer s H E hr hg => ?_
  have hu := hr.units
  have hu5 := units5 hr
  have nd : (N_is_river).Nodup := sc_is_river.nd
  have tk := @takes_of (bodyX P w K mg base N_is_river "is_river" (defScope st_is_river) f cdv A outer s H E) E rfl rfl rfl _ rfl
  have hpass : PassesOwn _ _ _ _ := @passes_of (bodyX P w K mg base N_is_river "is_river" (defScope st_is_river) f cdv A outer s H E) _ _ rfl
  exact (ss_cons (sp_expr (se_call 2 GG_need_rows hr (by decide) hg tk (by rfl) kb_need_rows_2 (sa_cons (se_var 0) (sa_cons (se_var 1) sa_nil))))
  (ss_one (sp_ret (se_call 2 GG__is_one_round hr (by decide) hg tk (by rfl) kb__is_one_round_2 (sa_cons (se_call 1 GG_mates_of hr (by decide) hg tk (by rfl) kb_mates_of_1 (sa_cons (se_var 0) sa_nil)) (sa_cons (se_call 1 GG_mates_of hr (by decide) hg tk (by rfl) kb_mates_of_1 (sa_cons (se_var 1) sa_nil)) sa_nil))))))
set_option maxHeartbeats 8000000 in
theorem d_river_of (T : Glob K mg) (GG__row_with : Gfn P w ⟨K, mg⟩ base 1 "_row_with" st__row_with ["arches"] G__row_with) (GG_arches_along : Gfn P w ⟨K, mg⟩ base 2 "arches_along" st_arches_along ["candidate"] G_arches_along) (GG_meeting : Gfn P w ⟨K, mg⟩ base 4 "meeting" st_meeting ["candidate"] G_meeting) {f : Addr} {kV doc pm cdv ct oc : Value} {an od : Option Addr} {osl : Array (Option Value)}
    (lk : K.lookup f = some ⟨oc, od, .func (PySem.W.fnOf "river_of" "river_of" (defArgs st_river_of) (defBody st_river_of) (defScope st_river_of) .none kV doc pm an cdv ct), osl⟩) (hcd : PySem.W.codeIn K cdv "river_of" = true) :
    DefOk P w ⟨K, mg⟩ base 5 f (PySem.W.fnOf "river_of" "river_of" (defArgs st_river_of) (defBody st_river_of) (defScope st_river_of) .none kV doc pm an cdv ct) ["candidate"] R_river_of := by
  refine defOk_of (N := N_river_of) lk hcd sc_river_of fun A outer s H E hr hg => ?_
  have hu := hr.units
  have hu5 := units5 hr
  have nd : (N_river_of).Nodup := sc_river_of.nd
  have tk := @takes_of (bodyX P w K mg base N_river_of "river_of" (defScope st_river_of) f cdv A outer s H E) E rfl rfl rfl _ rfl
  have hpass : PassesOwn _ _ _ _ := @passes_of (bodyX P w K mg base N_river_of "river_of" (defScope st_river_of) f cdv A outer s H E) _ _ rfl
  exact (ss_cons (sp_if (st_com ks_isn (se_call 1 GG_meeting hr (by decide) hg tk (by rfl) kb_meeting_1 (sa_cons (se_var 0) sa_nil)) se_non)
  (ss_one (sp_ret se_non))
  ss_nil)
  (ss_cons (sp_asg (se_call 1 GG_arches_along hr (by decide) hg tk (by rfl) kb_arches_along_1 (sa_cons (se_var 0) sa_nil)) (sg_tup rfl (sgs_cons (sg_name 1 nd) (sgs_cons (sg_name 2 nd) sgs_nil))))
  (ss_one (sp_ret (se_tup (sa_cons (se_call 1 GG__row_with hr (by decide) hg tk (by rfl) kb__row_with_1 (sa_cons (se_var 1) sa_nil)) (sa_cons (se_call 1 GG__row_with hr (by decide) hg tk (by rfl) kb__row_with_1 (sa_cons (se_var 2) sa_nil)) sa_nil)))))))
set_option maxHeartbeats 8000000 in
theorem d_path (T : Glob K mg) (GG_is_river : Gfn P w ⟨K, mg⟩ base 5 "is_river" st_is_river ["upper", "lower"] G_is_river) (GG_mates_of : Gfn P w ⟨K, mg⟩ base 1 "mates_of" st_mates_of ["row"] G_mates_of) (GG_walk_from : Gfn P w ⟨K, mg⟩ base 1 "walk_from" st_walk_from ["upper_mates", "lower_mates", "foot"] G_walk_from) {f : Addr} {kV doc pm cdv ct oc : Value} {an od : Option Addr} {osl : Array (Option Value)}
    (lk : K.lookup f = some ⟨oc, od, .func (PySem.W.fnOf "path" "path" (defArgs st_path) (defBody st_path) (defScope st_path) .none kV doc pm an cdv ct), osl⟩) (hcd : PySem.W.codeIn K cdv "path" = true) :
    DefOk P w ⟨K, mg⟩ base 6 f (PySem.W.fnOf "path" "path" (defArgs st_path) (defBody st_path) (defScope st_path) .none kV doc pm an cdv ct) ["upper", "lower"] R_path := by
  refine defOk_of (N := N_path) lk hcd sc_path fun A outer s H E hr hg => ?_
  have hu := hr.units
  have hu5 := units5 hr
  have nd : (N_path).Nodup := sc_path.nd
  have tk := @takes_of (bodyX P w K mg base N_path "path" (defScope st_path) f cdv A outer s H E) E rfl rfl rfl _ rfl
  have hpass : PassesOwn _ _ _ _ := @passes_of (bodyX P w K mg base N_path "path" (defScope st_path) f cdv A outer s H E) _ _ rfl
  exact (ss_cons (sp_if (st_not (st_tru (se_call 2 GG_is_river hr (by decide) hg tk (by rfl) kb_is_river_2 (sa_cons (se_var 0) (sa_cons (se_var 1) sa_nil)))))
  (ss_one sp_never)
  ss_nil)
  (ss_one (sp_ret (se_bty cs_tpl (by rfl) T.n_tuple (sa_cons (se_call 3 GG_walk_from hr (by decide) hg tk (by rfl) kb_walk_from_3 (sa_cons (se_call 1 GG_mates_of hr (by decide) hg tk (by rfl) kb_mates_of_1 (sa_cons (se_var 0) sa_nil)) (sa_cons (se_call 1 GG_mates_of hr (by decide) hg tk (by rfl) kb_mates_of_1 (sa_cons (se_var 1) sa_nil)) (sa_cons se_int sa_nil)))) sa_nil)))))
set_option maxHeartbeats 8000000 in
theorem d__law_right (T : Glob K mg) (GG__law_candidate : Gfn P w ⟨K, mg⟩ base 3 "_law_candidate" st__law_candidate ["flask"] G__law_candidate) (GG__law_crosses : Gfn P w ⟨K, mg⟩ base 1 "_law_crosses" st__law_crosses ["one", "other"] G__law_crosses) (GG__law_meets : Gfn P w ⟨K, mg⟩ base 2 "_law_meets" st__law_meets ["told", "high", "low"] G__law_meets) (GG__law_sides : Gfn P w ⟨K, mg⟩ base 1 "_law_sides" st__law_sides ["line"] G__law_sides) (GG__law_text : Gfn P w ⟨K, mg⟩ base 1 "_law_text" st__law_text ["pairs"] G__law_text) (GG_is_river : Gfn P w ⟨K, mg⟩ base 5 "is_river" st_is_river ["upper", "lower"] G_is_river) (GG_meeting : Gfn P w ⟨K, mg⟩ base 4 "meeting" st_meeting ["candidate"] G_meeting) (GG_path : Gfn P w ⟨K, mg⟩ base 6 "path" st_path ["upper", "lower"] G_path) (GG_river_of : Gfn P w ⟨K, mg⟩ base 5 "river_of" st_river_of ["candidate"] G_river_of) {f : Addr} {kV doc pm cdv ct oc : Value} {an od : Option Addr} {osl : Array (Option Value)}
    (lk : K.lookup f = some ⟨oc, od, .func (PySem.W.fnOf "_law_right" "_law_right" (defArgs st__law_right) (defBody st__law_right) (defScope st__law_right) .none kV doc pm an cdv ct), osl⟩) (hcd : PySem.W.codeIn K cdv "_law_right" = true) :
    DefOk P w ⟨K, mg⟩ base 7 f (PySem.W.fnOf "_law_right" "_law_right" (defArgs st__law_right) (defBody st__law_right) (defScope st__law_right) .none kV doc pm an cdv ct) ["flask"] R__law_right := by
  refine defOk_of (N := N__law_right) lk hcd sc__law_right fun A outer s H E hr hg => ?_
  have hu := hr.units
  have hu5 := units5 hr
  have nd : (N__law_right).Nodup := sc__law_right.nd
  have tk := @takes_of (bodyX P w K mg base N__law_right "_law_right" (defScope st__law_right) f cdv A outer s H E) E rfl rfl rfl _ rfl
  have hpass : PassesOwn _ _ _ _ := @passes_of (bodyX P w K mg base N__law_right "_law_right" (defScope st__law_right) f cdv A outer s H E) _ _ rfl
  exact (ss_cons (sp_for hpass rfl (si_rg1 (by rfl) T.n_range (sa_cons se_int sa_nil)) (sg_name 1 nd)
  (ss_cons (sp_set 2 nd (se_call 1 GG__law_candidate hr (by decide) hg tk (by rfl) kb__law_candidate_1 (sa_cons (se_var 0) sa_nil)))
  (ss_cons (sp_asg (se_call 1 GG__law_sides hr (by decide) hg tk (by rfl) kb__law_sides_1 (sa_cons (se_var 2) sa_nil)) (sg_tup rfl (sgs_cons (sg_name 3 nd) (sgs_cons (sg_name 4 nd) sgs_nil))))
  (ss_cons (sp_setLc 5 rfl nd rfl rfl (sw_true rfl rfl rfl (by decide +kernel)) (si_any (se_var 3)) (blkOk_by (own := [("one", 8)]) (N := N__law_right) (sc := defScope st__law_right) (by decide +kernel)) (nt_name 8) (fun _ _ _ _ _ => (pg_name (i := 8) nd rfl (by first | exact Or.inl rfl | exact Or.inr rfl))) (fun _ _ _ _ _ => sts_one (st_com (ks_ne hu) (se_lc rfl nd (si_any (se_var 3)) (blkOk_by (own := [("each", 9)]) (by rfl)) (nt_name 9) (fun _ _ _ _ _ => (pg_name (i := 9) nd rfl (by first | exact Or.inl rfl | exact Or.inr rfl))) (fun _ _ _ _ _ => sts_one (st_tru (se_call 2 GG__law_crosses hr (by decide) hg takes0 (by rfl) kb__law_crosses_2 (sa_cons (se_var 8) (sa_cons (se_var 9) sa_nil))))) (fun _ _ _ _ _ => (se_var 9))) (se_lst sa_nil))) (fun _ _ _ _ _ => (se_var 8)))
  (ss_cons (sp_set 5 nd (se_bin ks_add (se_var 5) (se_lc rfl nd (si_any (se_var 4)) (blkOk_by (own := [("one", 8)]) (N := N__law_right) (sc := defScope st__law_right) (by decide +kernel)) (nt_name 8) (fun _ _ _ _ _ => (pg_name (i := 8) nd rfl (by first | exact Or.inl rfl | exact Or.inr rfl))) (fun _ _ _ _ _ => sts_one (st_com (ks_ne hu) (se_lc rfl nd (si_any (se_var 4)) (blkOk_by (own := [("each", 9)]) (by rfl)) (nt_name 9) (fun _ _ _ _ _ => (pg_name (i := 9) nd rfl (by first | exact Or.inl rfl | exact Or.inr rfl))) (fun _ _ _ _ _ => sts_one (st_tru (se_call 2 GG__law_crosses hr (by decide) hg takes0 (by rfl) kb__law_crosses_2 (sa_cons (se_var 8) (sa_cons (se_var 9) sa_nil))))) (fun _ _ _ _ _ => (se_var 9))) (se_lst sa_nil))) (fun _ _ _ _ _ => (se_var 8)))))
  (ss_cons (sp_set 6 nd (se_lst (sa_cons (se_call 1 GG_meeting hr (by decide) hg tk (by rfl) kb_meeting_1 (sa_cons (se_var 2) sa_nil)) (sa_cons (se_callK0 1 GG_meeting hr (by decide) hg tk (by rfl) kb_meeting_0_candidate (sk_cons (se_var 2) sk_nil)) sa_nil))))
  (ss_one (sp_if (st_com (ks_eq hu) (se_var 5) (se_lst sa_nil))
  (ss_cons (sp_set 7 nd (se_tup (sa_cons (se_call 1 GG__law_text hr (by decide) hg tk (by rfl) kb__law_text_1 (sa_cons (se_var 3) sa_nil)) (sa_cons (se_call 1 GG__law_text hr (by decide) hg tk (by rfl) kb__law_text_1 (sa_cons (se_var 4) sa_nil)) sa_nil))))
  (ss_cons (sp_if (PW.pt (sw_or (st_com (ks_ne hu) (se_call 1 GG_river_of hr (by decide) hg tk (by rfl) kb_river_of_1 (sa_cons (se_var 2) sa_nil)) (se_var 7)) (sw_or (st_com (ks_ne hu) (se_callK0 1 GG_river_of hr (by decide) hg tk (by rfl) kb_river_of_0_candidate (sk_cons (se_var 2) sk_nil)) (se_var 7)) (sw_or1 (st_com (ks_ne hu) (se_var 6) (se_lst (sa_cons se_non (sa_cons se_non sa_nil))))))))
  (ss_one (sp_ret se_bl))
  ss_nil)
  (ss_one (sp_if (PW.pt (sw_or (st_com (ks_ne hu) (se_call 2 GG_path hr (by decide) hg tk (by rfl) kb_path_2 (sa_cons (se_ix (se_var 7) se_int) (sa_cons (se_ix (se_var 7) se_int) sa_nil))) (se_var 2)) (sw_or1 (st_com ks_isn (se_call 2 GG_is_river hr (by decide) hg tk (by rfl) kb_is_river_2 (sa_cons (se_ix (se_var 7) se_int) (sa_cons (se_ix (se_var 7) se_int) sa_nil))) se_bl))))
  (ss_one (sp_ret se_bl))
  ss_nil))))
  (ss_one (sp_if (PW.pt (sw_or (st_com ks_isn (se_call 1 GG_river_of hr (by decide) hg tk (by rfl) kb_river_of_1 (sa_cons (se_var 2) sa_nil)) se_non) (sw_or1 (st_com (ks_ne hu) (se_lc rfl nd (si_any (se_var 6)) (blkOk_by (own := [("each", 9)]) (N := N__law_right) (sc := defScope st__law_right) (by decide +kernel)) (nt_name 9) (fun _ _ _ _ _ => (pg_name (i := 9) nd rfl (by first | exact Or.inl rfl | exact Or.inr rfl))) (fun _ _ _ _ _ => sts_one (st_not (st_tru (se_call 3 GG__law_meets hr (by decide) hg takes0 (by rfl) kb__law_meets_3 (sa_cons (se_var 9) (sa_cons (se_var 3) (sa_cons (se_var 4) sa_nil))))))) (fun _ _ _ _ _ => (se_var 9))) (se_lst sa_nil)))))
  (ss_one (sp_ret se_bl))
  ss_nil))))))))))
  (ss_one (sp_ret se_bl)))
set_option maxHeartbeats 8000000 in
theorem d_law (T : Glob K mg) (GG__law_flask : Gfn P w ⟨K, mg⟩ base 1 "_law_flask" st__law_flask ["script", "k"] G__law_flask) (GG__law_right : Gfn P w ⟨K, mg⟩ base 7 "_law_right" st__law_right ["flask"] G__law_right) {f : Addr} {kV doc pm cdv ct oc : Value} {an od : Option Addr} {osl : Array (Option Value)}
    (lk : K.lookup f = some ⟨oc, od, .func (PySem.W.fnOf "law" "law" (defArgs st_law) (defBody st_law) (defScope st_law) .none kV doc pm an cdv ct), osl⟩) (hcd : PySem.W.codeIn K cdv "law" = true) :
    DefOk P w ⟨K, mg⟩ base 8 f (PySem.W.fnOf "law" "law" (defArgs st_law) (defBody st_law) (defScope st_law) .none kV doc pm an cdv ct) ["script"] R_law := by
  refine defOk_of (N := N_law) lk hcd sc_law fun A outer s H E hr hg => ?_
  have hu := hr.units
  have hu5 := units5 hr
  have nd : (N_law).Nodup := sc_law.nd
  have tk := @takes_of (bodyX P w K mg base N_law "law" (defScope st_law) f cdv A outer s H E) E rfl rfl rfl _ rfl
  have hpass : PassesOwn _ _ _ _ := @passes_of (bodyX P w K mg base N_law "law" (defScope st_law) f cdv A outer s H E) _ _ rfl
  exact (ss_one (sp_ret (se_blt (cs_all rfl) (by rfl) T.n_all (sa_cons (se_lc rfl nd (si_rg1 (by rfl) T.n_range (sa_cons (se_blt (cs_max rfl) (by rfl) T.n_max (sa_cons se_int (sa_cons (se_blt (cs_min rfl) (by rfl) T.n_min (sa_cons (se_blt cs_len (by rfl) T.n_len (sa_cons (se_var 0) sa_nil)) (sa_cons se_int sa_nil))) sa_nil))) sa_nil)) (blkOk_by (own := [("k", 1)]) (N := N_law) (sc := defScope st_law) (by decide +kernel)) (nt_name 1) (fun _ _ _ _ _ => (pg_name (i := 1) nd rfl (by first | exact Or.inl rfl | exact Or.inr rfl))) (fun _ _ _ _ _ => sts_nil) (fun _ _ _ _ _ => (se_call 1 GG__law_right hr (by decide) hg takes0 (by rfl) kb__law_right_1 (sa_cons (se_call 2 GG__law_flask hr (by decide) hg takes0 (by rfl) kb__law_flask_2 (sa_cons (se_var 0) (sa_cons (se_var 1) sa_nil))) sa_nil)))) sa_nil))))
end
section
variable {P : Program} {w : World} {K : PySem.W.Frag} {h : Heap} {mg : Str → Option Value} {fa : Addr}
set_option maxHeartbeats 8000000 in
theorem all_mk (X : K.In h) (G : h.Ns mainGlobals mg) (hfa : mg "law" = some (.ref fa)) {f_0 f_1 f_2 f_3 f_4 f_5 f_6 f_7 f_8 f_9 f_10 f_11 f_12 f_13 f_14 f_15 f_16 f_17 f_18 f_19 f_20 f_21 f_22 f_23 f_24 f_25 f_26 f_27 f_28 f_29 f_30 f_31 f_32 f_33 : Addr} {od_0 od_1 od_2 od_3 od_4 od_5 od_6 od_7 od_8 od_9 od_10 od_11 od_12 od_13 od_14 od_15 od_16 od_17 od_18 od_19 od_20 od_21 od_22 od_23 od_24 od_25 od_26 od_27 od_28 od_29 od_30 od_31 od_32 od_33 an_0 an_1 an_2 an_3 an_4 an_5 an_6 an_7 an_8 an_9 an_10 an_11 an_12 an_13 an_14 an_15 an_16 an_17 an_18 an_19 an_20 an_21 an_22 an_23 an_24 an_25 an_26 an_27 an_28 an_29 an_30 an_31 an_32 an_33 : Option Addr} {sl_0 sl_1 sl_2 sl_3 sl_4 sl_5 sl_6 sl_7 sl_8 sl_9 sl_10 sl_11 sl_12 sl_13 sl_14 sl_15 sl_16 sl_17 sl_18 sl_19 sl_20 sl_21 sl_22 sl_23 sl_24 sl_25 sl_26 sl_27 sl_28 sl_29 sl_30 sl_31 sl_32 sl_33 : Array (Option Value)} {oc_0 oc_1 oc_2 oc_3 oc_4 oc_5 oc_6 oc_7 oc_8 oc_9 oc_10 oc_11 oc_12 oc_13 oc_14 oc_15 oc_16 oc_17 oc_18 oc_19 oc_20 oc_21 oc_22 oc_23 oc_24 oc_25 oc_26 oc_27 oc_28 oc_29 oc_30 oc_31 oc_32 oc_33 kV_0 kV_1 kV_2 kV_3 kV_4 kV_5 kV_6 kV_7 kV_8 kV_9 kV_10 kV_11 kV_12 kV_13 kV_14 kV_15 kV_16 kV_17 kV_18 kV_19 kV_20 kV_21 kV_22 kV_23 kV_24 kV_25 kV_26 kV_27 kV_28 kV_29 kV_30 kV_31 kV_32 kV_33 dc_0 dc_1 dc_2 dc_3 dc_4 dc_5 dc_6 dc_7 dc_8 dc_9 dc_10 dc_11 dc_12 dc_13 dc_14 dc_15 dc_16 dc_17 dc_18 dc_19 dc_20 dc_21 dc_22 dc_23 dc_24 dc_25 dc_26 dc_27 dc_28 dc_29 dc_30 dc_31 dc_32 dc_33 pm_0 pm_1 pm_2 pm_3 pm_4 pm_5 pm_6 pm_7 pm_8 pm_9 pm_10 pm_11 pm_12 pm_13 pm_14 pm_15 pm_16 pm_17 pm_18 pm_19 pm_20 pm_21 pm_22 pm_23 pm_24 pm_25 pm_26 pm_27 pm_28 pm_29 pm_30 pm_31 pm_32 pm_33 cd_0 cd_1 cd_2 cd_3 cd_4 cd_5 cd_6 cd_7 cd_8 cd_9 cd_10 cd_11 cd_12 cd_13 cd_14 cd_15 cd_16 cd_17 cd_18 cd_19 cd_20 cd_21 cd_22 cd_23 cd_24 cd_25 cd_26 cd_27 cd_28 cd_29 cd_30 cd_31 cd_32 cd_33 ct_0 ct_1 ct_2 ct_3 ct_4 ct_5 ct_6 ct_7 ct_8 ct_9 ct_10 ct_11 ct_12 ct_13 ct_14 ct_15 ct_16 ct_17 ct_18 ct_19 ct_20 ct_21 ct_22 ct_23 ct_24 ct_25 ct_26 ct_27 ct_28 ct_29 ct_30 ct_31 ct_32 ct_33 : Value} {t_MOST_ARCHES : Tok}
    (a_is_crossing : PySem.W.nsIn K mainGlobals "is_crossing" = some (some (.ref f_0))) (l_is_crossing : K.lookup f_0 = some ⟨oc_0, od_0, .func (PySem.W.fnOf "is_crossing" "is_crossing" (defArgs st_is_crossing) (defBody st_is_crossing) (defScope st_is_crossing) .none kV_0 dc_0 pm_0 an_0 cd_0 ct_0), sl_0⟩) (c_is_crossing : PySem.W.codeIn K cd_0 "is_crossing" = true) (k_is_crossing : PySem.W.keepIn K (.ref f_0) = true)
    (a_is_within : PySem.W.nsIn K mainGlobals "is_within" = some (some (.ref f_1))) (l_is_within : K.lookup f_1 = some ⟨oc_1, od_1, .func (PySem.W.fnOf "is_within" "is_within" (defArgs st_is_within) (defBody st_is_within) (defScope st_is_within) .none kV_1 dc_1 pm_1 an_1 cd_1 ct_1), sl_1⟩) (c_is_within : PySem.W.codeIn K cd_1 "is_within" = true) (k_is_within : PySem.W.keepIn K (.ref f_1) = true)
    (a_is_text : PySem.W.nsIn K mainGlobals "is_text" = some (some (.ref f_2))) (l_is_text : K.lookup f_2 = some ⟨oc_2, od_2, .func (PySem.W.fnOf "is_text" "is_text" (defArgs st_is_text) (defBody st_is_text) (defScope st_is_text) .none kV_2 dc_2 pm_2 an_2 cd_2 ct_2), sl_2⟩) (c_is_text : PySem.W.codeIn K cd_2 "is_text" = true) (k_is_text : PySem.W.keepIn K (.ref f_2) = true)
    (a__is_tuple : PySem.W.nsIn K mainGlobals "_is_tuple" = some (some (.ref f_3))) (l__is_tuple : K.lookup f_3 = some ⟨oc_3, od_3, .func (PySem.W.fnOf "_is_tuple" "_is_tuple" (defArgs st__is_tuple) (defBody st__is_tuple) (defScope st__is_tuple) .none kV_3 dc_3 pm_3 an_3 cd_3 ct_3), sl_3⟩) (c__is_tuple : PySem.W.codeIn K cd_3 "_is_tuple" = true) (k__is_tuple : PySem.W.keepIn K (.ref f_3) = true)
    (a_mates_of : PySem.W.nsIn K mainGlobals "mates_of" = some (some (.ref f_4))) (l_mates_of : K.lookup f_4 = some ⟨oc_4, od_4, .func (PySem.W.fnOf "mates_of" "mates_of" (defArgs st_mates_of) (defBody st_mates_of) (defScope st_mates_of) .none kV_4 dc_4 pm_4 an_4 cd_4 ct_4), sl_4⟩) (c_mates_of : PySem.W.codeIn K cd_4 "mates_of" = true) (k_mates_of : PySem.W.keepIn K (.ref f_4) = true)
    (a_walk_from : PySem.W.nsIn K mainGlobals "walk_from" = some (some (.ref f_5))) (l_walk_from : K.lookup f_5 = some ⟨oc_5, od_5, .func (PySem.W.fnOf "walk_from" "walk_from" (defArgs st_walk_from) (defBody st_walk_from) (defScope st_walk_from) .none kV_5 dc_5 pm_5 an_5 cd_5 ct_5), sl_5⟩) (c_walk_from : PySem.W.codeIn K cd_5 "walk_from" = true) (k_walk_from : PySem.W.keepIn K (.ref f_5) = true)
    (a__joined : PySem.W.nsIn K mainGlobals "_joined" = some (some (.ref f_6))) (l__joined : K.lookup f_6 = some ⟨oc_6, od_6, .func (PySem.W.fnOf "_joined" "_joined" (defArgs st__joined) (defBody st__joined) (defScope st__joined) .none kV_6 dc_6 pm_6 an_6 cd_6 ct_6), sl_6⟩) (c__joined : PySem.W.codeIn K cd_6 "_joined" = true) (k__joined : PySem.W.keepIn K (.ref f_6) = true)
    (a__row_with : PySem.W.nsIn K mainGlobals "_row_with" = some (some (.ref f_7))) (l__row_with : K.lookup f_7 = some ⟨oc_7, od_7, .func (PySem.W.fnOf "_row_with" "_row_with" (defArgs st__row_with) (defBody st__row_with) (defScope st__row_with) .none kV_7 dc_7 pm_7 an_7 cd_7 ct_7), sl_7⟩) (c__row_with : PySem.W.codeIn K cd_7 "_row_with" = true) (k__row_with : PySem.W.keepIn K (.ref f_7) = true)
    (a__law_flask : PySem.W.nsIn K mainGlobals "_law_flask" = some (some (.ref f_8))) (l__law_flask : K.lookup f_8 = some ⟨oc_8, od_8, .func (PySem.W.fnOf "_law_flask" "_law_flask" (defArgs st__law_flask) (defBody st__law_flask) (defScope st__law_flask) .none kV_8 dc_8 pm_8 an_8 cd_8 ct_8), sl_8⟩) (c__law_flask : PySem.W.codeIn K cd_8 "_law_flask" = true) (k__law_flask : PySem.W.keepIn K (.ref f_8) = true)
    (a__law_pour : PySem.W.nsIn K mainGlobals "_law_pour" = some (some (.ref f_9))) (l__law_pour : K.lookup f_9 = some ⟨oc_9, od_9, .func (PySem.W.fnOf "_law_pour" "_law_pour" (defArgs st__law_pour) (defBody st__law_pour) (defScope st__law_pour) .none kV_9 dc_9 pm_9 an_9 cd_9 ct_9), sl_9⟩) (c__law_pour : PySem.W.codeIn K cd_9 "_law_pour" = true) (k__law_pour : PySem.W.keepIn K (.ref f_9) = true)
    (a__law_mates : PySem.W.nsIn K mainGlobals "_law_mates" = some (some (.ref f_10))) (l__law_mates : K.lookup f_10 = some ⟨oc_10, od_10, .func (PySem.W.fnOf "_law_mates" "_law_mates" (defArgs st__law_mates) (defBody st__law_mates) (defScope st__law_mates) .none kV_10 dc_10 pm_10 an_10 cd_10 ct_10), sl_10⟩) (c__law_mates : PySem.W.codeIn K cd_10 "_law_mates" = true) (k__law_mates : PySem.W.keepIn K (.ref f_10) = true)
    (a__law_crosses : PySem.W.nsIn K mainGlobals "_law_crosses" = some (some (.ref f_11))) (l__law_crosses : K.lookup f_11 = some ⟨oc_11, od_11, .func (PySem.W.fnOf "_law_crosses" "_law_crosses" (defArgs st__law_crosses) (defBody st__law_crosses) (defScope st__law_crosses) .none kV_11 dc_11 pm_11 an_11 cd_11 ct_11), sl_11⟩) (c__law_crosses : PySem.W.codeIn K cd_11 "_law_crosses" = true) (k__law_crosses : PySem.W.keepIn K (.ref f_11) = true)
    (a__law_sides : PySem.W.nsIn K mainGlobals "_law_sides" = some (some (.ref f_12))) (l__law_sides : K.lookup f_12 = some ⟨oc_12, od_12, .func (PySem.W.fnOf "_law_sides" "_law_sides" (defArgs st__law_sides) (defBody st__law_sides) (defScope st__law_sides) .none kV_12 dc_12 pm_12 an_12 cd_12 ct_12), sl_12⟩) (c__law_sides : PySem.W.codeIn K cd_12 "_law_sides" = true) (k__law_sides : PySem.W.keepIn K (.ref f_12) = true)
    (a__law_text : PySem.W.nsIn K mainGlobals "_law_text" = some (some (.ref f_13))) (l__law_text : K.lookup f_13 = some ⟨oc_13, od_13, .func (PySem.W.fnOf "_law_text" "_law_text" (defArgs st__law_text) (defBody st__law_text) (defScope st__law_text) .none kV_13 dc_13 pm_13 an_13 cd_13 ct_13), sl_13⟩) (c__law_text : PySem.W.codeIn K cd_13 "_law_text" = true) (k__law_text : PySem.W.keepIn K (.ref f_13) = true)
    (a_first_crossing : PySem.W.nsIn K mainGlobals "first_crossing" = some (some (.ref f_14))) (l_first_crossing : K.lookup f_14 = some ⟨oc_14, od_14, .func (PySem.W.fnOf "first_crossing" "first_crossing" (defArgs st_first_crossing) (defBody st_first_crossing) (defScope st_first_crossing) .none kV_14 dc_14 pm_14 an_14 cd_14 ct_14), sl_14⟩) (c_first_crossing : PySem.W.codeIn K cd_14 "first_crossing" = true) (k_first_crossing : PySem.W.keepIn K (.ref f_14) = true)
    (a_is_row : PySem.W.nsIn K mainGlobals "is_row" = some (some (.ref f_15))) (l_is_row : K.lookup f_15 = some ⟨oc_15, od_15, .func (PySem.W.fnOf "is_row" "is_row" (defArgs st_is_row) (defBody st_is_row) (defScope st_is_row) .none kV_15 dc_15 pm_15 an_15 cd_15 ct_15), sl_15⟩) (c_is_row : PySem.W.codeIn K cd_15 "is_row" = true) (k_is_row : PySem.W.keepIn K (.ref f_15) = true)
    (a__wrong_in_order : PySem.W.nsIn K mainGlobals "_wrong_in_order" = some (some (.ref f_16))) (l__wrong_in_order : K.lookup f_16 = some ⟨oc_16, od_16, .func (PySem.W.fnOf "_wrong_in_order" "_wrong_in_order" (defArgs st__wrong_in_order) (defBody st__wrong_in_order) (defScope st__wrong_in_order) .none kV_16 dc_16 pm_16 an_16 cd_16 ct_16), sl_16⟩) (c__wrong_in_order : PySem.W.codeIn K cd_16 "_wrong_in_order" = true) (k__wrong_in_order : PySem.W.keepIn K (.ref f_16) = true)
    (a_arches_along : PySem.W.nsIn K mainGlobals "arches_along" = some (some (.ref f_17))) (l_arches_along : K.lookup f_17 = some ⟨oc_17, od_17, .func (PySem.W.fnOf "arches_along" "arches_along" (defArgs st_arches_along) (defBody st_arches_along) (defScope st_arches_along) .none kV_17 dc_17 pm_17 an_17 cd_17 ct_17), sl_17⟩) (c_arches_along : PySem.W.codeIn K cd_17 "arches_along" = true) (k_arches_along : PySem.W.keepIn K (.ref f_17) = true)
    (a__is_one_round : PySem.W.nsIn K mainGlobals "_is_one_round" = some (some (.ref f_18))) (l__is_one_round : K.lookup f_18 = some ⟨oc_18, od_18, .func (PySem.W.fnOf "_is_one_round" "_is_one_round" (defArgs st__is_one_round) (defBody st__is_one_round) (defScope st__is_one_round) .none kV_18 dc_18 pm_18 an_18 cd_18 ct_18), sl_18⟩) (c__is_one_round : PySem.W.codeIn K cd_18 "_is_one_round" = true) (k__is_one_round : PySem.W.keepIn K (.ref f_18) = true)
    (a__law_pick : PySem.W.nsIn K mainGlobals "_law_pick" = some (some (.ref f_19))) (l__law_pick : K.lookup f_19 = some ⟨oc_19, od_19, .func (PySem.W.fnOf "_law_pick" "_law_pick" (defArgs st__law_pick) (defBody st__law_pick) (defScope st__law_pick) .none kV_19 dc_19 pm_19 an_19 cd_19 ct_19), sl_19⟩) (c__law_pick : PySem.W.codeIn K cd_19 "_law_pick" = true) (k__law_pick : PySem.W.keepIn K (.ref f_19) = true)
    (a__law_row : PySem.W.nsIn K mainGlobals "_law_row" = some (some (.ref f_20))) (l__law_row : K.lookup f_20 = some ⟨oc_20, od_20, .func (PySem.W.fnOf "_law_row" "_law_row" (defArgs st__law_row) (defBody st__law_row) (defScope st__law_row) .none kV_20 dc_20 pm_20 an_20 cd_20 ct_20), sl_20⟩) (c__law_row : PySem.W.codeIn K cd_20 "_law_row" = true) (k__law_row : PySem.W.keepIn K (.ref f_20) = true)
    (a__law_path : PySem.W.nsIn K mainGlobals "_law_path" = some (some (.ref f_21))) (l__law_path : K.lookup f_21 = some ⟨oc_21, od_21, .func (PySem.W.fnOf "_law_path" "_law_path" (defArgs st__law_path) (defBody st__law_path) (defScope st__law_path) .none kV_21 dc_21 pm_21 an_21 cd_21 ct_21), sl_21⟩) (c__law_path : PySem.W.codeIn K cd_21 "_law_path" = true) (k__law_path : PySem.W.keepIn K (.ref f_21) = true)
    (a__law_drawn : PySem.W.nsIn K mainGlobals "_law_drawn" = some (some (.ref f_22))) (l__law_drawn : K.lookup f_22 = some ⟨oc_22, od_22, .func (PySem.W.fnOf "_law_drawn" "_law_drawn" (defArgs st__law_drawn) (defBody st__law_drawn) (defScope st__law_drawn) .none kV_22 dc_22 pm_22 an_22 cd_22 ct_22), sl_22⟩) (c__law_drawn : PySem.W.codeIn K cd_22 "_law_drawn" = true) (k__law_drawn : PySem.W.keepIn K (.ref f_22) = true)
    (a__law_meets : PySem.W.nsIn K mainGlobals "_law_meets" = some (some (.ref f_23))) (l__law_meets : K.lookup f_23 = some ⟨oc_23, od_23, .func (PySem.W.fnOf "_law_meets" "_law_meets" (defArgs st__law_meets) (defBody st__law_meets) (defScope st__law_meets) .none kV_23 dc_23 pm_23 an_23 cd_23 ct_23), sl_23⟩) (c__law_meets : PySem.W.codeIn K cd_23 "_law_meets" = true) (k__law_meets : PySem.W.keepIn K (.ref f_23) = true)
    (a_need_row : PySem.W.nsIn K mainGlobals "need_row" = some (some (.ref f_24))) (l_need_row : K.lookup f_24 = some ⟨oc_24, od_24, .func (PySem.W.fnOf "need_row" "need_row" (defArgs st_need_row) (defBody st_need_row) (defScope st_need_row) .none kV_24 dc_24 pm_24 an_24 cd_24 ct_24), sl_24⟩) (c_need_row : PySem.W.codeIn K cd_24 "need_row" = true) (k_need_row : PySem.W.keepIn K (.ref f_24) = true)
    (a_need_candidate : PySem.W.nsIn K mainGlobals "need_candidate" = some (some (.ref f_25))) (l_need_candidate : K.lookup f_25 = some ⟨oc_25, od_25, .func (PySem.W.fnOf "need_candidate" "need_candidate" (defArgs st_need_candidate) (defBody st_need_candidate) (defScope st_need_candidate) .none kV_25 dc_25 pm_25 an_25 cd_25 ct_25), sl_25⟩) (c_need_candidate : PySem.W.codeIn K cd_25 "need_candidate" = true) (k_need_candidate : PySem.W.keepIn K (.ref f_25) = true)
    (a__law_candidate : PySem.W.nsIn K mainGlobals "_law_candidate" = some (some (.ref f_26))) (l__law_candidate : K.lookup f_26 = some ⟨oc_26, od_26, .func (PySem.W.fnOf "_law_candidate" "_law_candidate" (defArgs st__law_candidate) (defBody st__law_candidate) (defScope st__law_candidate) .none kV_26 dc_26 pm_26 an_26 cd_26 ct_26), sl_26⟩) (c__law_candidate : PySem.W.codeIn K cd_26 "_law_candidate" = true) (k__law_candidate : PySem.W.keepIn K (.ref f_26) = true)
    (a_need_rows : PySem.W.nsIn K mainGlobals "need_rows" = some (some (.ref f_27))) (l_need_rows : K.lookup f_27 = some ⟨oc_27, od_27, .func (PySem.W.fnOf "need_rows" "need_rows" (defArgs st_need_rows) (defBody st_need_rows) (defScope st_need_rows) .none kV_27 dc_27 pm_27 an_27 cd_27 ct_27), sl_27⟩) (c_need_rows : PySem.W.codeIn K cd_27 "need_rows" = true) (k_need_rows : PySem.W.keepIn K (.ref f_27) = true)
    (a_meeting : PySem.W.nsIn K mainGlobals "meeting" = some (some (.ref f_28))) (l_meeting : K.lookup f_28 = some ⟨oc_28, od_28, .func (PySem.W.fnOf "meeting" "meeting" (defArgs st_meeting) (defBody st_meeting) (defScope st_meeting) .none kV_28 dc_28 pm_28 an_28 cd_28 ct_28), sl_28⟩) (c_meeting : PySem.W.codeIn K cd_28 "meeting" = true) (k_meeting : PySem.W.keepIn K (.ref f_28) = true)
    (a_is_river : PySem.W.nsIn K mainGlobals "is_river" = some (some (.ref f_29))) (l_is_river : K.lookup f_29 = some ⟨oc_29, od_29, .func (PySem.W.fnOf "is_river" "is_river" (defArgs st_is_river) (defBody st_is_river) (defScope st_is_river) .none kV_29 dc_29 pm_29 an_29 cd_29 ct_29), sl_29⟩) (c_is_river : PySem.W.codeIn K cd_29 "is_river" = true) (k_is_river : PySem.W.keepIn K (.ref f_29) = true)
    (a_river_of : PySem.W.nsIn K mainGlobals "river_of" = some (some (.ref f_30))) (l_river_of : K.lookup f_30 = some ⟨oc_30, od_30, .func (PySem.W.fnOf "river_of" "river_of" (defArgs st_river_of) (defBody st_river_of) (defScope st_river_of) .none kV_30 dc_30 pm_30 an_30 cd_30 ct_30), sl_30⟩) (c_river_of : PySem.W.codeIn K cd_30 "river_of" = true) (k_river_of : PySem.W.keepIn K (.ref f_30) = true)
    (a_path : PySem.W.nsIn K mainGlobals "path" = some (some (.ref f_31))) (l_path : K.lookup f_31 = some ⟨oc_31, od_31, .func (PySem.W.fnOf "path" "path" (defArgs st_path) (defBody st_path) (defScope st_path) .none kV_31 dc_31 pm_31 an_31 cd_31 ct_31), sl_31⟩) (c_path : PySem.W.codeIn K cd_31 "path" = true) (k_path : PySem.W.keepIn K (.ref f_31) = true)
    (a__law_right : PySem.W.nsIn K mainGlobals "_law_right" = some (some (.ref f_32))) (l__law_right : K.lookup f_32 = some ⟨oc_32, od_32, .func (PySem.W.fnOf "_law_right" "_law_right" (defArgs st__law_right) (defBody st__law_right) (defScope st__law_right) .none kV_32 dc_32 pm_32 an_32 cd_32 ct_32), sl_32⟩) (c__law_right : PySem.W.codeIn K cd_32 "_law_right" = true) (k__law_right : PySem.W.keepIn K (.ref f_32) = true)
    (a_law : PySem.W.nsIn K mainGlobals "law" = some (some (.ref f_33))) (l_law : K.lookup f_33 = some ⟨oc_33, od_33, .func (PySem.W.fnOf "law" "law" (defArgs st_law) (defBody st_law) (defScope st_law) .none kV_33 dc_33 pm_33 an_33 cd_33 ct_33), sl_33⟩) (c_law : PySem.W.codeIn K cd_33 "law" = true) (k_law : PySem.W.keepIn K (.ref f_33) = true)
    (z_abs : PySem.W.nsIn K mainGlobals "abs" = some none)
    (z_all : PySem.W.nsIn K mainGlobals "all" = some none)
    (z_divmod : PySem.W.nsIn K mainGlobals "divmod" = some none)
    (z_enumerate : PySem.W.nsIn K mainGlobals "enumerate" = some none)
    (z_int : PySem.W.nsIn K mainGlobals "int" = some none)
    (z_isinstance : PySem.W.nsIn K mainGlobals "isinstance" = some none)
    (z_len : PySem.W.nsIn K mainGlobals "len" = some none)
    (z_list : PySem.W.nsIn K mainGlobals "list" = some none)
    (z_max : PySem.W.nsIn K mainGlobals "max" = some none)
    (z_min : PySem.W.nsIn K mainGlobals "min" = some none)
    (z_range : PySem.W.nsIn K mainGlobals "range" = some none)
    (z_sorted : PySem.W.nsIn K mainGlobals "sorted" = some none)
    (z_str : PySem.W.nsIn K mainGlobals "str" = some none)
    (z_tuple : PySem.W.nsIn K mainGlobals "tuple" = some none)
    (z_type : PySem.W.nsIn K mainGlobals "type" = some none)
    (z_zip : PySem.W.nsIn K mainGlobals "zip" = some none)
    (z_MOST_ARCHES : PySem.W.nsIn K mainGlobals "MOST_ARCHES" = some (some (.int 12 t_MOST_ARCHES)))
    : ∃ fd : FuncData, (∀ (s : Shared) (u : Value), BindsTo s fd ⟨[u], []⟩ [("script", u)]) ∧ ∀ base : Heap, K.In base → base.Ns mainGlobals mg → DefOk P w ⟨K, mg⟩ base 8 fa fd ["script"] R_law := by
  have e := hfa.symm.trans (PySem.W.mg_of X G a_law)
  cases e
  have T : Glob K mg := ⟨PySem.W.mg_none_of X G z_abs, PySem.W.mg_none_of X G z_all, PySem.W.mg_none_of X G z_divmod, PySem.W.mg_none_of X G z_enumerate, PySem.W.mg_none_of X G z_int, PySem.W.mg_none_of X G z_isinstance, PySem.W.mg_none_of X G z_len, PySem.W.mg_none_of X G z_list, PySem.W.mg_none_of X G z_max, PySem.W.mg_none_of X G z_min, PySem.W.mg_none_of X G z_range, PySem.W.mg_none_of X G z_sorted, PySem.W.mg_none_of X G z_str, PySem.W.mg_none_of X G z_tuple, PySem.W.mg_none_of X G z_type, PySem.W.mg_none_of X G z_zip, ⟨_, PySem.W.mg_of X G z_MOST_ARCHES⟩⟩
  refine ⟨PySem.W.fnOf "law" "law" (defArgs st_law) (defBody st_law) (defScope st_law) .none kV_33 dc_33 pm_33 an_33 cd_33 ct_33, fun s u => .of_eq rfl, fun base _ _ => ?_⟩
  have RR_is_crossing : Gfn P w ⟨K, mg⟩ base 1 "is_crossing" st_is_crossing ["arch", "other_arch"] R_is_crossing := ⟨⟨_, _, PySem.W.mg_of X G a_is_crossing, k_is_crossing, d_is_crossing T  l_is_crossing c_is_crossing, fun us kw r e s => .of_eq (e _ _ _ _ _ _)⟩⟩
  have GG_is_crossing : Gfn P w ⟨K, mg⟩ base 1 "is_crossing" st_is_crossing ["arch", "other_arch"] G_is_crossing := RR_is_crossing.pure
  have RR_is_within : Gfn P w ⟨K, mg⟩ base 1 "is_within" st_is_within ["value", "least", "most"] R_is_within := ⟨⟨_, _, PySem.W.mg_of X G a_is_within, k_is_within, d_is_within T  l_is_within c_is_within, fun us kw r e s => .of_eq (e _ _ _ _ _ _)⟩⟩
  have GG_is_within : Gfn P w ⟨K, mg⟩ base 1 "is_within" st_is_within ["value", "least", "most"] G_is_within := RR_is_within.pure
  have RR_is_text : Gfn P w ⟨K, mg⟩ base 1 "is_text" st_is_text ["value", "signs", "least", "most"] R_is_text := ⟨⟨_, _, PySem.W.mg_of X G a_is_text, k_is_text, d_is_text T  l_is_text c_is_text, fun us kw r e s => .of_eq (e _ _ _ _ _ _)⟩⟩
  have GG_is_text : Gfn P w ⟨K, mg⟩ base 1 "is_text" st_is_text ["value", "signs", "least", "most"] G_is_text := RR_is_text.pure
  have RR__is_tuple : Gfn P w ⟨K, mg⟩ base 1 "_is_tuple" st__is_tuple ["value", "least", "most"] R__is_tuple := ⟨⟨_, _, PySem.W.mg_of X G a__is_tuple, k__is_tuple, d__is_tuple T  l__is_tuple c__is_tuple, fun us kw r e s => .of_eq (e _ _ _ _ _ _)⟩⟩
  have GG__is_tuple : Gfn P w ⟨K, mg⟩ base 1 "_is_tuple" st__is_tuple ["value", "least", "most"] G__is_tuple := RR__is_tuple.pure
  have RR_mates_of : Gfn P w ⟨K, mg⟩ base 1 "mates_of" st_mates_of ["row"] R_mates_of := ⟨⟨_, _, PySem.W.mg_of X G a_mates_of, k_mates_of, d_mates_of T  l_mates_of c_mates_of, fun us kw r e s => .of_eq (e _ _ _ _ _ _)⟩⟩
  have GG_mates_of : Gfn P w ⟨K, mg⟩ base 1 "mates_of" st_mates_of ["row"] G_mates_of := RR_mates_of.pure
  have RR_walk_from : Gfn P w ⟨K, mg⟩ base 1 "walk_from" st_walk_from ["upper_mates", "lower_mates", "foot"] R_walk_from := ⟨⟨_, _, PySem.W.mg_of X G a_walk_from, k_walk_from, d_walk_from T  l_walk_from c_walk_from, fun us kw r e s => .of_eq (e _ _ _ _ _ _)⟩⟩
  have GG_walk_from : Gfn P w ⟨K, mg⟩ base 1 "walk_from" st_walk_from ["upper_mates", "lower_mates", "foot"] G_walk_from := RR_walk_from.to g_walk_from
  have RR__joined : Gfn P w ⟨K, mg⟩ base 1 "_joined" st__joined ["feet", "other_feet"] R__joined := ⟨⟨_, _, PySem.W.mg_of X G a__joined, k__joined, d__joined T  l__joined c__joined, fun us kw r e s => .of_eq (e _ _ _ _ _ _)⟩⟩
  have GG__joined : Gfn P w ⟨K, mg⟩ base 1 "_joined" st__joined ["feet", "other_feet"] G__joined := RR__joined.to g__joined
  have RR__row_with : Gfn P w ⟨K, mg⟩ base 1 "_row_with" st__row_with ["arches"] R__row_with := ⟨⟨_, _, PySem.W.mg_of X G a__row_with, k__row_with, d__row_with T  l__row_with c__row_with, fun us kw r e s => .of_eq (e _ _ _ _ _ _)⟩⟩
  have GG__row_with : Gfn P w ⟨K, mg⟩ base 1 "_row_with" st__row_with ["arches"] G__row_with := RR__row_with.to g__row_with
  have RR__law_flask : Gfn P w ⟨K, mg⟩ base 1 "_law_flask" st__law_flask ["script", "k"] R__law_flask := ⟨⟨_, _, PySem.W.mg_of X G a__law_flask, k__law_flask, d__law_flask T  l__law_flask c__law_flask, fun us kw r e s => .of_eq (e _ _ _ _ _ _)⟩⟩
  have GG__law_flask : Gfn P w ⟨K, mg⟩ base 1 "_law_flask" st__law_flask ["script", "k"] G__law_flask := RR__law_flask.pure
  have RR__law_pour : Gfn P w ⟨K, mg⟩ base 1 "_law_pour" st__law_pour ["flask", "top"] R__law_pour := ⟨⟨_, _, PySem.W.mg_of X G a__law_pour, k__law_pour, d__law_pour T  l__law_pour c__law_pour, fun us kw r e s => .of_eq (e _ _ _ _ _ _)⟩⟩
  have GG__law_pour : Gfn P w ⟨K, mg⟩ base 1 "_law_pour" st__law_pour ["flask", "top"] G__law_pour := RR__law_pour.to g__law_pour
  have RR__law_mates : Gfn P w ⟨K, mg⟩ base 1 "_law_mates" st__law_mates ["line"] R__law_mates := ⟨⟨_, _, PySem.W.mg_of X G a__law_mates, k__law_mates, d__law_mates T  l__law_mates c__law_mates, fun us kw r e s => .of_eq (e _ _ _ _ _ _)⟩⟩
  have GG__law_mates : Gfn P w ⟨K, mg⟩ base 1 "_law_mates" st__law_mates ["line"] G__law_mates := RR__law_mates.pure
  have RR__law_crosses : Gfn P w ⟨K, mg⟩ base 1 "_law_crosses" st__law_crosses ["one", "other"] R__law_crosses := ⟨⟨_, _, PySem.W.mg_of X G a__law_crosses, k__law_crosses, d__law_crosses T  l__law_crosses c__law_crosses, fun us kw r e s => .of_eq (e _ _ _ _ _ _)⟩⟩
  have GG__law_crosses : Gfn P w ⟨K, mg⟩ base 1 "_law_crosses" st__law_crosses ["one", "other"] G__law_crosses := RR__law_crosses.pure
  have RR__law_sides : Gfn P w ⟨K, mg⟩ base 1 "_law_sides" st__law_sides ["line"] R__law_sides := ⟨⟨_, _, PySem.W.mg_of X G a__law_sides, k__law_sides, d__law_sides T  l__law_sides c__law_sides, fun us kw r e s => .of_eq (e _ _ _ _ _ _)⟩⟩
  have GG__law_sides : Gfn P w ⟨K, mg⟩ base 1 "_law_sides" st__law_sides ["line"] G__law_sides := RR__law_sides.pure
  have RR__law_text : Gfn P w ⟨K, mg⟩ base 1 "_law_text" st__law_text ["pairs"] R__law_text := ⟨⟨_, _, PySem.W.mg_of X G a__law_text, k__law_text, d__law_text T  l__law_text c__law_text, fun us kw r e s => .of_eq (e _ _ _ _ _ _)⟩⟩
  have GG__law_text : Gfn P w ⟨K, mg⟩ base 1 "_law_text" st__law_text ["pairs"] G__law_text := RR__law_text.to g__law_text
  have RR_first_crossing : Gfn P w ⟨K, mg⟩ base 2 "first_crossing" st_first_crossing ["arches"] R_first_crossing := ⟨⟨_, _, PySem.W.mg_of X G a_first_crossing, k_first_crossing, d_first_crossing T GG_is_crossing l_first_crossing c_first_crossing, fun us kw r e s => .of_eq (e _ _ _ _ _ _)⟩⟩
  have GG_first_crossing : Gfn P w ⟨K, mg⟩ base 2 "first_crossing" st_first_crossing ["arches"] G_first_crossing := RR_first_crossing.to g_first_crossing
  have RR_is_row : Gfn P w ⟨K, mg⟩ base 2 "is_row" st_is_row ["value"] R_is_row := ⟨⟨_, _, PySem.W.mg_of X G a_is_row, k_is_row, d_is_row T GG_is_text l_is_row c_is_row, fun us kw r e s => .of_eq (e _ _ _ _ _ _)⟩⟩
  have GG_is_row : Gfn P w ⟨K, mg⟩ base 2 "is_row" st_is_row ["value"] G_is_row := RR_is_row.pure
  have RR__wrong_in_order : Gfn P w ⟨K, mg⟩ base 2 "_wrong_in_order" st__wrong_in_order ["values"] R__wrong_in_order := ⟨⟨_, _, PySem.W.mg_of X G a__wrong_in_order, k__wrong_in_order, d__wrong_in_order T GG_is_within l__wrong_in_order c__wrong_in_order, fun us kw r e s => .of_eq (e _ _ _ _ _ _)⟩⟩
  have GG__wrong_in_order : Gfn P w ⟨K, mg⟩ base 2 "_wrong_in_order" st__wrong_in_order ["values"] G__wrong_in_order := RR__wrong_in_order.pure
  have RR_arches_along : Gfn P w ⟨K, mg⟩ base 2 "arches_along" st_arches_along ["candidate"] R_arches_along := ⟨⟨_, _, PySem.W.mg_of X G a_arches_along, k_arches_along, d_arches_along T GG__joined l_arches_along c_arches_along, fun us kw r e s => .of_eq (e _ _ _ _ _ _)⟩⟩
  have GG_arches_along : Gfn P w ⟨K, mg⟩ base 2 "arches_along" st_arches_along ["candidate"] G_arches_along := RR_arches_along.pure
  have RR__is_one_round : Gfn P w ⟨K, mg⟩ base 2 "_is_one_round" st__is_one_round ["upper_mates", "lower_mates"] R__is_one_round := ⟨⟨_, _, PySem.W.mg_of X G a__is_one_round, k__is_one_round, d__is_one_round T GG_walk_from l__is_one_round c__is_one_round, fun us kw r e s => .of_eq (e _ _ _ _ _ _)⟩⟩
  have GG__is_one_round : Gfn P w ⟨K, mg⟩ base 2 "_is_one_round" st__is_one_round ["upper_mates", "lower_mates"] G__is_one_round := RR__is_one_round.to g__is_one_round
  have RR__law_pick : Gfn P w ⟨K, mg⟩ base 2 "_law_pick" st__law_pick ["flask", "some"] R__law_pick := ⟨⟨_, _, PySem.W.mg_of X G a__law_pick, k__law_pick, d__law_pick T GG__law_pour l__law_pick c__law_pick, fun us kw r e s => .of_eq (e _ _ _ _ _ _)⟩⟩
  have GG__law_pick : Gfn P w ⟨K, mg⟩ base 2 "_law_pick" st__law_pick ["flask", "some"] G__law_pick := RR__law_pick.to g__law_pick
  have RR__law_row : Gfn P w ⟨K, mg⟩ base 2 "_law_row" st__law_row ["flask", "many"] R__law_row := ⟨⟨_, _, PySem.W.mg_of X G a__law_row, k__law_row, d__law_row T GG__law_pour l__law_row c__law_row, fun us kw r e s => .of_eq (e _ _ _ _ _ _)⟩⟩
  have GG__law_row : Gfn P w ⟨K, mg⟩ base 2 "_law_row" st__law_row ["flask", "many"] G__law_row := RR__law_row.to g__law_row
  have RR__law_path : Gfn P w ⟨K, mg⟩ base 2 "_law_path" st__law_path ["high", "low"] R__law_path := ⟨⟨_, _, PySem.W.mg_of X G a__law_path, k__law_path, d__law_path T GG__law_mates l__law_path c__law_path, fun us kw r e s => .of_eq (e _ _ _ _ _ _)⟩⟩
  have GG__law_path : Gfn P w ⟨K, mg⟩ base 2 "_law_path" st__law_path ["high", "low"] G__law_path := RR__law_path.pure
  have RR__law_drawn : Gfn P w ⟨K, mg⟩ base 2 "_law_drawn" st__law_drawn ["flask", "many"] R__law_drawn := ⟨⟨_, _, PySem.W.mg_of X G a__law_drawn, k__law_drawn, d__law_drawn T GG__law_pour l__law_drawn c__law_drawn, fun us kw r e s => .of_eq (e _ _ _ _ _ _)⟩⟩
  have GG__law_drawn : Gfn P w ⟨K, mg⟩ base 2 "_law_drawn" st__law_drawn ["flask", "many"] G__law_drawn := RR__law_drawn.to g__law_drawn
  have RR__law_meets : Gfn P w ⟨K, mg⟩ base 2 "_law_meets" st__law_meets ["told", "high", "low"] R__law_meets := ⟨⟨_, _, PySem.W.mg_of X G a__law_meets, k__law_meets, d__law_meets T GG__law_crosses l__law_meets c__law_meets, fun us kw r e s => .of_eq (e _ _ _ _ _ _)⟩⟩
  have GG__law_meets : Gfn P w ⟨K, mg⟩ base 2 "_law_meets" st__law_meets ["told", "high", "low"] G__law_meets := RR__law_meets.to g__law_meets
  have RR_need_row : Gfn P w ⟨K, mg⟩ base 3 "need_row" st_need_row ["value"] R_need_row := ⟨⟨_, _, PySem.W.mg_of X G a_need_row, k_need_row, d_need_row T GG_is_row l_need_row c_need_row, fun us kw r e s => .of_eq (e _ _ _ _ _ _)⟩⟩
  have GG_need_row : Gfn P w ⟨K, mg⟩ base 3 "need_row" st_need_row ["value"] G_need_row := RR_need_row.pure
  have RR_need_candidate : Gfn P w ⟨K, mg⟩ base 3 "need_candidate" st_need_candidate ["value"] R_need_candidate := ⟨⟨_, _, PySem.W.mg_of X G a_need_candidate, k_need_candidate, d_need_candidate T GG__is_tuple GG__wrong_in_order GG_is_within l_need_candidate c_need_candidate, fun us kw r e s => .of_eq (e _ _ _ _ _ _)⟩⟩
  have GG_need_candidate : Gfn P w ⟨K, mg⟩ base 3 "need_candidate" st_need_candidate ["value"] G_need_candidate := RR_need_candidate.pure
  have RR__law_candidate : Gfn P w ⟨K, mg⟩ base 3 "_law_candidate" st__law_candidate ["flask"] R__law_candidate := ⟨⟨_, _, PySem.W.mg_of X G a__law_candidate, k__law_candidate, d__law_candidate T GG__law_drawn GG__law_path GG__law_pick GG__law_pour GG__law_row l__law_candidate c__law_candidate, fun us kw r e s => .of_eq (e _ _ _ _ _ _)⟩⟩
  have GG__law_candidate : Gfn P w ⟨K, mg⟩ base 3 "_law_candidate" st__law_candidate ["flask"] G__law_candidate := RR__law_candidate.to g__law_candidate
  have RR_need_rows : Gfn P w ⟨K, mg⟩ base 4 "need_rows" st_need_rows ["value", "other_value"] R_need_rows := ⟨⟨_, _, PySem.W.mg_of X G a_need_rows, k_need_rows, d_need_rows T GG_need_row l_need_rows c_need_rows, fun us kw r e s => .of_eq (e _ _ _ _ _ _)⟩⟩
  have GG_need_rows : Gfn P w ⟨K, mg⟩ base 4 "need_rows" st_need_rows ["value", "other_value"] G_need_rows := RR_need_rows.pure
  have RR_meeting : Gfn P w ⟨K, mg⟩ base 4 "meeting" st_meeting ["candidate"] R_meeting := ⟨⟨_, _, PySem.W.mg_of X G a_meeting, k_meeting, d_meeting T GG_arches_along GG_first_crossing GG_need_candidate l_meeting c_meeting, fun us kw r e s => .of_eq (e _ _ _ _ _ _)⟩⟩
  have GG_meeting : Gfn P w ⟨K, mg⟩ base 4 "meeting" st_meeting ["candidate"] G_meeting := RR_meeting.pure
  have RR_is_river : Gfn P w ⟨K, mg⟩ base 5 "is_river" st_is_river ["upper", "lower"] R_is_river := ⟨⟨_, _, PySem.W.mg_of X G a_is_river, k_is_river, d_is_river T GG__is_one_round GG_mates_of GG_need_rows l_is_river c_is_river, fun us kw r e s => .of_eq (e _ _ _ _ _ _)⟩⟩
  have GG_is_river : Gfn P w ⟨K, mg⟩ base 5 "is_river" st_is_river ["upper", "lower"] G_is_river := RR_is_river.pure
  have RR_river_of : Gfn P w ⟨K, mg⟩ base 5 "river_of" st_river_of ["candidate"] R_river_of := ⟨⟨_, _, PySem.W.mg_of X G a_river_of, k_river_of, d_river_of T GG__row_with GG_arches_along GG_meeting l_river_of c_river_of, fun us kw r e s => .of_eq (e _ _ _ _ _ _)⟩⟩
  have GG_river_of : Gfn P w ⟨K, mg⟩ base 5 "river_of" st_river_of ["candidate"] G_river_of := RR_river_of.pure
  have RR_path : Gfn P w ⟨K, mg⟩ base 6 "path" st_path ["upper", "lower"] R_path := ⟨⟨_, _, PySem.W.mg_of X G a_path, k_path, d_path T GG_is_river GG_mates_of GG_walk_from l_path c_path, fun us kw r e s => .of_eq (e _ _ _ _ _ _)⟩⟩
  have GG_path : Gfn P w ⟨K, mg⟩ base 6 "path" st_path ["upper", "lower"] G_path := RR_path.pure
  have RR__law_right : Gfn P w ⟨K, mg⟩ base 7 "_law_right" st__law_right ["flask"] R__law_right := ⟨⟨_, _, PySem.W.mg_of X G a__law_right, k__law_right, d__law_right T GG__law_candidate GG__law_crosses GG__law_meets GG__law_sides GG__law_text GG_is_river GG_meeting GG_path GG_river_of l__law_right c__law_right, fun us kw r e s => .of_eq (e _ _ _ _ _ _)⟩⟩
  have GG__law_right : Gfn P w ⟨K, mg⟩ base 7 "_law_right" st__law_right ["flask"] G__law_right := RR__law_right.to g__law_right
  exact d_law T GG__law_flask GG__law_right l_law c_law
end
end Lawk14

open PySem PySem.W PyProof.Rows in
set_option maxRecDepth 100000 in
set_option maxHeartbeats 0 in
theorem PySem.Challenge.cw_foldworld_k14_whole_candidates_judged_holds : PySem.Challenge.rw_foldworld_k14_whole_candidates_judged.Holds := by
  w_on; o_law; k_head; (case hw => w_witness2)
  k_fill
  refine Fw.law_end (l := PySem.Challenge.rw_foldworld_k14_whole_candidates_judged) (n := 63) (k := 8) (x := "script") (F := Lawk14.R_law) rfl (by decide) rfl ⟨rfl, by decide, by decide⟩ (fun w h Y => PySem.W.kIn_of Y) ?D Lawk14.law_true
  case D =>
    intro w mg fa h KX G hmg
    refine' Lawk14.all_mk KX G hmg ?a_is_crossing ?l_is_crossing ?c_is_crossing ?k_is_crossing ?a_is_within ?l_is_within ?c_is_within ?k_is_within ?a_is_text ?l_is_text ?c_is_text ?k_is_text ?a__is_tuple ?l__is_tuple ?c__is_tuple ?k__is_tuple ?a_mates_of ?l_mates_of ?c_mates_of ?k_mates_of ?a_walk_from ?l_walk_from ?c_walk_from ?k_walk_from ?a__joined ?l__joined ?c__joined ?k__joined ?a__row_with ?l__row_with ?c__row_with ?k__row_with ?a__law_flask ?l__law_flask ?c__law_flask ?k__law_flask ?a__law_pour ?l__law_pour ?c__law_pour ?k__law_pour ?a__law_mates ?l__law_mates ?c__law_mates ?k__law_mates ?a__law_crosses ?l__law_crosses ?c__law_crosses ?k__law_crosses ?a__law_sides ?l__law_sides ?c__law_sides ?k__law_sides ?a__law_text ?l__law_text ?c__law_text ?k__law_text ?a_first_crossing ?l_first_crossing ?c_first_crossing ?k_first_crossing ?a_is_row ?l_is_row ?c_is_row ?k_is_row ?a__wrong_in_order ?l__wrong_in_order ?c__wrong_in_order ?k__wrong_in_order ?a_arches_along ?l_arches_along ?c_arches_along ?k_arches_along ?a__is_one_round ?l__is_one_round ?c__is_one_round ?k__is_one_round ?a__law_pick ?l__law_pick ?c__law_pick ?k__law_pick ?a__law_row ?l__law_row ?c__law_row ?k__law_row ?a__law_path ?l__law_path ?c__law_path ?k__law_path ?a__law_drawn ?l__law_drawn ?c__law_drawn ?k__law_drawn ?a__law_meets ?l__law_meets ?c__law_meets ?k__law_meets ?a_need_row ?l_need_row ?c_need_row ?k_need_row ?a_need_candidate ?l_need_candidate ?c_need_candidate ?k_need_candidate ?a__law_candidate ?l__law_candidate ?c__law_candidate ?k__law_candidate ?a_need_rows ?l_need_rows ?c_need_rows ?k_need_rows ?a_meeting ?l_meeting ?c_meeting ?k_meeting ?a_is_river ?l_is_river ?c_is_river ?k_is_river ?a_river_of ?l_river_of ?c_river_of ?k_river_of ?a_path ?l_path ?c_path ?k_path ?a__law_right ?l__law_right ?c__law_right ?k__law_right ?a_law ?l_law ?c_law ?k_law ?z_abs ?z_all ?z_divmod ?z_enumerate ?z_int ?z_isinstance ?z_len ?z_list ?z_max ?z_min ?z_range ?z_sorted ?z_str ?z_tuple ?z_type ?z_zip ?z_MOST_ARCHES
    (case a_is_crossing => k_is)
    (case l_is_crossing => k_is)
    (case c_is_crossing => k_is)
    (case k_is_crossing => k_is)
    (case a_is_within => k_is)
    (case l_is_within => k_is)
    (case c_is_within => k_is)
    (case k_is_within => k_is)
    (case a_is_text => k_is)
    (case l_is_text => k_is)
    (case c_is_text => k_is)
    (case k_is_text => k_is)
    (case a__is_tuple => k_is)
    (case l__is_tuple => k_is)
    (case c__is_tuple => k_is)
    (case k__is_tuple => k_is)
    (case a_mates_of => k_is)
    (case l_mates_of => k_is)
    (case c_mates_of => k_is)
    (case k_mates_of => k_is)
    (case a_walk_from => k_is)
    (case l_walk_from => k_is)
    (case c_walk_from => k_is)
    (case k_walk_from => k_is)
    (case a__joined => k_is)
    (case l__joined => k_is)
    (case c__joined => k_is)
    (case k__joined => k_is)
    (case a__row_with => k_is)
    (case l__row_with => k_is)
    (case c__row_with => k_is)
    (case k__row_with => k_is)
    (case a__law_flask => k_is)
    (case l__law_flask => k_is)
    (case c__law_flask => k_is)
    (case k__law_flask => k_is)
    (case a__law_pour => k_is)
    (case l__law_pour => k_is)
    (case c__law_pour => k_is)
    (case k__law_pour => k_is)
    (case a__law_mates => k_is)
    (case l__law_mates => k_is)
    (case c__law_mates => k_is)
    (case k__law_mates => k_is)
    (case a__law_crosses => k_is)
    (case l__law_crosses => k_is)
    (case c__law_crosses => k_is)
    (case k__law_crosses => k_is)
    (case a__law_sides => k_is)
    (case l__law_sides => k_is)
    (case c__law_sides => k_is)
    (case k__law_sides => k_is)
    (case a__law_text => k_is)
    (case l__law_text => k_is)
    (case c__law_text => k_is)
    (case k__law_text => k_is)
    (case a_first_crossing => k_is)
    (case l_first_crossing => k_is)
    (case c_first_crossing => k_is)
    (case k_first_crossing => k_is)
    (case a_is_row => k_is)
    (case l_is_row => k_is)
    (case c_is_row => k_is)
    (case k_is_row => k_is)
    (case a__wrong_in_order => k_is)
    (case l__wrong_in_order => k_is)
    (case c__wrong_in_order => k_is)
    (case k__wrong_in_order => k_is)
    (case a_arches_along => k_is)
    (case l_arches_along => k_is)
    (case c_arches_along => k_is)
    (case k_arches_along => k_is)
    (case a__is_one_round => k_is)
    (case l__is_one_round => k_is)
    (case c__is_one_round => k_is)
    (case k__is_one_round => k_is)
    (case a__law_pick => k_is)
    (case l__law_pick => k_is)
    (case c__law_pick => k_is)
    (case k__law_pick => k_is)
    (case a__law_row => k_is)
    (case l__law_row => k_is)
    (case c__law_row => k_is)
    (case k__law_row => k_is)
    (case a__law_path => k_is)
    (case l__law_path => k_is)
    (case c__law_path => k_is)
    (case k__law_path => k_is)
    (case a__law_drawn => k_is)
    (case l__law_drawn => k_is)
    (case c__law_drawn => k_is)
    (case k__law_drawn => k_is)
    (case a__law_meets => k_is)
    (case l__law_meets => k_is)
    (case c__law_meets => k_is)
    (case k__law_meets => k_is)
    (case a_need_row => k_is)
    (case l_need_row => k_is)
    (case c_need_row => k_is)
    (case k_need_row => k_is)
    (case a_need_candidate => k_is)
    (case l_need_candidate => k_is)
    (case c_need_candidate => k_is)
    (case k_need_candidate => k_is)
    (case a__law_candidate => k_is)
    (case l__law_candidate => k_is)
    (case c__law_candidate => k_is)
    (case k__law_candidate => k_is)
    (case a_need_rows => k_is)
    (case l_need_rows => k_is)
    (case c_need_rows => k_is)
    (case k_need_rows => k_is)
    (case a_meeting => k_is)
    (case l_meeting => k_is)
    (case c_meeting => k_is)
    (case k_meeting => k_is)
    (case a_is_river => k_is)
    (case l_is_river => k_is)
    (case c_is_river => k_is)
    (case k_is_river => k_is)
    (case a_river_of => k_is)
    (case l_river_of => k_is)
    (case c_river_of => k_is)
    (case k_river_of => k_is)
    (case a_path => k_is)
    (case l_path => k_is)
    (case c_path => k_is)
    (case k_path => k_is)
    (case a__law_right => k_is)
    (case l__law_right => k_is)
    (case c__law_right => k_is)
    (case k__law_right => k_is)
    (case a_law => k_is)
    (case l_law => k_is)
    (case c_law => k_is)
    (case k_law => k_is)
    (case z_abs => k_is)
    (case z_all => k_is)
    (case z_divmod => k_is)
    (case z_enumerate => k_is)
    (case z_int => k_is)
    (case z_isinstance => k_is)
    (case z_len => k_is)
    (case z_list => k_is)
    (case z_max => k_is)
    (case z_min => k_is)
    (case z_range => k_is)
    (case z_sorted => k_is)
    (case z_str => k_is)
    (case z_tuple => k_is)
    (case z_type => k_is)
    (case z_zip => k_is)
    (case z_MOST_ARCHES => k_is)
