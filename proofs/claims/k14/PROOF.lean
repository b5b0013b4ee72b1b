import PyProof.Rows.All
import Wide.All
import OpenK.AllK
import Wide.FinOn
import HandS.ForMost
import HandS.Style
import HandS.Wide
import HandS.Flow
import HandS.Conv
import HandS.RaiseMore
import HandS.Evl
import HandS.Walk
import PySem.Challenge.RW_fewestpours_k14_whole_powers
set_option Elab.async false
set_option linter.all false
set_option maxRecDepth 100000
set_option maxHeartbeats 4000000
/-! the mathematics of powers: plain Lean -/
namespace Pw
theorem sq_nonneg (a : Int) : 0 ≤ a * a := by
  rcases Int.le_total 0 a with h | h
  · exact Int.mul_nonneg h h
  · exact Int.mul_nonneg_of_nonpos_of_nonpos h h
theorem bern (X Y : Int) (hX : 0 ≤ X) (hY : 0 ≤ Y) : ∀ n : Nat, ((n : Int) + 1) * (X * Y ^ n) ≤ X ^ (n + 1) + (n : Int) * Y ^ (n + 1)
  | 0 => by simp [Int.pow_succ]
  | n + 1 => by
    have ih := bern X Y hX hY n
    have h1 := Int.mul_le_mul_of_nonneg_left ih hX
    have h2 : 0 ≤ ((n : Int) + 1) * (Y ^ n * ((X - Y) * (X - Y))) := Int.mul_nonneg (by omega) (Int.mul_nonneg (Int.pow_nonneg hY) (sq_nonneg _))
    have e1 : X ^ (n + 1 + 1) = X * X ^ (n + 1) := by rw [Int.pow_succ, Int.mul_comm]
    have e3 : Y ^ (n + 1) = Y ^ n * Y := Int.pow_succ ..
    have e2 : Y ^ (n + 1 + 1) = Y ^ n * (Y * Y) := by rw [Int.pow_succ, Int.pow_succ, Int.mul_assoc]
    rw [e1, e2, e3]
    rw [e3] at h1
    clear ih e1 e2 e3
    generalize Y ^ n = p at *
    generalize X ^ (n + 1) = r at *
    push_cast
    grind
theorem bern_lt (X Y : Int) (hX : 0 ≤ X) (hY : 0 < Y) (hne : X ≠ Y) (n : Nat) : ((n : Int) + 2) * (X * Y ^ (n + 1)) < X ^ (n + 2) + ((n : Int) + 1) * Y ^ (n + 2) := by
  have ih := bern X Y hX (by omega) n
  have h1 := Int.mul_le_mul_of_nonneg_left ih hX
  have h0 : 0 < (X - Y) * (X - Y) := by
    rcases Int.lt_or_gt_of_ne hne with h | h
    · exact Int.mul_pos_of_neg_of_neg (by omega) (by omega)
    · exact Int.mul_pos (by omega) (by omega)
  have h2 : 0 < ((n : Int) + 1) * (Y ^ n * ((X - Y) * (X - Y))) := Int.mul_pos (by omega) (Int.mul_pos (Int.pow_pos hY) h0)
  have e1 : X ^ (n + 2) = X * X ^ (n + 1) := by rw [Int.pow_succ, Int.mul_comm]
  have e3 : Y ^ (n + 1) = Y ^ n * Y := Int.pow_succ ..
  have e2 : Y ^ (n + 2) = Y ^ n * (Y * Y) := by rw [Int.pow_succ, Int.pow_succ, Int.mul_assoc]
  rw [e1, e2, e3]
  rw [e3] at h1
  clear ih e1 e2 e3 h0
  generalize Y ^ n = p at *
  generalize X ^ (n + 1) = r at *
  grind
/-- the step of the means, in whole numbers -/
theorem mean_step (N : Nat) (hN : 0 < N) (T V : Int) (hT : 0 ≤ T) (hV : 0 ≤ V) : ((N : Int) + 1) ^ (N + 1) * (T ^ N * V) ≤ (T + V) ^ (N + 1) * (N : Int) ^ N := by
  have b := bern ((N : Int) * (T + V)) (((N : Int) + 1) * T) (Int.mul_nonneg (by omega) (by omega)) (Int.mul_nonneg (by omega) hT) N
  rw [Int.mul_pow, Int.mul_pow, Int.mul_pow] at b
  rw [Int.pow_succ ((N : Int)) N, Int.pow_succ T N, Int.pow_succ ((N : Int) + 1) N] at b
  rw [Int.pow_succ ((N : Int) + 1) N]
  generalize (T + V) ^ (N + 1) = u at *
  generalize T ^ N = t at *
  generalize (N : Int) ^ N = m at *
  generalize ((N : Int) + 1) ^ N = k at *
  have h : (N : Int) * ((k * ((N : Int) + 1)) * (t * V)) ≤ (N : Int) * (u * m) := by grind
  exact Int.le_of_mul_le_mul_left h (by omega)
theorem mean_step_lt (N : Nat) (hN : 0 < N) (T V : Int) (hT : 0 < T) (hV : 0 ≤ V) (hne : T ≠ (N : Int) * V) : ((N : Int) + 1) ^ (N + 1) * (T ^ N * V) < (T + V) ^ (N + 1) * (N : Int) ^ N := by
  obtain ⟨n, rfl⟩ : ∃ n, N = n + 1 := ⟨N - 1, by omega⟩
  have b := bern_lt (((n + 1 : Nat) : Int) * (T + V)) ((((n + 1 : Nat) : Int) + 1) * T) (Int.mul_nonneg (by omega) (by omega)) (Int.mul_pos (by omega) hT) (fun e => hne (by grind)) n
  rw [Int.mul_pow, Int.mul_pow, Int.mul_pow] at b
  rw [Int.pow_succ (((n + 1 : Nat) : Int)) (n + 1), Int.pow_succ T (n + 1), Int.pow_succ (((n + 1 : Nat) : Int) + 1) (n + 1)] at b
  rw [Int.pow_succ (((n + 1 : Nat) : Int) + 1) (n + 1)]
  generalize (T + V) ^ (n + 1 + 1) = u at *
  generalize T ^ (n + 1) = t at *
  generalize (((n + 1 : Nat) : Int)) ^ (n + 1) = m at *
  generalize (((n + 1 : Nat) : Int) + 1) ^ (n + 1) = k at *
  have h : ((n + 1 : Nat) : Int) * ((k * (((n + 1 : Nat) : Int) + 1)) * (t * V)) < ((n + 1 : Nat) : Int) * (u * m) := by
    push_cast at *
    grind
  exact Int.lt_of_mul_lt_mul_left h (by omega)
theorem amgm (a : Nat) (ha : 0 < a) (U V : Int) (hU : 0 ≤ U) (hV : 0 ≤ V) : ∀ b : Nat, U ^ a * V ^ b * ((a + b : Nat) : Int) ^ (a + b) ≤ ((a : Int) * U + (b : Int) * V) ^ (a + b)
  | 0 => by
    have e : ((a : Int) * U + ((0 : Nat) : Int) * V) = (a : Int) * U := by grind
    rw [e, Int.mul_pow]
    simp [Int.mul_comm]
  | b + 1 => by
    have ih := amgm a ha U V hU hV b
    have hT : 0 ≤ (a : Int) * U + (b : Int) * V := Int.add_nonneg (Int.mul_nonneg (by omega) hU) (Int.mul_nonneg (by omega) hV)
    have st := mean_step (a + b) (by omega) ((a : Int) * U + (b : Int) * V) V hT hV
    have e : ((a : Int) * U + ((b + 1 : Nat) : Int) * V) = ((a : Int) * U + (b : Int) * V) + V := by push_cast; grind
    rw [e, show a + (b + 1) = (a + b) + 1 from rfl, show (((a + b) + 1 : Nat) : Int) = ((a + b : Nat) : Int) + 1 from rfl, Int.pow_succ V b]
    have hp : (0 : Int) < ((a + b : Nat) : Int) ^ (a + b) := Int.pow_pos (by omega)
    have h1 := Int.mul_le_mul_of_nonneg_right ih (Int.mul_nonneg hV (show (0 : Int) ≤ (((a + b : Nat) : Int) + 1) ^ (a + b + 1) from Int.pow_nonneg (by omega)))
    refine Int.le_of_mul_le_mul_right (a := ((a + b : Nat) : Int) ^ (a + b)) ?_ hp
    generalize ((a : Int) * U + (b : Int) * V) ^ (a + b) = t at *
    generalize ((a : Int) * U + (b : Int) * V + V) ^ (a + b + 1) = u at *
    generalize ((a + b : Nat) : Int) ^ (a + b) = m at *
    generalize (((a + b : Nat) : Int) + 1) ^ (a + b + 1) = k at *
    generalize U ^ a = x at *
    generalize V ^ b = y at *
    grind
theorem amgm_lt (a b : Nat) (ha : 0 < a) (hb : 0 < b) (U V : Int) (hU : 0 < U) (hV : 0 < V) (hne : U ≠ V) : U ^ a * V ^ b * ((a + b : Nat) : Int) ^ (a + b) < ((a : Int) * U + (b : Int) * V) ^ (a + b) := by
  obtain ⟨b, rfl⟩ : ∃ c, b = c + 1 := ⟨b - 1, by omega⟩
  have ih := amgm a ha U V (by omega) (by omega) b
  have hT : 0 < (a : Int) * U + (b : Int) * V := Int.add_pos_of_pos_of_nonneg (Int.mul_pos (by omega) hU) (Int.mul_nonneg (by omega) (by omega))
  have st := mean_step_lt (a + b) (by omega) ((a : Int) * U + (b : Int) * V) V hT (by omega) (fun e => hne (by
    have h : (a : Int) * U = (a : Int) * V := by push_cast at e; grind
    exact Int.eq_of_mul_eq_mul_left (by omega) h))
  have e : ((a : Int) * U + ((b + 1 : Nat) : Int) * V) = ((a : Int) * U + (b : Int) * V) + V := by push_cast; grind
  rw [e, show a + (b + 1) = (a + b) + 1 from rfl, show (((a + b) + 1 : Nat) : Int) = ((a + b : Nat) : Int) + 1 from rfl, Int.pow_succ V b]
  have hp : (0 : Int) < ((a + b : Nat) : Int) ^ (a + b) := Int.pow_pos (by omega)
  have h1 := Int.mul_le_mul_of_nonneg_right ih (Int.mul_nonneg (show 0 ≤ V by omega) (show (0 : Int) ≤ (((a + b : Nat) : Int) + 1) ^ (a + b + 1) from Int.pow_nonneg (by omega)))
  refine Int.lt_of_mul_lt_mul_right (a := ((a + b : Nat) : Int) ^ (a + b)) ?_ (by omega)
  generalize ((a : Int) * U + (b : Int) * V) ^ (a + b) = t at *
  generalize ((a : Int) * U + (b : Int) * V + V) ^ (a + b + 1) = u at *
  generalize ((a + b : Nat) : Int) ^ (a + b) = m at *
  generalize (((a + b : Nat) : Int) + 1) ^ (a + b + 1) = k at *
  generalize U ^ a = x at *
  generalize V ^ b = y at *
  grind
/-- two numbers, the first of which is the sum of n -/
theorem two (a b n : Nat) (ha : 0 < a) (hb : 0 < b) (hn : 0 < n) : (a + b) ^ (a + b) * n ^ a ≤ (n + 1) ^ (a + b) * (a ^ a * b ^ b) ∧ (a ≠ n * b → (a + b) ^ (a + b) * n ^ a < (n + 1) ^ (a + b) * (a ^ a * b ^ b)) := by
  have key : ∀ (x y : Nat), x = (n * b) ^ a * a ^ b * (a + b) ^ (a + b) → y = (a * (n * b) + b * a) ^ (a + b) → x = (b ^ a * a ^ b) * ((a + b) ^ (a + b) * n ^ a) ∧ y = (b ^ a * a ^ b) * ((n + 1) ^ (a + b) * (a ^ a * b ^ b)) := by
    rintro x y rfl rfl
    constructor
    · rw [Nat.mul_pow]
      generalize (a + b) ^ (a + b) = s
      generalize n ^ a = m
      generalize b ^ a = r
      generalize a ^ b = q
      grind
    · rw [show a * (n * b) + b * a = (n + 1) * (a * b) by grind, Nat.mul_pow, Nat.mul_pow, Nat.pow_add a a b, Nat.pow_add b a b]
      generalize (n + 1) ^ (a + b) = s
      generalize b ^ a = r
      generalize a ^ b = q
      generalize b ^ b = r2
      generalize a ^ a = q2
      grind
  have hpos : 0 < b ^ a * a ^ b := Nat.mul_pos (Nat.pow_pos hb) (Nat.pow_pos ha)
  obtain ⟨k1, k2⟩ := key _ _ rfl rfl
  constructor
  · have h := amgm a ha ((n * b : Nat) : Int) (a : Int) (by omega) (by omega) b
    have h' : (n * b) ^ a * a ^ b * (a + b) ^ (a + b) ≤ (a * (n * b) + b * a) ^ (a + b) := by exact_mod_cast h
    rw [k1, k2] at h'
    exact Nat.le_of_mul_le_mul_left h' hpos
  · intro hne
    have h := amgm_lt a b ha hb ((n * b : Nat) : Int) (a : Int) (by have := Nat.mul_pos hn hb; omega) (by omega) (fun e => hne (by omega))
    have h' : (n * b) ^ a * a ^ b * (a + b) ^ (a + b) < (a * (n * b) + b * a) ^ (a + b) := by exact_mod_cast h
    rw [k1, k2] at h'
    exact Nat.lt_of_mul_lt_mul_left h'
/-- the product of the powers -/
def prods : List Nat → Nat
  | [] => 1
  | x :: xs => x ^ x * prods xs
theorem prods_pos : ∀ xs : List Nat, 0 < prods xs
  | [] => by decide
  | x :: xs => Nat.mul_pos (by rcases Nat.eq_zero_or_pos x with h | h; · subst h; decide
                               · exact Nat.pow_pos h) (prods_pos xs)
theorem sum_pos {x : Nat} {xs : List Nat} (h : ∀ y ∈ x :: xs, 0 < y) : 0 < (x :: xs).sum := by
  rw [List.sum_cons]
  have := h x (by simp)
  omega
theorem most : ∀ (x : Nat) (xs : List Nat), (∀ y ∈ x :: xs, 0 < y) → (x :: xs).sum ^ (x :: xs).sum ≤ (xs.length + 1) ^ (x :: xs).sum * prods (x :: xs) ∧
    ((x :: xs).sum ^ (x :: xs).sum = (xs.length + 1) ^ (x :: xs).sum * prods (x :: xs) ↔ ∀ y ∈ xs, y = x)
  | x, [], h => by simp [prods]
  | x, y :: xs, h => by
    have hb : 0 < x := h x (by simp)
    have h' : ∀ z ∈ y :: xs, 0 < z := fun z hz => h z (List.mem_cons_of_mem _ hz)
    obtain ⟨i1, i2⟩ := most y xs h'
    have ha := sum_pos h'
    generalize hA : (y :: xs).sum = a at *
    generalize hn : xs.length + 1 = n at *
    have hn0 : 0 < n := by omega
    obtain ⟨t1, t2⟩ := two a x n ha hb hn0
    have es : (x :: y :: xs).sum = a + x := by rw [List.sum_cons, hA, Nat.add_comm]
    have el : (y :: xs).length + 1 = n + 1 := by rw [List.length_cons, hn]
    have ep : prods (x :: y :: xs) = x ^ x * prods (y :: xs) := rfl
    rw [es, el, ep]
    generalize hP : prods (y :: xs) = p at *
    have hpos : 0 < n ^ a := Nat.pow_pos hn0
    have hq : 0 < (n + 1) ^ (a + x) * x ^ x := Nat.mul_pos (Nat.pow_pos (by omega)) (Nat.pow_pos hb)
    have c1 : (n + 1) ^ (a + x) * (a ^ a * x ^ x) = ((n + 1) ^ (a + x) * x ^ x) * a ^ a := by
      generalize (n + 1) ^ (a + x) = s; generalize x ^ x = r; generalize a ^ a = q; grind
    have c2 : (n + 1) ^ (a + x) * (x ^ x * p) * n ^ a = ((n + 1) ^ (a + x) * x ^ x) * (n ^ a * p) := by
      generalize (n + 1) ^ (a + x) = s; generalize x ^ x = r; generalize n ^ a = q; grind
    rw [c1] at t1 t2
    have m1 := Nat.mul_le_mul_left ((n + 1) ^ (a + x) * x ^ x) i1
    have big : (a + x) ^ (a + x) * n ^ a ≤ (n + 1) ^ (a + x) * (x ^ x * p) * n ^ a := by
      rw [c2]
      exact Nat.le_trans t1 m1
    refine ⟨Nat.le_of_mul_le_mul_right big hpos, ?_⟩
    constructor
    · intro e
      have e' : (a + x) ^ (a + x) * n ^ a = ((n + 1) ^ (a + x) * x ^ x) * (n ^ a * p) := by rw [e, c2]
      have g1 : a = n * x := Classical.byContradiction fun hne => by
        have := t2 hne
        omega
      have g2 : a ^ a = n ^ a * p := by
        have : ((n + 1) ^ (a + x) * x ^ x) * (n ^ a * p) ≤ ((n + 1) ^ (a + x) * x ^ x) * a ^ a := by omega
        exact Nat.le_antisymm i1 (Nat.le_of_mul_le_mul_left this hq)
      have g3 := i2.mp g2
      have g4 : a = n * y := by rw [← hA, ← hn, all_sum y xs g3]
      have g5 : y = x := Nat.eq_of_mul_eq_mul_left hn0 (g4.symm.trans g1)
      intro z hz
      rcases List.mem_cons.mp hz with q | q
      · rw [q, g5]
      · rw [g3 z q, g5]
    · intro hall
      have e1 : y = x := hall y (by simp)
      subst e1
      have g3 : ∀ z ∈ xs, z = y := fun z hz => hall z (List.mem_cons_of_mem _ hz)
      have g2 := i2.mpr g3
      have g4 : a = n * y := by rw [← hA, ← hn, all_sum y xs g3]
      rw [g4, show n * y + y = (n + 1) * y by grind, Nat.mul_pow]
      have g5 : (n * y) ^ (n * y) = n ^ (n * y) * p := by rw [← g4]; exact g2
      rw [Nat.mul_pow] at g5
      have g6 : y ^ (n * y) = p := Nat.eq_of_mul_eq_mul_left (Nat.pow_pos hn0) g5
      rw [← g6, ← Nat.pow_add]
      congr 2
      grind
where
  all_sum : ∀ (y : Nat) (xs : List Nat), (∀ z ∈ xs, z = y) → (y :: xs).sum = (xs.length + 1) * y
  | y, [], _ => by simp
  | y, z :: xs, h => by
    have e : z = y := h z (by simp)
    subst e
    have ih := all_sum z xs fun w hw => h w (List.mem_cons_of_mem _ hw)
    rw [List.sum_cons, ih, List.length_cons]
    grind
theorem least_of (s : Nat) : ∀ xs : List Nat, (∀ y ∈ xs, 0 < y ∧ y ≤ s) → prods xs ≤ s ^ xs.sum ∧ ((∃ y ∈ xs, y < s) → prods xs < s ^ xs.sum)
  | [], _ => ⟨by simp [prods], fun ⟨_, h, _⟩ => nomatch h⟩
  | x :: xs, h => by
    obtain ⟨i1, i2⟩ := least_of s xs fun y hy => h y (List.mem_cons_of_mem _ hy)
    obtain ⟨x0, xs'⟩ := h x (by simp)
    have p1 : x ^ x ≤ s ^ x := Nat.pow_le_pow_left xs' x
    have p0 : 0 < x ^ x := Nat.pow_pos x0
    have ps : 0 < s ^ x := Nat.pow_pos (by omega)
    have q0 := prods_pos xs
    rw [List.sum_cons, Nat.pow_add]
    show x ^ x * prods xs ≤ s ^ x * s ^ xs.sum ∧ ((∃ y ∈ x :: xs, y < s) → x ^ x * prods xs < s ^ x * s ^ xs.sum)
    refine ⟨Nat.mul_le_mul p1 i1, ?_⟩
    rintro ⟨y, hy, hlt⟩
    rcases List.mem_cons.mp hy with e | hy
    · subst e
      have p2 : y ^ y < s ^ y := Nat.pow_lt_pow_left hlt (by omega)
      exact Nat.lt_of_lt_of_le (Nat.mul_lt_mul_of_pos_right p2 q0) (Nat.mul_le_mul_left _ i1)
    · have i3 := i2 ⟨y, hy, hlt⟩
      exact Nat.lt_of_le_of_lt (Nat.mul_le_mul_right _ p1) (Nat.mul_lt_mul_of_pos_left i3 ps)
theorem le_sum : ∀ {xs : List Nat} {y : Nat}, y ∈ xs → y ≤ xs.sum
  | x :: xs, y, h => by
    rw [List.sum_cons]
    rcases List.mem_cons.mp h with e | h
    · omega
    · have := le_sum h
      omega
theorem least (xs : List Nat) (h : ∀ y ∈ xs, 0 < y) (h0 : xs ≠ []) : prods xs ≤ xs.sum ^ xs.sum ∧ (prods xs = xs.sum ^ xs.sum ↔ xs.length = 1) := by
  obtain ⟨i1, i2⟩ := least_of xs.sum xs fun y hy => ⟨h y hy, le_sum hy⟩
  refine ⟨i1, fun e => ?_, fun e => ?_⟩
  · match xs, h0, h, i2, e with
    | [x], _, _, _, _ => rfl
    | x :: y :: xs, _, h, i2, e =>
      have h1 := h x (by simp)
      have h2 := h y (by simp)
      have := i2 ⟨x, by simp, by rw [List.sum_cons, List.sum_cons]; omega⟩
      omega
  · match xs, e with
    | [x], _ => simp [prods]
end Pw
namespace Lw
open PySem PySem.Spec PyProof.Rows L2
def topS (i : Nat) : Stmt := PySem.Challenge.pw_fewestpours_k14_whole_powers.main.body.getD i (.Pass ⟨0, 0, 0, 0⟩)
abbrev sDraw : Stmt := topS 5
abbrev sAny : Stmt := topS 6
abbrev sOf : Stmt := topS 7
theorem scDraw : FnScope ["script", "salt", "cell", "cells", "blend"] ["script", "salt"] (defScope sDraw) := ⟨rfl, rfl, rfl, by decide +kernel, rfl, by decide +kernel, by decide +kernel⟩
/-- what is told of the draws' source: its address, that of its great cells, these, and the blend -/
structure Deal (H : Hp) (p q : Addr) (cs : List Int) (b : Int) : Prop where
  top : H p = some (.lst [.ref q, .int b])
  low : H q = some (.lst (cs.map V.int))
  ne : p ≠ q
  b0 : 0 ≤ b
  c0 : ∀ c ∈ cs, 0 ≤ c
  len : cs.length ≤ 48
def spDraw (K : PySem.W.Frag) : Sp := fun vs H Q _ => ∃ (a : Addr) (ns : List Int) (salt : Int), vs = [.ref a, .int salt] ∧ SqL K H a (ns.map V.int) ∧ 0 ≤ salt ∧ salt ≤ 1000 ∧
  ∀ H' p q cs b, Same H H' → H p = none → H q = none → Deal H' p q cs b → Q (.ref p) H'
theorem same_new {H : Hp} {p : Addr} {o : HO} (h : H p = none) : Same H (upd H p o) := fun b x e => by
  rw [upd_ne (ne_of_none e h)]
  exact e
theorem same_mut {H H' : Hp} {p : Addr} {o : HO} (e : Same H H') (h : H p = none) : Same H (upd H' p o) := fun a u ha => by
  rw [upd_ne (ne_of_none ha h)]
  exact e a u ha
theorem free_back {H H' : Hp} {p : Addr} (e : Same H H') (h : H' p = none) : H p = none := by
  cases h1 : H p with
  | none => rfl
  | some o =>
    rw [e p o h1] at h
    cases h
theorem sq_at {K : PySem.W.Frag} {H : Hp} {a : Addr} {xs : List V} (h : H a = some (.lst xs)) : SqL K H a xs := .inl (.inl h)
theorem st_at {K : PySem.W.Frag} {H : Hp} {a : Addr} {xs : List V} (h : H a = some (.tup xs)) : SqT K H a xs := .inl (.inl h)
theorem cut_to (ns : List Int) : cutV (ns.map V.int) none (some 48) = (ns.take 48).map V.int := by
  unfold cutV
  rw [show HT.sIx (ns.map V.int).length 0 none = 0 from rfl, show HT.sIx (ns.map V.int).length (ns.map V.int).length (some 48) = min 48 (ns.map V.int).length from HT.sIx_nat _ _ 48]
  rw [List.drop_zero, Nat.sub_zero, List.map_take]
  by_cases h : 48 ≤ (ns.map V.int).length
  · rw [Nat.min_eq_left h]
  · rw [Nat.min_eq_right (by omega), List.take_length, List.take_of_length_le (by omega)]
theorem int_at {ns : List Int} {i : Nat} {x : V} (h : (ns.map V.int)[i]? = some x) : ∃ z, ns[i]? = some z ∧ x = .int z := by
  rw [List.getElem?_map] at h
  cases e : ns[i]? with
  | none => rw [e] at h; cases h
  | some z =>
    rw [e] at h
    exact ⟨z, rfl, (Option.some.inj h).symm⟩
theorem take_step {ks : List Int} {i : Nat} {z : Int} (h : ks[i]? = some z) : ks.take (i + 1) = ks.take i ++ [z] := by
  rw [List.take_add_one, h]
  rfl
theorem tt_yes {C A : Hp → Prop} {σ : L2.St} {H : Hp} (h : A H) : tYes σ H fun b H3 => if b = true then A H3 else C H3 := by
  show (if true = true then A H else C H)
  rw [if_pos rfl]
  exact h
theorem abs_is (z : Int) : (if z < 0 then -z else z) = ((z.natAbs : Nat) : Int) := by split <;> omega
section
variable {P : Program} {w : World} {K : PySem.W.Frag} {mg : Str → Option Value} {base : Heap}
theorem ok_draw {f : Addr} {fd : FuncData} {k : Nat} (F : Fun K "_law_draw" "_law_draw" sDraw f fd) (mabs : mg "abs" = none) (mint : mg "int" = none) : FnOk P w K mg base CX0 (k + 1) f fd ["script", "salt"] (spDraw K) := by
  refine F.ok scDraw (fun vs H Q E h => ?_) (fun cdv A outer s H vs Q E hr h => ?_)
  · obtain ⟨a, ns, salt, rfl, _⟩ := h
    rfl
  · obtain ⟨a, ns, salt, rfl, hS, hs0, hs1, q⟩ := h
    refine ⟨_, pss_cons (ps_setLc (i := 3) (own := [("cell", 2)]) (g := gName 2) (tt := tYes) rfl scDraw.nd rfl rfl (sw_true rfl rfl rfl (by decide +kernel))
        (pi_list (pe_slice sl_list (pv 0) po_none (po_some pe_int))) (blkOk_by (N := ["script", "salt", "cell", "cells", "blend"]) (sc := defScope sDraw) (by decide +kernel))
        (fun _ _ _ _ _ => pg_name (i := 2) scDraw.nd rfl (Or.inl rfl)) (fun _ _ _ _ _ => pts_nil)
        (fun _ _ _ _ _ => pe_callB call_abs (by rfl) mabs (by decide +kernel) (pa_cons (pe_callTy call_int1 (by rfl) mint (by decide +kernel) (pa_cons (pv 2) pa_nil)) pa_nil)))
      (pss_cons (ps_set (i := 4) scDraw.nd rfl (.inl rfl) (pe_op op_add pe_int (pe_op op_mul pe_int (pv 1))))
      (pss_cons (ps_for PassesOwn.never rfl (pi_list (pv 3)) (pg_name (i := 2) scDraw.nd rfl (.inl rfl))
        (pss_one (ps_set (i := 4) scDraw.nd rfl (.inl rfl) (pe_op op_mod (pe_callTy call_int1 (by rfl) mint (by decide +kernel) (pa_cons (pe_op op_add (pe_op op_add (pe_op op_mul (pv 4) pe_int) (pe_op op_mod (pv 2) pe_int)) pe_int) pa_nil)) pe_int))))
      (pss_one (ps_ret (pe_lst (pa_cons (pe_revL (pe_lc (own := [("cell", 2)]) (g := gName 2) rfl scDraw.nd (pi_list (pv 3)) (blkOk_by (N := ["script", "salt", "cell", "cells", "blend"]) (sc := defScope sDraw) (by decide +kernel))
        (fun _ _ _ _ _ => pg_name (i := 2) scDraw.nd rfl (Or.inl rfl)) (fun _ _ _ _ _ => pts_one (pt_cmpR op_ge (pv 2) (pe_op op_pow pe_int pe_int) (nomark _))) (fun _ _ _ _ _ => pv 2)))
        (pa_cons (pv 4) pa_nil))))))), ?_⟩
    -- cells = [abs(int(cell)) for cell in script[:48]]
    refine ⟨.ref a, rfl, 48, rfl, a, ns.map V.int, rfl, hS, fun c nc => ?_⟩
    rw [cut_to]
    have s1 : Same H (upd H c (.lst ((ns.take 48).map V.int))) := same_new nc
    generalize hms : ns.take 48 = ms at s1 ⊢
    have lms : ms.length ≤ 48 := by rw [← hms, List.length_take]; omega
    generalize hks : (ms.map fun z => ((z.natAbs : Nat) : Int)) = ks
    have lks : ks.length ≤ 48 := by rw [← hks, List.length_map]; exact lms
    have pks : ∀ z ∈ ks, 0 ≤ z := fun z hz => by
      rw [← hks] at hz
      obtain ⟨y, _, rfl⟩ := List.mem_map.mp hz
      omega
    refine ⟨c, rfl, ⟨_, sq_at upd_same⟩, fun D nD => lc_list (xs := ms.map V.int) (fun i H2 => Same (upd H c (.lst (ms.map V.int))) H2 ∧ H2 D = some (.lst ((ks.take i).map V.int)))
      ⟨same_new nD, upd_same⟩ (fun i H2 _ h2 => h2.1.seq (sq_at upd_same)) ?_ ?_⟩
    · rintro i x H2 hx ⟨s2, hD⟩
      obtain ⟨z, hz, rfl⟩ := int_at hx
      refine ⟨rfl, tt_yes ?_⟩
      refine ⟨_, rfl, .inl ⟨z, rfl, z, rfl, _, hD, ?_, same_mut s2 nD, ?_⟩⟩
      · rw [List.length_map, List.length_take]
        exact small1000 (by omega)
      · rw [upd_same, take_step (z := ((z.natAbs : Nat) : Int)) (by rw [← hks, List.getElem?_map, hz]; rfl), List.map_append, abs_is]
        rfl
    rintro H2 ⟨s2, hD⟩
    rw [show (ms.map V.int).length = ks.length by rw [← hks, List.length_map, List.length_map], List.take_length] at hD
    have fD : H D = none := free_back s1 nD
    -- blend = 7919 + 104729 * salt
    refine ⟨_, rfl, _, _, rfl, rfl, .inl ⟨by decide, by decide⟩, _, _, rfl, rfl, ?_⟩
    -- for cell in cells
    have sD : Same H H2 := s1.trans s2
    refine ⟨_, rfl, D, rfl, ⟨_, sq_at hD⟩, for_list (K := K) (a := D) (xs := ks.map V.int) (fun i σ H3 => ∃ (v : Option V) (b : Int), σ = [some (.ref a), some (.int salt), v, some (.ref D), some (.int b)] ∧ 0 ≤ b ∧ b < 2 ^ 40 ∧ H3 = H2)
      ⟨none, _, rfl, by omega, by omega, rfl⟩ (fun i σ H3 _ ⟨_, _, _, _, _, e⟩ => e ▸ sq_at hD) ?_ ?_⟩
    · rintro i x σ H3 hx ⟨v, b, rfl, b0, b1, rfl⟩
      obtain ⟨z, hz, rfl⟩ := int_at hx
      refine ⟨_, rfl, _, _, rfl, rfl, .inr ⟨by decide, by decide⟩, _, rfl, _, _, rfl, rfl, (by show (0 : Int) < 2147483549; decide), _, _, rfl, rfl, _, _, rfl, rfl, .inl ⟨_, rfl, _, _, rfl, rfl, (by show (0 : Int) < 2147483647; decide), _, _, rfl, ?_, ?_, rfl⟩⟩
      · exact Int.emod_nonneg _ (by decide)
      · exact Int.lt_trans (Int.emod_lt_of_pos _ (by decide)) (by decide)
    rintro σ H3 ⟨v, b, rfl, b0, b1, rfl⟩
    -- [[cell for cell in cells if cell >= 10 ** 18][::-1], blend]
    refine ⟨_, rfl, D, rfl, ⟨_, sq_at hD⟩, fun G nG => lc_list (xs := ks.map V.int) (fun i H4 => Same H3 H4 ∧ ∃ cs : List Int, H4 G = some (.lst (cs.map V.int)) ∧ cs.length ≤ i ∧ ∀ z ∈ cs, 0 ≤ z)
      ⟨same_new nG, [], upd_same, Nat.le_refl _, fun z hz => nomatch hz⟩ (fun i H4 _ h4 => h4.1.seq (sq_at hD)) ?_ ?_⟩
    · rintro i x H4 hx ⟨s4, cs, hG, lc, pc⟩
      have hi := (List.getElem?_eq_some_iff.mp hx).1
      rw [List.length_map] at hi
      obtain ⟨z, hz, rfl⟩ := int_at hx
      refine ⟨rfl, _, rfl, _, _, rfl, rfl, ⟨by decide, by decide, by decide⟩, _, _, rfl, rfl, _, rfl, ?_⟩
      refine ite2 (fun _ => ?_) (fun _ => ?_)
      · refine ⟨_, rfl, _, hG, ?_, same_mut s4 nG, cs ++ [z], ?_, ?_, ?_⟩
        · rw [List.length_map]
          exact small1000 (by omega)
        · rw [upd_same, List.map_append]
          rfl
        · rw [List.length_append]
          show cs.length + 1 ≤ i + 1
          omega
        · intro y hy
          rcases List.mem_append.mp hy with h | h
          · exact pc y h
          · rw [List.mem_singleton.mp h]
            exact pks z (List.mem_of_getElem? hz)
      · exact ⟨s4, cs, hG, by omega, pc⟩
    rintro H4 ⟨s4, cs, hG, lc, pc⟩
    rw [List.length_map] at lc
    have fG : H3 G = none := nG
    refine ⟨G, _, rfl, sq_at hG, fun q1 nq => ?_⟩
    refine ⟨_, rfl, by show 2 ≤ sizeLine; decide, fun p np => ?_⟩
    have nq1 : H4 q1 = none := nq
    have np1 : H4 p = none := free_back (same_new nq1) np
    have npq : p ≠ q1 := fun e => by
      rw [e, upd_same] at np
      cases np
    have s5 : Same H H4 := sD.trans s4
    refine q _ p q1 cs.reverse b ((s5.trans (same_new nq1)).trans (same_new np)) (free_back s5 np1) (free_back s5 nq1) ⟨upd_same, ?_, npq, b0, fun c hc => pc c (List.mem_reverse.mp hc), by rw [List.length_reverse]; omega⟩
    rw [upd_ne npq.symm, upd_same, List.map_reverse]

/-- all but two places stay -/
def But (p q : Addr) (H H' : Hp) : Prop := ∀ x o, x ≠ p → x ≠ q → H x = some o → H' x = some o
theorem But.refl {p q : Addr} {H : Hp} : But p q H H := fun _ _ _ _ h => h
theorem But.trans {p q : Addr} {H H1 H2 : Hp} (a : But p q H H1) (b : But p q H1 H2) : But p q H H2 := fun x o h1 h2 h => b x o h1 h2 (a x o h1 h2 h)
theorem But.of {p q : Addr} {H H' : Hp} (s : Same H H') : But p q H H' := fun x o _ _ h => s x o h
theorem But.top {p q : Addr} {H : Hp} {o : HO} : But p q H (upd H p o) := fun x u h1 _ h => by
  rw [upd_ne h1]
  exact h
theorem But.low {p q : Addr} {H : Hp} {o : HO} : But p q H (upd H q o) := fun x u _ h1 h => by
  rw [upd_ne h1]
  exact h
theorem dp_all {K : PySem.W.Frag} {H : Hp} : ∀ cs : List Int, DpAll K H (cs.map V.int) (cs.map PyData.int)
  | [] => .nil
  | c :: cs => .cons (.int c) (dp_all cs)
def spAny : Sp := fun vs H Q _ => ∃ (p q : Addr) (cs : List Int) (b n : Int), vs = [.ref p, .int n] ∧ Deal H p q cs b ∧ 0 < n ∧ n < 2 ^ 64 ∧
  ∀ H' r cs' b', Deal H' p q cs' b' → But p q H H' → 0 ≤ r → r < n → Q (.int r) H'
theorem scAny : FnScope ["deal", "bound", "rest"] ["deal", "bound"] (defScope sAny) := ⟨rfl, rfl, rfl, by decide +kernel, rfl, by decide +kernel, by decide +kernel⟩
theorem dp_ints {K : PySem.W.Frag} {H : Hp} {q : Addr} {cs : List Int} (h : H q = some (.lst (cs.map V.int))) : Dp K H (.ref q) (.list (cs.map PyData.int)) := .lst (sq_at h) (dp_all cs)
theorem shaped_ints (cs : List Int) : SeqAt.shaped (.list (cs.map PyData.int)) = true := by
  have h1 : ∀ cs : List Int, PyData.canLayAll0 (cs.map PyData.int) = true := fun cs => by
    induction cs with
    | nil => rfl
    | cons c cs ih => simp [PyData.canLayAll0, PyData.canLay0, ih]
  have h2 : ∀ cs : List Int, PyData.depthAll (cs.map PyData.int) = 0 := fun cs => by
    induction cs with
    | nil => rfl
    | cons c cs ih => simp [PyData.depthAll, PyData.depth, ih]
  unfold SeqAt.shaped
  simp [PyData.canLay0, PyData.depth, h1, h2]
theorem eqv_nil (cs : List Int) : PyData.eqv (.list (cs.map PyData.int)) (.list []) = cs.isEmpty := by
  cases cs with
  | nil => rfl
  | cons c cs => rfl
theorem Deal.keep {H H' : Hp} {p q : Addr} {cs : List Int} {b : Int} (D : Deal H p q cs b) (s : Same H H') : Deal H' p q cs b := ⟨s _ _ D.top, s _ _ D.low, D.ne, D.b0, D.c0, D.len⟩
theorem Deal.setLow {H : Hp} {p q : Addr} {cs ds : List Int} {b : Int} (D : Deal H p q cs b) (h : ∀ c ∈ ds, 0 ≤ c) (l : ds.length ≤ 48) : Deal (upd H q (.lst (ds.map V.int))) p q ds b :=
  ⟨by rw [upd_ne D.ne]; exact D.top, upd_same, D.ne, D.b0, h, l⟩
theorem Deal.setTop {H : Hp} {p q : Addr} {cs : List Int} {b b' : Int} (D : Deal H p q cs b) (h : 0 ≤ b') : Deal (upd H p (.lst [.ref q, .int b'])) p q cs b' :=
  ⟨upd_same, by rw [upd_ne D.ne.symm]; exact D.low, D.ne, h, D.c0, D.len⟩
theorem rd_left {K : PySem.W.Frag} {σ : L2.St} {H : Hp} {p q : Addr} {cs : List Int} {b : Int} {Q : VK} (D : Deal H p q cs b) (h0 : σ[0]? = some (some (.ref p))) (h : Q (.ref q) H) : tOp (rIxL K) (tVar 0) (tC (.int 0)) σ H Q :=
  ⟨_, h0, p, _, 0, .ref q, rfl, rfl, sq_at D.top, atI_nat (j := 0) rfl, h⟩
theorem rd_right {K : PySem.W.Frag} {σ : L2.St} {H : Hp} {p q : Addr} {cs : List Int} {b : Int} {Q : VK} (D : Deal H p q cs b) (h0 : σ[0]? = some (some (.ref p))) (h : Q (.int b) H) : tOp (rIxL K) (tVar 0) (tC (.int 1)) σ H Q :=
  ⟨_, h0, p, _, 1, .int b, rfl, rfl, sq_at D.top, atI_nat (j := 1) rfl, h⟩
theorem rd_any {K : PySem.W.Frag} {σ : L2.St} {H : Hp} {p q : Addr} {cs : List Int} {b : Int} {Q : Bool → Hp → Prop} (D : Deal H p q cs b) (h0 : σ[0]? = some (some (.ref p))) (h : ∀ t, H t = none → Q (!cs.isEmpty) (upd H t (.lst []))) :
    tTest (tOp (rNeD K) (tOp (rIxL K) (tVar 0) (tC (.int 0))) (tLst tNil)) σ H Q := by
  refine rd_left D h0 ?_
  refine ⟨Nat.zero_le _, fun t nt => ?_⟩
  refine ⟨.list (cs.map PyData.int), .list [], dp_ints ((same_new nt) _ _ D.low), .lst (sq_at upd_same) .nil, shaped_ints cs, by decide, _, rfl, ?_⟩
  rw [eqv_nil]
  exact h t nt
theorem ok_any {f : Addr} {fd : FuncData} {k : Nat} (F : Fun K "_law_any" "_law_any" sAny f fd) (mint : mg "int" = none) : FnOk P w K mg base CX0 (k + 1) f fd ["deal", "bound"] spAny := by
  refine F.ok scAny (fun vs H Q E h => ?_) (fun cdv A outer s H vs Q E hr h => ?_)
  · obtain ⟨p, q, cs, b, n, rfl, _⟩ := h
    rfl
  · obtain ⟨p, q, cs, b, n, rfl, D, n0, n1, k⟩ := h
    have hu := hr.units
    refine ⟨_, pss_cons (ps_while PassesOwn.never (PW.pt (pw_and (pt_cmpR (op_neD hu) (pe_ix ix_list (pv 0) pe_int (fun _ _ => rfl)) (pe_lst pa_nil) (nomark _))
          (pw_and1 (pt_cmpR op_eq (pe_ix ix_list (pe_ix ix_list (pv 0) pe_int (fun _ _ => rfl)) (pe_un un_neg pe_int) (fun _ _ => rfl)) pe_int (nomark _)))))
        (pss_one (ps_expr (pe_bm0 PySem.F.plainAttrs_list PySem.F.slot_list_pop PySem.F.type_list_pop mt_pop (pe_ix ix_list (pv 0) pe_int (fun _ _ => rfl))))))
      (pss_cons (ps_if (pt_cmpR (op_neD hu) (pe_ix ix_list (pv 0) pe_int (fun _ _ => rfl)) (pe_lst pa_nil) (nomark _))
        (pss_cons (ps_set (i := 2) scAny.nd rfl (.inl rfl) (pe_callTy call_int1 (by rfl) mint (by decide +kernel) (pa_cons (pe_bm0 PySem.F.plainAttrs_list PySem.F.slot_list_pop PySem.F.type_list_pop mt_pop (pe_ix ix_list (pv 0) pe_int (fun _ _ => rfl))) pa_nil)))
          (pss_cons (ps_expr (pe_bm PySem.F.plainAttrs_list PySem.F.slot_list_append PySem.F.type_list_append mt_append (pe_ix ix_list (pv 0) pe_int (fun _ _ => rfl)) (pa_cons (pe_op op_fdivW (pv 2) (pv 1)) pa_nil)))
          (pss_one (ps_ret (pe_op op_mod (pv 2) (pv 1)))))) pss_nil)
      (pss_cons (ps_asg (pe_op op_mod (pe_callTy call_int1 (by rfl) mint (by decide +kernel) (pa_cons (pe_op op_add (pe_op op_mul (pe_ix ix_list (pv 0) pe_int (fun _ _ => rfl)) pe_int) pe_int) pa_nil)) pe_int) (pg_sub (pv 0) pe_int set_list))
      (pss_one (ps_ret (pe_op op_mod (pe_callTy call_int1 (by rfl) mint (by decide +kernel) (pa_cons (pe_op op_fdiv (pe_ix ix_list (pv 0) pe_int (fun _ _ => rfl)) pe_int) pa_nil)) (pv 1)))))), ?_⟩
    refine ⟨fun m σ H1 => ∃ ds, σ = [some (.ref p), some (.int n), none] ∧ Deal H1 p q ds b ∧ But p q H H1 ∧ m = ds.length, ⟨_, cs, rfl, D, .refl, rfl⟩, ?_⟩
    rintro m σ H1 ⟨ds, rfl, D1, f1, rfl⟩
    refine rd_any D1 rfl fun t nt => ?_
    have D2 := D1.keep (same_new (o := .lst []) nt)
    have f2 : But p q H _ := f1.trans (.of (same_new (o := .lst []) nt))
    generalize upd H1 t (.lst []) = H2 at D2 f2
    clear nt D1 f1 H1
    have pops : ∀ (es : List Int) (z : Int), ds = es ++ [z] → (∀ c ∈ es, 0 ≤ c) ∧ 0 ≤ z ∧ es.length + 1 = ds.length ∧ (ds.map V.int)[(ds.map V.int).length - 1]? = some (.int z) ∧ (ds.map V.int).dropLast = es.map V.int := by
      rintro es z rfl
      refine ⟨fun c hc => D2.c0 c (List.mem_append_left _ hc), D2.c0 z (by simp), by simp, ?_, ?_⟩
      · simp
      · simp
    refine ite2 (fun hne => ?_) (fun hem => ?_)
    · -- there are great cells: is the last one 0
      obtain ⟨es, z, e⟩ : ∃ es z, ds = es ++ [z] := by
        refine ⟨ds.dropLast, ds.getLast (by rintro rfl; exact Bool.noConfusion hne), ?_⟩
        rw [List.dropLast_concat_getLast]
      obtain ⟨p1, p2, p3, p4, p5⟩ := pops es z e
      refine rd_left D2 rfl ?_
      refine ⟨1, rfl, q, _, -1, .int z, rfl, rfl, sq_at D2.low, by rw [e, List.map_append]; exact atI_last _ _, rfl, _, rfl, ?_⟩
      refine ite2 (fun hz => ?_) (fun hz => ?_)
      · -- deal[0].pop()
        refine ⟨fun σ H1 => ∃ ds', σ = [some (.ref p), some (.int n), none] ∧ Deal H1 p q ds' b ∧ But p q H H1 ∧ ds'.length < ds.length, fun σ' H' ⟨ds', a1, a2, a3, a4⟩ => ⟨_, a4, ds', a1, a2, a3, rfl⟩, ?_⟩
        refine rd_left D2 rfl ?_
        refine ⟨.inl ⟨rfl, _, sq_at D2.low⟩, q, _, .int z, rfl, rfl, D2.low, p4, ?_⟩
        rw [p5]
        exact ⟨es, rfl, D2.setLow p1 (by have := D2.len; omega), f2.trans .low, by omega⟩
      · refine rd_any D2 rfl fun t nt => ?_
        have D3 := D2.keep (same_new (o := .lst []) nt)
        have f3 : But p q H _ := f2.trans (.of (same_new (o := .lst []) nt))
        generalize upd H2 t (.lst []) = H3 at D3 f3
        refine ite2 (fun _ => ?_) (fun h => absurd hne h)
        -- rest = int(deal[0].pop())
        refine rd_left D3 rfl ?_
        refine ⟨.inl ⟨rfl, _, sq_at D3.low⟩, q, _, .int z, rfl, rfl, D3.low, p4, .inl ⟨z, rfl, ?_⟩⟩
        rw [p5]
        have D4 := D3.setLow p1 (by have := D3.len; omega)
        have f4 : But p q H _ := f3.trans (But.low (o := .lst (es.map V.int)))
        generalize upd H3 q (.lst (es.map V.int)) = H4 at D4 f4
        -- deal[0].append(rest // bound)
        refine rd_left D4 rfl ?_
        refine ⟨.inl ⟨rfl, _, sq_at D4.low⟩, _, rfl, _, rfl, _, _, rfl, rfl, wide_div n0 (b := 64) (by omega) (by decide) (by decide), q, _, _, rfl, rfl, D4.low, ?_, ?_⟩
        · rw [List.length_map]
          exact small1000 (by have := D3.len; omega)
        · refine ⟨_, rfl, _, rfl, _, _, rfl, rfl, n0, ?_⟩
          have ee : es.map V.int ++ [V.int (z / n)] = (es ++ [z / n]).map V.int := by rw [List.map_append]; rfl
          rw [ee]
          refine k _ _ _ _ (D4.setLow (ds := es ++ [z / n]) (fun c hc => ?_) (by rw [List.length_append]; have := D3.len; show es.length + 1 ≤ 48; omega)) (f4.trans .low) (Int.emod_nonneg _ (by omega)) (Int.emod_lt_of_pos _ n0)
          rcases List.mem_append.mp hc with h | h
          · exact p1 c h
          · rw [List.mem_singleton.mp h]
            exact Int.ediv_nonneg p2 (by omega)
    · -- there are none
      refine rd_any D2 rfl fun t nt => ?_
      have D3 := D2.keep (same_new (o := .lst []) nt)
      have f3 : But p q H _ := f2.trans (.of (same_new (o := .lst []) nt))
      generalize upd H2 t (.lst []) = H3 at D3 f3
      refine ite2 (fun h => absurd h hem) (fun _ => ?_)
      -- deal[1] = ..
      refine rd_right D3 rfl ?_
      refine ⟨_, _, rfl, rfl, .inr ⟨by decide, by decide⟩, _, _, rfl, rfl, .inl ⟨_, rfl, _, _, rfl, rfl, (by show (0 : Int) < 2147483647; decide), ?_⟩⟩
      have b1 : 0 ≤ (b * 40693 + 71) % 2147483647 := Int.emod_nonneg _ (by decide)
      refine ⟨_, rfl, p, _, 1, 1, rfl, rfl, D3.top, rfl, ?_⟩
      have D4 := D3.setTop b1
      refine rd_right D4 rfl ?_
      refine ⟨_, _, rfl, rfl, ⟨by decide, by decide⟩, .inl ⟨_, rfl, _, rfl, _, _, rfl, rfl, n0, ?_⟩⟩
      exact k _ _ _ _ D4 (f3.trans .top) (Int.emod_nonneg _ (by omega)) (Int.emod_lt_of_pos _ n0)
end
end Lw
namespace Lw
open PySem PySem.Spec PyProof.Rows L2
theorem But.seq {K : PySem.W.Frag} {H H' : Hp} {p q a : Addr} {xs : List V} (e : But p q H H') (hp : a ≠ p) (hq : a ≠ q) (h : SqL K H a xs) : SqL K H' a xs := by
  rcases h with (h | ⟨o, h⟩) | h
  · exact .inl (.inl (e a _ hp hq h))
  · exact .inl (.inr ⟨o, e a _ hp hq h⟩)
  · exact .inr h
abbrev sRaised : Stmt := topS 1
abbrev sPower : Stmt := topS 2
abbrev sPsi : Stmt := topS 3
abbrev sLpow : Stmt := topS 8
abbrev sLpsi : Stmt := topS 9
section
variable {P : Program} {w : World} {K : PySem.W.Frag} {mg : Str → Option Value} {base : Heap}
/-! ### some[_law_any(deal, len(some))] -/
theorem scOf : FnScope ["deal", "some"] ["deal", "some"] (defScope sOf) := ⟨rfl, rfl, rfl, by decide +kernel, rfl, by decide +kernel, by decide +kernel⟩
def spOf (K : PySem.W.Frag) : Sp := fun vs H Q _ => ∃ (p q l : Addr) (cs : List Int) (b : Int) (xs : List V), vs = [.ref p, .ref l] ∧ Deal H p q cs b ∧ SqL K H l xs ∧ l ≠ p ∧ l ≠ q ∧ xs ≠ [] ∧ xs.length ≤ 1000 ∧
  ∀ (H' : Hp) (v : V) (i : Nat) (cs' : List Int) (b' : Int), Deal H' p q cs' b' → But p q H H' → xs[i]? = some v → Q v H'
theorem ok_of {f fA : Addr} {fd fdA : FuncData} {k : Nat} (F : Fun K "_law_of" "_law_of" sOf f fd) (G : FnOk P w K mg base CX0 (k + 1) fA fdA ["deal", "bound"] spAny) (bA : Binds K fdA ["deal", "bound"] []) (kA : PySem.W.keepIn K (.ref fA) = true) (gA : mg "_law_any" = some (.ref fA)) (mlen : mg "len" = none) : FnOk P w K mg base CX0 (k + 1 + 1) f fd ["deal", "some"] (spOf K) := by
  refine F.ok scOf (fun vs H Q E h => ?_) (fun cdv A outer s H vs Q E hr h => ?_)
  · obtain ⟨p, q, l, cs, b, xs, rfl, _⟩ := h
    rfl
  · obtain ⟨p, q, l, cs, b, xs, rfl, D, hl, np, nq, h0, hlen, k⟩ := h
    refine ⟨_, pss_one (ps_ret (pe_ix ix_list (pv 1) (pe_call G hr (by rfl) gA kA bA .nil pass0 (pa_cons (pv 0) (pa_cons (pe_callB call_len_seq (by rfl) mlen PySem.boot_len (pa_cons (pv 1) pa_nil)) pa_nil))) (fun _ _ => rfl))), ?_⟩
    have hpos : 0 < xs.length := List.length_pos_iff.mpr h0
    refine ⟨_, rfl, _, rfl, _, rfl, l, xs, rfl, .inl hl, p, q, cs, b, _, rfl, D, by omega, by omega, fun H' r cs' b' D' f' r0 r1 => ?_⟩
    obtain ⟨i, rfl⟩ : ∃ i : Nat, r = (i : Int) := ⟨r.toNat, by omega⟩
    have hi : i < xs.length := by omega
    exact ⟨l, xs, _, xs[i], rfl, rfl, f'.seq np nq hl, atI_nat (List.getElem?_eq_getElem hi), k H' _ i cs' b' D' f' (List.getElem?_eq_getElem hi)⟩
/-! ### powers by squares -/
theorem scRaised : FnScope ["base", "times", "product", "factor", "left"] ["base", "times"] (defScope sRaised) := ⟨rfl, rfl, rfl, by decide +kernel, rfl, by decide +kernel, by decide +kernel⟩
def spRaised : Sp := fun vs H Q _ => ∃ (B T : Nat), vs = [.int (B : Int), .int (T : Int)] ∧ B < 2 ^ 16 ∧ T ≤ 4000 ∧ Q (.int ((B ^ T : Nat) : Int)) H
set_option exponentiation.threshold 100000 in
theorem pow_bits {B e : Nat} (hB : B < 2 ^ 16) (he : e ≤ 4000) : (((B ^ e : Nat) : Int)).natAbs < 2 ^ 64001 := by
  rw [Int.natAbs_natCast]
  refine Nat.lt_of_le_of_lt (Nat.pow_le_pow_left (Nat.le_of_lt hB) e) ?_
  rw [← Nat.pow_mul]
  exact Nat.pow_lt_pow_right (by decide) (by omega)
theorem ok_raised {f : Addr} {fd : FuncData} {k : Nat} (F : Fun K "raised" "raised" sRaised f fd) : FnOk P w K mg base CX0 (k + 1) f fd ["base", "times"] spRaised := by
  refine F.ok scRaised (fun vs H Q E h => ?_) (fun cdv A outer s H vs Q E hr h => ?_)
  · obtain ⟨B, T, rfl, _⟩ := h
    rfl
  · obtain ⟨B, T, rfl, hB, hT, q⟩ := h
    refine ⟨_, pss_cons (ps_set (i := 2) scRaised.nd rfl (.inl rfl) pe_int)
      (pss_cons (ps_set (i := 3) scRaised.nd rfl (.inl rfl) (pv 0))
      (pss_cons (ps_set (i := 4) scRaised.nd rfl (.inl rfl) (pv 1))
      (pss_cons (ps_while PassesOwn.never (pt_cmpR op_gt (pv 4) pe_int (nomark _))
        (Evl.pss_cut (ps_if (pt_cmpR op_eq (pe_op op_mod (pv 4) pe_int) pe_int (nomark _)) (pss_one (ps_set (i := 2) scRaised.nd rfl (.inl rfl) (pe_op op_mulW (pv 2) (pv 3)))) pss_nil)
        (pss_cons (ps_set (i := 4) scRaised.nd rfl (.inl rfl) (pe_op op_fdiv (pv 4) pe_int))
        (pss_one (ps_if (pt_cmpR op_gt (pv 4) pe_int (nomark _)) (pss_one (ps_set (i := 3) scRaised.nd rfl (.inl rfl) (pe_op op_mulW (pv 3) (pv 3)))) pss_nil)))))
      (pss_one (ps_ret (pv 2)))))), ?_⟩
    refine ⟨_, rfl, _, rfl, ?_⟩
    refine ⟨fun m σ H1 => ∃ d e : Nat, σ = [some (.int (B : Int)), some (.int (T : Int)), some (.int ((B ^ d : Nat) : Int)), some (.int ((B ^ e : Nat) : Int)), some (.int (m : Int))] ∧ d + e * m = T ∧ H1 = H, ⟨T, 0, 1, by simp [L2.start], by omega, rfl⟩, ?_⟩
    rintro m σ H1 ⟨d, e, rfl, hde, eH⟩
    subst eH
    refine ⟨_, rfl, _, _, rfl, rfl, _, rfl, ite2 (fun h => ?_) (fun h => ?_)⟩
    · have hm : 0 < m := by have := of_decide_eq_true h; omega
      have he : e ≤ 4000 := by
        have : e * 1 ≤ e * m := Nat.mul_le_mul_left e hm
        omega
      have hd : d ≤ 4000 := by omega
      refine ⟨fun σ H2 => ∃ d e m' : Nat, σ = [some (.int (B : Int)), some (.int (T : Int)), some (.int ((B ^ d : Nat) : Int)), some (.int ((B ^ e : Nat) : Int)), some (.int (m' : Int))] ∧ d + e * m' = T ∧ H2 = H1 ∧ m' < m, fun σ' H' ⟨d, e, m', a1, a2, a3, a4⟩ => ⟨m', a4, d, e, a1, a2, a3⟩, ?_⟩
      have half : (m : Int) / 2 = ((m / 2 : Nat) : Int) := by omega
      have dm : 2 * (m / 2) + m % 2 = m := by omega
      refine ⟨fun σ H2 => ∃ d' : Nat, σ = [some (.int (B : Int)), some (.int (T : Int)), some (.int ((B ^ d' : Nat) : Int)), some (.int ((B ^ e : Nat) : Int)), some (.int (m : Int))] ∧ d' + e * (2 * (m / 2)) = T ∧ H2 = H1, ?_, ?_⟩
      · refine ⟨_, rfl, _, _, rfl, rfl, (by show (0 : Int) < 2; decide), rfl, _, rfl, ite2 (fun h1 => ?_) (fun h1 => ?_)⟩
        · have o : (m : Int) % 2 = 1 := V.int.inj (of_decide_eq_true h1)
          refine ⟨_, rfl, _, rfl, _, _, rfl, rfl, wide_mul (pow_bits hB hd) (pow_bits hB he) (by decide) (by decide) (by decide), d + e, ?_, ?_, rfl⟩
          · rw [Nat.pow_add, Int.natCast_mul]
            rfl
          · have o' : m % 2 = 1 := by omega
            rw [show d + e + e * (2 * (m / 2)) = d + e * (2 * (m / 2) + 1) by rw [Nat.mul_add]; omega, show 2 * (m / 2) + 1 = m by omega]
            exact hde
        · have o : ¬ (m : Int) % 2 = 1 := fun z => h1 (decide_eq_true (congrArg V.int z))
          refine ⟨d, rfl, ?_, rfl⟩
          rw [show 2 * (m / 2) = m by omega]
          exact hde
      · rintro σ H2 ⟨d', rfl, hd', eH⟩
        subst eH
        refine ⟨_, rfl, _, _, rfl, rfl, ⟨by decide, by decide⟩, _, rfl, _, _, rfl, rfl, _, rfl, ?_⟩
        rw [half]
        refine ite2 (fun h2 => ?_) (fun h2 => ?_)
        · refine ⟨_, rfl, _, rfl, _, _, rfl, rfl, wide_mul (pow_bits hB he) (pow_bits hB he) (by decide) (by decide) (by decide), d', e + e, m / 2, ?_, ?_, rfl, by omega⟩
          · rw [Nat.pow_add, Int.natCast_mul]
            rfl
          · rw [← hd', ← Nat.two_mul e, Nat.mul_comm 2 e, Nat.mul_assoc]
        · have z : m / 2 = 0 := by
            have := of_decide_eq_false (Bool.eq_false_iff.mpr h2)
            omega
          refine ⟨d', e, m / 2, rfl, ?_, rfl, by omega⟩
          rw [← hd', z]
    · have hm : m = 0 := by have := of_decide_eq_false (Bool.eq_false_iff.mpr h); omega
      subst hm
      refine ⟨_, rfl, ?_⟩
      rw [show d = T by omega]
      exact q

theorem scPower : FnScope ["x"] ["x"] (defScope sPower) := ⟨rfl, rfl, rfl, by decide +kernel, rfl, by decide +kernel, by decide +kernel⟩
def spPower : Sp := fun vs H Q _ => ∃ x : Nat, vs = [.int (x : Int)] ∧ x ≤ 4000 ∧ Q (.int ((x ^ x : Nat) : Int)) H
theorem ok_power {f fR : Addr} {fd fdR : FuncData} {k : Nat} (F : Fun K "power" "power" sPower f fd) (G : FnOk P w K mg base CX0 (k + 1) fR fdR ["base", "times"] spRaised) (bR : Binds K fdR ["base", "times"] []) (kR : PySem.W.keepIn K (.ref fR) = true) (gR : mg "raised" = some (.ref fR)) : FnOk P w K mg base CX0 (k + 1 + 1) f fd ["x"] spPower := by
  refine F.ok scPower (fun vs H Q E h => ?_) (fun cdv A outer s H vs Q E hr h => ?_)
  · obtain ⟨x, rfl, _⟩ := h
    rfl
  · obtain ⟨x, rfl, hx, q⟩ := h
    refine ⟨_, pss_one (ps_ret (pe_call G hr (by rfl) gR kR bR .nil pass0 (pa_cons (pv 0) (pa_cons (pv 0) pa_nil)))), ?_⟩
    exact ⟨_, rfl, _, rfl, x, x, rfl, by omega, hx, q⟩
theorem scLpow : FnScope ["x", "many", "found", "turn"] ["x", "many"] (defScope sLpow) := ⟨rfl, rfl, rfl, by decide +kernel, rfl, by decide +kernel, by decide +kernel⟩
theorem ok_lpow {f : Addr} {fd : FuncData} {k : Nat} (F : Fun K "_law_power" "_law_power" sLpow f fd) (mr : mg "range" = none) : FnOk P w K mg base CX0 (k + 1) f fd ["x", "many"] spRaised := by
  refine F.ok scLpow (fun vs H Q E h => ?_) (fun cdv A outer s H vs Q E hr h => ?_)
  · obtain ⟨B, T, rfl, _⟩ := h
    rfl
  · obtain ⟨B, T, rfl, hB, hT, q⟩ := h
    refine ⟨_, pss_cons (ps_set (i := 2) scLpow.nd rfl (.inl rfl) pe_int)
      (pss_cons (ps_for PassesOwn.never rfl (pi_range1 (by rfl) mr (pa_cons (pv 1) pa_nil)) (pg_name (i := 3) scLpow.nd rfl (.inl rfl))
        (pss_one (ps_set (i := 2) scLpow.nd rfl (.inl rfl) (pe_op op_mul (pv 2) (pv 0)))))
      (pss_one (ps_ret (pv 2)))), ?_⟩
    refine ⟨_, rfl, (T : Int), rfl, by omega, by omega, for_range (lo := 0) (n := T) (fun i σ H1 => ∃ v, σ = [some (.int (B : Int)), some (.int (T : Int)), some (.int ((B ^ i : Nat) : Int)), v] ∧ H1 = H) ⟨none, rfl, rfl⟩ ?_ ?_⟩
    · rintro i σ H1 hi ⟨v, rfl, eH⟩
      subst eH
      refine ⟨_, rfl, _, rfl, _, _, rfl, rfl, .inr ⟨by omega, by omega⟩, some (.int (0 + (i : Int))), ?_, rfl⟩
      rw [Nat.pow_succ, Int.natCast_mul]
      rfl
    · rintro σ H1 ⟨v, rfl, eH⟩
      subst eH
      exact ⟨_, rfl, q⟩
end
end Lw
namespace Pw
def bmp : List (Nat × Nat) → Nat → List (Nat × Nat)
  | [], x => [(x, 1)]
  | (y, c) :: r, x => if y = x then (y, c + 1) :: r else (y, c) :: bmp r x
def cnm : List (Nat × Nat) → Nat → Nat
  | [], _ => 0
  | (y, c) :: r, x => if y = x then c else cnm r x
def prodc : List (Nat × Nat) → Nat
  | [] => 1
  | (y, c) :: r => y ^ (y * c) * prodc r
def sumc : List (Nat × Nat) → Nat
  | [] => 0
  | (y, c) :: r => y * c + sumc r
theorem prodc_bump : ∀ (r : List (Nat × Nat)) (x : Nat), prodc (bmp r x) = prodc r * x ^ x
  | [], x => by simp [bmp, prodc]
  | (y, c) :: r, x => by
    unfold bmp
    by_cases h : y = x
    · subst h
      rw [if_pos rfl]
      show y ^ (y * (c + 1)) * prodc r = y ^ (y * c) * prodc r * y ^ y
      rw [Nat.mul_add, Nat.mul_one, Nat.pow_add]
      grind
    · rw [if_neg h]
      show y ^ (y * c) * prodc (bmp r x) = y ^ (y * c) * prodc r * x ^ x
      rw [prodc_bump r x, Nat.mul_assoc]
theorem sumc_bump : ∀ (r : List (Nat × Nat)) (x : Nat), sumc (bmp r x) = sumc r + x
  | [], x => by simp [bmp, sumc]
  | (y, c) :: r, x => by
    unfold bmp
    by_cases h : y = x
    · subst h
      rw [if_pos rfl]
      show y * (c + 1) + sumc r = y * c + sumc r + y
      rw [Nat.mul_add]
      omega
    · rw [if_neg h]
      show y * c + sumc (bmp r x) = y * c + sumc r + x
      rw [sumc_bump r x]
      omega
theorem bump_len : ∀ (r : List (Nat × Nat)) (x : Nat), (bmp r x).length ≤ r.length + 1
  | [], x => by simp [bmp]
  | (y, c) :: r, x => by
    unfold bmp
    by_cases h : y = x
    · rw [if_pos h]
      simp
    · rw [if_neg h]
      have := bump_len r x
      simp only [List.length_cons]
      omega
theorem bump_key : ∀ (r : List (Nat × Nat)) (x z : Nat), z ∈ (bmp r x).map (·.1) ↔ z = x ∨ z ∈ r.map (·.1)
  | [], x, z => by simp [bmp]
  | (y, c) :: r, x, z => by
    unfold bmp
    by_cases h : y = x
    · subst h
      rw [if_pos rfl]
      simp
    · rw [if_neg h]
      have ih := bump_key r x z
      simp only [List.map_cons, List.mem_cons] at ih ⊢
      rw [ih]
      grind
theorem bump_nd : ∀ (r : List (Nat × Nat)) (x : Nat), (r.map (·.1)).Nodup → ((bmp r x).map (·.1)).Nodup
  | [], x, _ => by simp [bmp]
  | (y, c) :: r, x, h => by
    unfold bmp
    rw [List.map_cons, List.nodup_cons] at h
    by_cases e : y = x
    · rw [if_pos e, List.map_cons, List.nodup_cons]
      exact h
    · rw [if_neg e, List.map_cons, List.nodup_cons]
      refine ⟨fun z => ?_, bump_nd r x h.2⟩
      rcases (bump_key r x y).mp z with q | q
      · exact e q
      · exact h.1 q
theorem mem_le : ∀ {r : List (Nat × Nat)} {x c : Nat}, (x, c) ∈ r → x * c ≤ sumc r
  | (y, d) :: r, x, c, h => by
    show x * c ≤ y * d + sumc r
    rcases List.mem_cons.mp h with e | h
    · cases e
      omega
    · have := mem_le h
      omega
end Pw
namespace Lw
open PySem PySem.Spec PyProof.Rows L2 Pw
def enc (r : List (Nat × Nat)) : List (Key × V) := r.map fun p => ((Sum.inl (p.1 : Int) : Key), V.int (p.2 : Int))
theorem enc_get : ∀ (r : List (Nat × Nat)) (x : Nat), (valV (enc r) (Sum.inl (x : Int) : Key)).getD (.int 0) = .int (cnm r x : Int)
  | [], x => rfl
  | (y, c) :: r, x => by
    have ih := enc_get r x
    show (valV (((Sum.inl (y : Int) : Key), V.int (c : Int)) :: enc r) (Sum.inl (x : Int) : Key)).getD (.int 0) = .int ((if y = x then c else cnm r x : Nat) : Int)
    by_cases h : y = x
    · subst h
      rw [valV_pos rfl, if_pos rfl]
      rfl
    · rw [valV_neg (fun e => h (by have := Sum.inl.inj e; omega)), if_neg h]
      exact ih
theorem enc_at : ∀ (r : List (Nat × Nat)) (x c : Nat), (r.map (·.1)).Nodup → (x, c) ∈ r → valV (enc r) (Sum.inl (x : Int) : Key) = some (.int (c : Int))
  | (y, d) :: r, x, c, nd, h => by
    rw [List.map_cons, List.nodup_cons] at nd
    show valV (((Sum.inl (y : Int) : Key), V.int (d : Int)) :: enc r) (Sum.inl (x : Int) : Key) = _
    rcases List.mem_cons.mp h with e | h
    · cases e
      rw [valV_pos rfl]
    · have hne : y ≠ x := fun e => nd.1 (e ▸ List.mem_map.mpr ⟨_, h, rfl⟩)
      rw [valV_neg (fun e => hne (by have := Sum.inl.inj e; omega))]
      exact enc_at r x c nd.2 h
theorem enc_map : ∀ (r : List (Nat × Nat)) (x : Nat) (v : V), x ∉ r.map (·.1) → (enc r).map (fun kv => if kv.1 = (Sum.inl (x : Int) : Key) then (kv.1, v) else kv) = enc r
  | [], _, _, _ => rfl
  | (y, c) :: r, x, v, h => by
    have h1 : y ≠ x := fun e => h (by rw [e]; simp)
    have h2 : x ∉ r.map (·.1) := fun e => h (List.mem_cons_of_mem _ e)
    show (if (Sum.inl (y : Int) : Key) = Sum.inl (x : Int) then _ else _) :: (enc r).map _ = _
    rw [if_neg (fun e => h1 (by have := Sum.inl.inj e; omega)), enc_map r x v h2]
    rfl
theorem enc_put : ∀ (r : List (Nat × Nat)) (x : Nat), (r.map (·.1)).Nodup → putK (enc r) (Sum.inl (x : Int) : Key) (.int ((cnm r x : Int) + 1)) = enc (bmp r x)
  | [], x, _ => rfl
  | (y, c) :: r, x, nd => by
    have nd' := nd
    rw [List.map_cons, List.nodup_cons] at nd
    unfold putK
    by_cases h : y = x
    · subst h
      have e1 : ((enc ((y, c) :: r)).any fun kv => decide (kv.1 = (Sum.inl (y : Int) : Key))) = true := by
        show (decide ((Sum.inl (y : Int) : Key) = Sum.inl (y : Int)) || _) = true
        rw [decide_eq_true rfl, Bool.true_or]
      rw [if_pos e1]
      show (if (Sum.inl (y : Int) : Key) = Sum.inl (y : Int) then _ else _) :: (enc r).map _ = _
      rw [if_pos rfl, enc_map r y _ nd.1]
      unfold bmp cnm
      rw [if_pos rfl, if_pos rfl]
      rfl
    · have hk : ¬ (Sum.inl (y : Int) : Key) = Sum.inl (x : Int) := fun e => h (by have := Sum.inl.inj e; omega)
      have ih := enc_put r x nd.2
      unfold putK at ih
      have e1 : ((enc ((y, c) :: r)).any fun kv => decide (kv.1 = (Sum.inl (x : Int) : Key))) = ((enc r).any fun kv => decide (kv.1 = (Sum.inl (x : Int) : Key))) := by
        show (decide ((Sum.inl (y : Int) : Key) = Sum.inl (x : Int)) || _) = _
        rw [decide_eq_false hk, Bool.false_or]
        rfl
      rw [e1]
      unfold cnm bmp
      rw [if_neg h, if_neg h]
      by_cases ha : ((enc r).any fun kv => decide (kv.1 = (Sum.inl (x : Int) : Key))) = true
      · rw [if_pos ha] at ih ⊢
        show (if (Sum.inl (y : Int) : Key) = Sum.inl (x : Int) then _ else _) :: (enc r).map _ = _
        rw [if_neg hk, ih]
        rfl
      · rw [if_neg ha] at ih ⊢
        show _ :: (enc r ++ _) = _
        rw [ih]
        rfl
/-! ### tables -/
def natV (n : Nat) : V := .int (n : Int)
def TabT (K : PySem.W.Frag) (H : Hp) (t : Addr) (rows : List (List Nat)) : Prop :=
  ∃ as : List Addr, SqT K H t (as.map V.ref) ∧ as.length = rows.length ∧ ∀ (i : Nat) (a : Addr) (xs : List Nat), as[i]? = some a → rows[i]? = some xs → SqT K H a (xs.map natV)
def TabL (K : PySem.W.Frag) (H : Hp) (t : Addr) (rows : List (List Nat)) : Prop :=
  ∃ as : List Addr, SqL K H t (as.map V.ref) ∧ as.length = rows.length ∧ ∀ (i : Nat) (a : Addr) (xs : List Nat), as[i]? = some a → rows[i]? = some xs → SqL K H a (xs.map natV)
theorem same_tup {K : PySem.W.Frag} {H H' : Hp} {a : Addr} {xs : List V} (e : Same H H') (h : SqT K H a xs) : SqT K H' a xs := by
  rcases h with (h | ⟨o, h⟩) | h
  · exact .inl (.inl (e a _ h))
  · exact .inl (.inr ⟨o, e a _ h⟩)
  · exact .inr h
theorem ref_at {as : List Addr} {i : Nat} {x : V} (h : (as.map V.ref)[i]? = some x) : ∃ a, as[i]? = some a ∧ x = .ref a := by
  rw [List.getElem?_map] at h
  cases e : as[i]? with
  | none => rw [e] at h; cases h
  | some z =>
    rw [e] at h
    exact ⟨z, rfl, (Option.some.inj h).symm⟩
theorem nat_at {ns : List Nat} {i : Nat} {x : V} (h : (ns.map natV)[i]? = some x) : ∃ z, ns[i]? = some z ∧ x = natV z := by
  rw [List.getElem?_map] at h
  cases e : ns[i]? with
  | none => rw [e] at h; cases h
  | some z =>
    rw [e] at h
    exact ⟨z, rfl, (Option.some.inj h).symm⟩
/-- the product of a table's powers -/
def prodT : List (List Nat) → Nat
  | [] => 1
  | xs :: r => prods xs * prodT r
def sumT : List (List Nat) → Nat
  | [] => 0
  | xs :: r => xs.sum + sumT r
theorem prods_app : ∀ xs ys : List Nat, prods (xs ++ ys) = prods xs * prods ys
  | [], ys => by show prods ys = 1 * prods ys; rw [Nat.one_mul]
  | x :: xs, ys => by
    show x ^ x * prods (xs ++ ys) = x ^ x * prods xs * prods ys
    rw [prods_app xs ys, Nat.mul_assoc]
theorem prodT_app : ∀ xs ys : List (List Nat), prodT (xs ++ ys) = prodT xs * prodT ys
  | [], ys => by show prodT ys = 1 * prodT ys; rw [Nat.one_mul]
  | x :: xs, ys => by
    show prods x * prodT (xs ++ ys) = prods x * prodT xs * prodT ys
    rw [prodT_app xs ys, Nat.mul_assoc]
theorem sumT_app : ∀ xs ys : List (List Nat), sumT (xs ++ ys) = sumT xs + sumT ys
  | [], ys => by show sumT ys = 0 + sumT ys; rw [Nat.zero_add]
  | x :: xs, ys => by
    show x.sum + sumT (xs ++ ys) = x.sum + sumT xs + sumT ys
    rw [sumT_app xs ys, Nat.add_assoc]
theorem takeN {α : Type} {ks : List α} {i : Nat} {z : α} (h : ks[i]? = some z) : ks.take (i + 1) = ks.take i ++ [z] := by
  rw [List.take_add_one, h]
  rfl
/-- what the dict holds behind some numbers -/
structure Tally (kvs : List (Nat × Nat)) (pr su le : Nat) : Prop where
  pr : prodc kvs = pr
  su : sumc kvs = su
  le : kvs.length ≤ le
  nd : (kvs.map (·.1)).Nodup
theorem Tally.step {kvs : List (Nat × Nat)} {pr su le : Nat} (T : Tally kvs pr su le) (x : Nat) : Tally (bmp kvs x) (pr * x ^ x) (su + x) (le + 1) :=
  ⟨by rw [prodc_bump, T.pr], by rw [sumc_bump, T.su], Nat.le_trans (bump_len _ _) (Nat.succ_le_succ T.le), bump_nd _ _ T.nd⟩
abbrev sPsiN : List Str := ["table", "counts", "row", "x", "product"]
section
variable {P : Program} {w : World} {K : PySem.W.Frag} {mg : Str → Option Value} {base : Heap}
theorem scPsi : FnScope ["table", "counts", "row", "x", "product"] ["table"] (defScope sPsi) := ⟨rfl, rfl, rfl, by decide +kernel, rfl, by decide +kernel, by decide +kernel⟩
def cells (rows : List (List Nat)) : Nat := rows.flatten.length
def spPsi (K : PySem.W.Frag) : Sp := fun vs H Q _ => ∃ (t : Addr) (rows : List (List Nat)), vs = [.ref t] ∧ TabT K H t rows ∧ (∀ xs ∈ rows, ∀ x ∈ xs, x < 2 ^ 16) ∧ sumT rows ≤ 4000 ∧ rows.length ≤ 20 ∧ (∀ xs ∈ rows, xs.length ≤ 20) ∧
  ∀ H', Same H H' → Q (.int (prodT rows : Nat)) H'
theorem prodc_bits : ∀ (kvs : List (Nat × Nat)), (∀ p ∈ kvs, p.1 < 2 ^ 16) → prodc kvs ≤ (2 ^ 16) ^ sumc kvs
  | [], _ => by simp [prodc, sumc]
  | (y, c) :: r, h => by
    have ih := prodc_bits r fun p hp => h p (List.mem_cons_of_mem _ hp)
    have hy := h (y, c) (by simp)
    show y ^ (y * c) * prodc r ≤ (2 ^ 16) ^ (y * c + sumc r)
    rw [Nat.pow_add]
    exact Nat.mul_le_mul (Nat.pow_le_pow_left (Nat.le_of_lt hy) _) ih
theorem prodc_app : ∀ a b : List (Nat × Nat), prodc (a ++ b) = prodc a * prodc b
  | [], b => by show prodc b = 1 * prodc b; rw [Nat.one_mul]
  | (y, c) :: a, b => by
    show y ^ (y * c) * prodc (a ++ b) = y ^ (y * c) * prodc a * prodc b
    rw [prodc_app a b, Nat.mul_assoc]
theorem sumc_take : ∀ (a : List (Nat × Nat)) (i : Nat), sumc (a.take i) ≤ sumc a
  | [], i => by simp
  | (y, c) :: a, 0 => Nat.zero_le _
  | (y, c) :: a, i + 1 => by
    show y * c + sumc (a.take i) ≤ y * c + sumc a
    have := sumc_take a i
    omega
set_option exponentiation.threshold 100000 in
theorem ok_psi {f fR : Addr} {fd fdR : FuncData} {k : Nat} (F : Fun K "psi" "psi" sPsi f fd) (G : FnOk P w K mg base CX0 (k + 1) fR fdR ["base", "times"] spRaised) (bR : Binds K fdR ["base", "times"] []) (kR : PySem.W.keepIn K (.ref fR) = true) (gR : mg "raised" = some (.ref fR)) : FnOk P w K mg base CX0 (k + 1 + 1) f fd ["table"] (spPsi K) := by
  refine F.ok scPsi (fun vs H Q E h => ?_) (fun cdv A outer s H vs Q E hr h => ?_)
  · obtain ⟨t, rows, rfl, _⟩ := h
    rfl
  · obtain ⟨t, rows, rfl, ⟨as, hT, hlen, hrow⟩, hx, hs, hl1, hl2, q⟩ := h
    have hu := hu_of hr
    refine ⟨_, pss_cons (ps_set (i := 1) scPsi.nd rfl (.inl rfl) pe_dnewK)
      (pss_cons (ps_for PassesOwn.never rfl (pi_tup (pv 0)) (pg_name (i := 2) scPsi.nd rfl (.inl rfl))
        (pss_one (ps_for PassesOwn.never rfl (pi_tup (pv 2)) (pg_name (i := 3) scPsi.nd rfl (.inl rfl))
          (pss_one (ps_dput hu (pv 1) (pv 3) (pe_op op_add (pe_dget2 hu (pv 1) (pv 3) pe_int ⟨rfl, rfl, rfl, rfl⟩) pe_int) rfl)))))
      (pss_cons (ps_set (i := 4) scPsi.nd rfl (.inl rfl) pe_int)
      (pss_cons (ps_lock (ps_for PassesOwn.never rfl (pi_keys (pv 1)) (pg_name (i := 3) scPsi.nd rfl (.inl rfl))
        (pss_one (ps_set (i := 4) scPsi.nd rfl (.inl rfl) (pe_op op_mulW (pv 4) (pe_call G hr (by rfl) gR kR bR .nil pass0 (pa_cons (pv 3) (pa_cons (pe_op op_mul (pv 3) (pe_dget hu (pv 1) (pv 3) (fun _ _ => rfl))) pa_nil))))))))
      (pss_one (ps_ret (pv 4)))))), ?_⟩
    intro d nd
    have s1 : Same H (upd H d (.dK [])) := same_new nd
    refine ⟨_, rfl, t, rfl, ⟨_, same_tup s1 hT⟩, for_tup (K := K) (a := t) (xs := as.map V.ref) (fun i σ H1 => ∃ v2 v3 kvs, σ = [some (.ref t), some (.ref d), v2, v3, none] ∧ Same H H1 ∧ H1 d = some (.dK (enc kvs)) ∧ Tally kvs (prodT (rows.take i)) (sumT (rows.take i)) (20 * i) ∧ (∀ p ∈ kvs, p.1 < 2 ^ 16))
      ⟨none, none, [], rfl, s1, upd_same, ⟨rfl, rfl, Nat.le_refl _, List.nodup_nil⟩, fun p hp => nomatch hp⟩ (fun i σ H1 _ ⟨_, _, _, _, sm, _⟩ => same_tup sm hT) ?_ ?_⟩
    · rintro i x σ H1 hi ⟨v2, v3, kvs, rfl, sm, ed, T, kb⟩
      obtain ⟨a, ha, rfl⟩ := ref_at hi
      have hil : i < rows.length := by rw [← hlen]; exact (List.getElem?_eq_some_iff.mp ha).1
      have hxs : rows[i]? = some rows[i] := List.getElem?_eq_getElem hil
      generalize rows[i] = xs at hxs
      have hmem := List.mem_of_getElem? hxs
      have hA := hrow i a xs ha hxs
      refine ⟨_, rfl, a, rfl, ⟨_, same_tup sm hA⟩, for_tup (K := K) (a := a) (xs := xs.map natV) (fun j σ H2 => ∃ v3 kvs, σ = [some (.ref t), some (.ref d), some (.ref a), v3, none] ∧ Same H H2 ∧ H2 d = some (.dK (enc kvs)) ∧ Tally kvs (prodT (rows.take i) * prods (xs.take j)) (sumT (rows.take i) + (xs.take j).sum) (20 * i + j) ∧ (∀ p ∈ kvs, p.1 < 2 ^ 16))
        ⟨v3, kvs, rfl, sm, ed, by simpa [prods] using T, kb⟩ (fun j σ H2 _ ⟨_, _, _, sm2, _⟩ => same_tup sm2 hA) ?_ ?_⟩
      · rintro j x σ H2 hj ⟨v3, kvs, rfl, sm2, ed2, T2, kb2⟩
        have hjl := (List.getElem?_eq_some_iff.mp hj).1
        rw [List.length_map] at hjl
        obtain ⟨z, hz, rfl⟩ := nat_at hj
        have hzb := hx xs hmem z (List.mem_of_getElem? hz)
        have hll := hl2 xs hmem
        have hkl : (enc kvs).length < sizeLine := by
          have := T2.le
          rw [show (enc kvs).length = kvs.length from List.length_map ..]
          exact small1000 (by omega)
        refine ⟨_, rfl, d, rfl, .inl ⟨_, .inl ed2⟩, _, rfl, _, DGet.k (k := Sum.inl (z : Int)) ed2, ?_⟩
        rw [enc_get]
        refine ⟨_, _, rfl, rfl, _, rfl, _, rfl, d, _, rfl, DPut.k (k := Sum.inl (z : Int)) ed2 hkl, ?_⟩
        rw [enc_put _ _ T2.nd]
        refine ⟨some (natV z), bmp kvs z, rfl, same_mut sm2 nd, upd_same, ?_, ?_⟩
        · have h := T2.step z
          rw [takeN hz, prods_app, List.sum_append]
          simpa [prods, Nat.mul_assoc, Nat.add_assoc] using h
        · intro p hp
          rcases (bump_key kvs z p.1).mp (List.mem_map.mpr ⟨p, hp, rfl⟩) with e | e
          · rw [e]
            exact hzb
          · obtain ⟨p', hp', e'⟩ := List.mem_map.mp e
            rw [← e']
            exact kb2 p' hp'
      · rintro σ H2 ⟨v3, kvs, rfl, sm2, ed2, T2, kb2⟩
        rw [List.length_map, List.take_length] at T2
        have hll := hl2 xs hmem
        refine ⟨_, v3, kvs, rfl, sm2, ed2, ⟨?_, ?_, ?_, T2.nd⟩, kb2⟩
        · rw [takeN hxs, prodT_app, T2.pr]
          simp [prodT]
        · rw [takeN hxs, sumT_app, T2.su]
          simp [sumT]
        · have := T2.le
          omega
    · rintro σ H1 ⟨v2, v3, kvs, rfl, sm, ed, T, kb⟩
      rw [List.length_map, hlen, List.take_length] at T
      refine ⟨d, _, ed, trivial, fun od => ?_⟩
      refine ⟨_, rfl, d, od, rfl, .inl ⟨enc kvs, upd_same, for_it walk_keys (fun i σ H2 => ∃ v3, σ = [some (.ref t), some (.ref d), v2, v3, some (.int (prodc (kvs.take i) : Nat))] ∧ H2 = upd H1 d (.frz od (.dK (enc kvs)))) ⟨v3, rfl, rfl⟩ (fun i σ H2 _ ⟨_, _, e⟩ => by rw [e]; exact upd_same) ?_ ?_⟩⟩
      · rintro i x σ H2 H3 hi ⟨v3, rfl, rfl⟩ ⟨rfl, kk, vv, hk, rfl⟩
        obtain ⟨⟨x, c⟩, hxc, e⟩ : ∃ p, kvs[i]? = some p ∧ (kk, vv) = ((Sum.inl (p.1 : Int) : Key), V.int (p.2 : Int)) := by
          unfold enc at hk
          rw [List.getElem?_map] at hk
          cases e : kvs[i]? with
          | none => rw [e] at hk; cases hk
          | some z =>
            rw [e] at hk
            exact ⟨z, rfl, (Option.some.inj hk).symm⟩
        cases e
        have hm := List.mem_of_getElem? hxc
        have hxb := kb _ hm
        have hsum : x * c ≤ 4000 := by
          have := mem_le hm
          have := T.su
          omega
        have g : DGet (upd H1 d (.frz od (.dK (enc kvs)))) d (.int (x : Int)) (some (.int (c : Int))) := .inl ⟨enc kvs, Sum.inl (x : Int), .inr ⟨od, upd_same⟩, rfl, (enc_at kvs x c T.nd hm).symm⟩
        refine ⟨_, rfl, _, rfl, _, rfl, _, rfl, _, rfl, d, _, rfl, g, _, _, rfl, rfl, .inl ⟨by omega, by omega⟩, x, x * c, rfl, hxb, hsum, ?_⟩
        have hp : prodc (kvs.take (i + 1)) = prodc (kvs.take i) * x ^ (x * c) := by
          rw [takeN hxc, prodc_app]
          simp [prodc]
        have hb1 : prodc (kvs.take i) ≤ (2 ^ 16) ^ 4000 := by
          refine Nat.le_trans (prodc_bits _ fun p hp => kb p (List.mem_of_mem_take hp)) (Nat.pow_le_pow_right (by decide) ?_)
          have h1 := sumc_take kvs i
          have h2 := T.su
          omega
        refine ⟨_, _, rfl, rfl, wide_mul (a := 64001) (b := 64001) ?_ (pow_bits hxb hsum) (by decide) (by decide) (by decide), ?_⟩
        · rw [Int.natAbs_natCast]
          refine Nat.lt_of_le_of_lt hb1 ?_
          rw [← Nat.pow_mul]
          exact Nat.pow_lt_pow_right (by decide) (by decide)
        · refine ⟨some (.int (x : Int)), ?_, rfl⟩
          rw [hp, Int.natCast_mul]
          rfl
      · rintro σ H2 ⟨v3, rfl, rfl⟩
        refine ⟨upd_same, _, rfl, ?_⟩
        have hfin : prodc (kvs.take (enc kvs).length) = prodT rows := by
          rw [show (enc kvs).length = kvs.length from List.length_map .., List.take_length, T.pr]
        rw [hfin]
        exact q _ (same_mut (same_mut sm nd) nd)

theorem scLpsi : FnScope ["table", "found", "row", "x"] ["table"] (defScope sLpsi) := ⟨rfl, rfl, rfl, by decide +kernel, rfl, by decide +kernel, by decide +kernel⟩
theorem prods_bits : ∀ xs : List Nat, (∀ x ∈ xs, x < 2 ^ 16) → prods xs ≤ (2 ^ 16) ^ xs.sum
  | [], _ => by simp [prods]
  | x :: xs, h => by
    have ih := prods_bits xs fun y hy => h y (List.mem_cons_of_mem _ hy)
    rw [List.sum_cons, Nat.pow_add]
    exact Nat.mul_le_mul (Nat.pow_le_pow_left (Nat.le_of_lt (h x (by simp))) _) ih
theorem prodT_bits : ∀ rows : List (List Nat), (∀ xs ∈ rows, ∀ x ∈ xs, x < 2 ^ 16) → prodT rows ≤ (2 ^ 16) ^ sumT rows
  | [], _ => by simp [prodT, sumT]
  | xs :: r, h => by
    have ih := prodT_bits r fun y hy => h y (List.mem_cons_of_mem _ hy)
    show prods xs * prodT r ≤ (2 ^ 16) ^ (xs.sum + sumT r)
    rw [Nat.pow_add]
    exact Nat.mul_le_mul (prods_bits xs (h xs (by simp))) ih
theorem sumT_take : ∀ (r : List (List Nat)) (i : Nat), sumT (r.take i) ≤ sumT r
  | [], i => by simp
  | xs :: r, 0 => Nat.zero_le _
  | xs :: r, i + 1 => by
    show xs.sum + sumT (r.take i) ≤ xs.sum + sumT r
    have := sumT_take r i
    omega
theorem sum_take_le : ∀ (r : List Nat) (i : Nat), (r.take i).sum ≤ r.sum
  | [], i => by simp
  | x :: r, 0 => Nat.zero_le _
  | x :: r, i + 1 => by
    rw [List.take_succ_cons, List.sum_cons, List.sum_cons]
    have := sum_take_le r i
    omega

def spLpsiT (K : PySem.W.Frag) : Sp := fun vs H Q _ => ∃ (t : Addr) (rows : List (List Nat)), vs = [.ref t] ∧ TabT K H t rows ∧ (∀ xs ∈ rows, ∀ x ∈ xs, x < 2 ^ 12) ∧ sumT rows ≤ 4000 ∧ Q (.int (prodT rows : Nat)) H
set_option exponentiation.threshold 100000 in
theorem ok_lpsiT {f fR : Addr} {fd fdR : FuncData} {k : Nat} (F : Fun K "_law_psi" "_law_psi" sLpsi f fd) (G : FnOk P w K mg base CX0 (k + 1) fR fdR ["x", "many"] spRaised) (bR : Binds K fdR ["x", "many"] []) (kR : PySem.W.keepIn K (.ref fR) = true) (gR : mg "_law_power" = some (.ref fR)) : FnOk P w K mg base CX0 (k + 1 + 1) f fd ["table"] (spLpsiT K) := by
  refine F.ok scLpsi (fun vs H Q E h => ?_) (fun cdv A outer s H vs Q E hr h => ?_)
  · obtain ⟨t, rows, rfl, _⟩ := h
    rfl
  · obtain ⟨t, rows, rfl, ⟨as, hT, hlen, hrow⟩, hx, hs, q⟩ := h
    refine ⟨_, pss_cons (ps_set (i := 1) scLpsi.nd rfl (.inl rfl) pe_int)
      (pss_cons (ps_for PassesOwn.never rfl (pi_tup (pv 0)) (pg_name (i := 2) scLpsi.nd rfl (.inl rfl))
        (pss_one (ps_for PassesOwn.never rfl (pi_tup (pv 2)) (pg_name (i := 3) scLpsi.nd rfl (.inl rfl))
          (pss_one (ps_set (i := 1) scLpsi.nd rfl (.inl rfl) (pe_op op_mulW (pv 1) (pe_call G hr (by rfl) gR kR bR .nil pass0 (pa_cons (pv 3) (pa_cons (pv 3) pa_nil)))))))))
      (pss_one (ps_ret (pv 1)))), ?_⟩
    refine ⟨_, rfl, t, rfl, ⟨_, hT⟩, for_tup (K := K) (a := t) (xs := as.map V.ref) (fun i σ H1 => ∃ v2 v3, σ = [some (.ref t), some (.int (prodT (rows.take i) : Nat)), v2, v3] ∧ H1 = H) ⟨none, none, rfl, rfl⟩ (fun i σ H1 _ ⟨_, _, _, e⟩ => e ▸ hT) ?_ ?_⟩
    · rintro i x σ H1 hi ⟨v2, v3, rfl, eH⟩
      subst eH
      obtain ⟨a, ha, rfl⟩ := ref_at hi
      have hil : i < rows.length := by rw [← hlen]; exact (List.getElem?_eq_some_iff.mp ha).1
      have hxs : rows[i]? = some rows[i] := List.getElem?_eq_getElem hil
      generalize rows[i] = xs at hxs
      have hmem := List.mem_of_getElem? hxs
      have hA := hrow i a xs ha hxs
      have hsum : sumT (rows.take i) + xs.sum ≤ 4000 := by
        have h1 : sumT (rows.take (i + 1)) ≤ sumT rows := sumT_take rows (i + 1)
        rw [takeN hxs, sumT_app] at h1
        have h2 : sumT [xs] = xs.sum := by simp [sumT]
        omega
      refine ⟨_, rfl, a, rfl, ⟨_, hA⟩, for_tup (K := K) (a := a) (xs := xs.map natV) (fun j σ H2 => ∃ v3, σ = [some (.ref t), some (.int (prodT (rows.take i) * prods (xs.take j) : Nat)), some (.ref a), v3] ∧ H2 = H1) ⟨v3, by simp [prods], rfl⟩ (fun j σ H2 _ ⟨_, _, e⟩ => e ▸ hA) ?_ ?_⟩
      · rintro j x σ H2 hj ⟨v3, rfl, eH⟩
        subst eH
        obtain ⟨z, hz, rfl⟩ := nat_at hj
        have hm := List.mem_of_getElem? hz
        have hzb := hx xs hmem z hm
        have hzs : z ≤ xs.sum := le_sum hm
        refine ⟨_, rfl, _, rfl, _, rfl, z, z, rfl, by omega, by omega, _, _, rfl, rfl, wide_mul (a := 64001) (b := 64001) ?_ (pow_bits (by omega) (by omega)) (by decide) (by decide) (by decide), ?_⟩
        · rw [Int.natAbs_natCast]
          have h1 : prodT (rows.take i) ≤ (2 ^ 16) ^ sumT (rows.take i) := prodT_bits _ fun ys hy y hyy => by
            have := hx ys (List.mem_of_mem_take hy) y hyy
            omega
          have h2 : prods (xs.take j) ≤ (2 ^ 16) ^ (xs.take j).sum := prods_bits _ fun y hy => by
            have := hx xs hmem y (List.mem_of_mem_take hy)
            omega
          have h3 : (xs.take j).sum ≤ xs.sum := sum_take_le xs j
          refine Nat.lt_of_le_of_lt (Nat.mul_le_mul h1 h2) ?_
          rw [← Nat.pow_add, ← Nat.pow_mul]
          exact Nat.pow_lt_pow_right (by decide) (by omega)
        · refine ⟨some (natV z), ?_, rfl⟩
          rw [takeN hz, prods_app]
          have e : prods [z] = z ^ z := by simp [prods]
          rw [e, ← Nat.mul_assoc, Int.natCast_mul]
          rfl
      · rintro σ H2 ⟨v3, rfl, eH⟩
        subst eH
        refine ⟨some (.ref a), v3, ?_, rfl⟩
        rw [List.length_map, List.take_length, takeN hxs, prodT_app]
        have e : prodT [xs] = prods xs := by simp [prodT]
        rw [e]
    · rintro σ H1 ⟨v2, v3, rfl, eH⟩
      subst eH
      refine ⟨_, rfl, ?_⟩
      rw [List.length_map, hlen, List.take_length]
      exact q

def spLpsiL (K : PySem.W.Frag) : Sp := fun vs H Q _ => ∃ (t : Addr) (rows : List (List Nat)), vs = [.ref t] ∧ TabL K H t rows ∧ (∀ xs ∈ rows, ∀ x ∈ xs, x < 2 ^ 12) ∧ sumT rows ≤ 4000 ∧ Q (.int (prodT rows : Nat)) H
set_option exponentiation.threshold 100000 in
theorem ok_lpsiL {f fR : Addr} {fd fdR : FuncData} {k : Nat} (F : Fun K "_law_psi" "_law_psi" sLpsi f fd) (G : FnOk P w K mg base CX0 (k + 1) fR fdR ["x", "many"] spRaised) (bR : Binds K fdR ["x", "many"] []) (kR : PySem.W.keepIn K (.ref fR) = true) (gR : mg "_law_power" = some (.ref fR)) : FnOk P w K mg base CX0 (k + 1 + 1) f fd ["table"] (spLpsiL K) := by
  refine F.ok scLpsi (fun vs H Q E h => ?_) (fun cdv A outer s H vs Q E hr h => ?_)
  · obtain ⟨t, rows, rfl, _⟩ := h
    rfl
  · obtain ⟨t, rows, rfl, ⟨as, hT, hlen, hrow⟩, hx, hs, q⟩ := h
    refine ⟨_, pss_cons (ps_set (i := 1) scLpsi.nd rfl (.inl rfl) pe_int)
      (pss_cons (ps_for PassesOwn.never rfl (pi_list (pv 0)) (pg_name (i := 2) scLpsi.nd rfl (.inl rfl))
        (pss_one (ps_for PassesOwn.never rfl (pi_list (pv 2)) (pg_name (i := 3) scLpsi.nd rfl (.inl rfl))
          (pss_one (ps_set (i := 1) scLpsi.nd rfl (.inl rfl) (pe_op op_mulW (pv 1) (pe_call G hr (by rfl) gR kR bR .nil pass0 (pa_cons (pv 3) (pa_cons (pv 3) pa_nil)))))))))
      (pss_one (ps_ret (pv 1)))), ?_⟩
    refine ⟨_, rfl, t, rfl, ⟨_, hT⟩, for_list (K := K) (a := t) (xs := as.map V.ref) (fun i σ H1 => ∃ v2 v3, σ = [some (.ref t), some (.int (prodT (rows.take i) : Nat)), v2, v3] ∧ H1 = H) ⟨none, none, rfl, rfl⟩ (fun i σ H1 _ ⟨_, _, _, e⟩ => e ▸ hT) ?_ ?_⟩
    · rintro i x σ H1 hi ⟨v2, v3, rfl, eH⟩
      subst eH
      obtain ⟨a, ha, rfl⟩ := ref_at hi
      have hil : i < rows.length := by rw [← hlen]; exact (List.getElem?_eq_some_iff.mp ha).1
      have hxs : rows[i]? = some rows[i] := List.getElem?_eq_getElem hil
      generalize rows[i] = xs at hxs
      have hmem := List.mem_of_getElem? hxs
      have hA := hrow i a xs ha hxs
      have hsum : sumT (rows.take i) + xs.sum ≤ 4000 := by
        have h1 : sumT (rows.take (i + 1)) ≤ sumT rows := sumT_take rows (i + 1)
        rw [takeN hxs, sumT_app] at h1
        have h2 : sumT [xs] = xs.sum := by simp [sumT]
        omega
      refine ⟨_, rfl, a, rfl, ⟨_, hA⟩, for_list (K := K) (a := a) (xs := xs.map natV) (fun j σ H2 => ∃ v3, σ = [some (.ref t), some (.int (prodT (rows.take i) * prods (xs.take j) : Nat)), some (.ref a), v3] ∧ H2 = H1) ⟨v3, by simp [prods], rfl⟩ (fun j σ H2 _ ⟨_, _, e⟩ => e ▸ hA) ?_ ?_⟩
      · rintro j x σ H2 hj ⟨v3, rfl, eH⟩
        subst eH
        obtain ⟨z, hz, rfl⟩ := nat_at hj
        have hm := List.mem_of_getElem? hz
        have hzb := hx xs hmem z hm
        have hzs : z ≤ xs.sum := le_sum hm
        refine ⟨_, rfl, _, rfl, _, rfl, z, z, rfl, by omega, by omega, _, _, rfl, rfl, wide_mul (a := 64001) (b := 64001) ?_ (pow_bits (by omega) (by omega)) (by decide) (by decide) (by decide), ?_⟩
        · rw [Int.natAbs_natCast]
          have h1 : prodT (rows.take i) ≤ (2 ^ 16) ^ sumT (rows.take i) := prodT_bits _ fun ys hy y hyy => by
            have := hx ys (List.mem_of_mem_take hy) y hyy
            omega
          have h2 : prods (xs.take j) ≤ (2 ^ 16) ^ (xs.take j).sum := prods_bits _ fun y hy => by
            have := hx xs hmem y (List.mem_of_mem_take hy)
            omega
          have h3 : (xs.take j).sum ≤ xs.sum := sum_take_le xs j
          refine Nat.lt_of_le_of_lt (Nat.mul_le_mul h1 h2) ?_
          rw [← Nat.pow_add, ← Nat.pow_mul]
          exact Nat.pow_lt_pow_right (by decide) (by omega)
        · refine ⟨some (natV z), ?_, rfl⟩
          rw [takeN hz, prods_app]
          have e : prods [z] = z ^ z := by simp [prods]
          rw [e, ← Nat.mul_assoc, Int.natCast_mul]
          rfl
      · rintro σ H2 ⟨v3, rfl, eH⟩
        subst eH
        refine ⟨some (.ref a), v3, ?_, rfl⟩
        rw [List.length_map, List.take_length, takeN hxs, prodT_app]
        have e : prodT [xs] = prods xs := by simp [prodT]
        rw [e]
    · rintro σ H1 ⟨v2, v3, rfl, eH⟩
      subst eH
      refine ⟨_, rfl, ?_⟩
      rw [List.length_map, hlen, List.take_length]
      exact q
end
end Lw
namespace Lw
open PySem PySem.Spec PyProof.Rows L2
theorem meets_int_repr (a : Int) (t : Tok) : Meets (Builtin.«int.__repr__» ⟨[.int a t], []⟩) (fun _ R s => s.heap.NoDigits ∧ a.natAbs < 10 ^ 4300 ∧ R (.ok (.ret (.str (toString a) s.toks))) { s with toks := s.toks + 1 }) := by
  rintro prog w A R s ⟨hn, hlt, h⟩
  unfold Builtin.«int.__repr__»
  show wpAny _ _ (do let r ← Builtin.overDigitLimit? a; _) _ _ s
  exact wpAny_bind (overDigitLimit_any hn (fun _ => wpAny_bind (wpAny_mkStr (wpAny_pure h) (int_text_fits10 hlt))) fun hge => absurd hlt (by omega))
section
variable {X : Cx}
def rReprI : List V → Hp → VK → Prop := fun xs H Q => ∃ i, xs = [.int i] ∧ i.natAbs < 10 ^ 4300 ∧ Q (.str (toString i)) H
theorem call_reprI (hu : X.A.units + 1 < cLine) (hz : PySem.W.nsIn X.K cStatics "sys.int_max_str_digits" = some none) : CallR X (.builtin "repr") rReprI := by
  intro pins s σ H xs us Q I r h
  obtain ⟨i, rfl, hlt, q⟩ := h
  obtain ⟨u, rfl, t, rfl⟩ := vals1 r
  have nd : s.heap.NoDigits := by
    obtain ⟨mc, h1, _⟩ := I.nolimit
    exact ⟨mc, h1, PySem.W.ns_none_of I.kIn h1 hz⟩
  exact call_repr_slot hu (typeIs_int s i t) PySem.F.slot_int_repr.toG (call_meets PySem.F.slot_int_repr (typeIs_int s i t) PySem.F.entry_int_repr (PySem.F.args_int_repr_1 _) (meets_int_repr i t) ⟨nd, hlt, _, _, rfl, .str _, H, I.tok _, ⟨_, rfl⟩, q⟩)
end
end Lw
namespace Lw
open PySem PySem.Spec PyProof.Rows L2 Pw
section
variable {X : Cx} {CX : CXT} {k : Nat} {f : Addr} {fd : FuncData} {ps ks : List Str} {sp : Sp} {x : Str} {E : XK} {g : List Value → List Value → List Value} {gV : List V → List V → List V} {kws : List Keyword} {tk : TA} {p pos : Pos}
/-- f(k = v, ..): keywords alone -/
theorem pe_kwOnly (F : FnOk X.prog X.w X.K X.mg X.base CX k f fd ps sp) (hr : Room k X.A) (hg : Gl X x) (hm : X.mg x = some (.ref f)) (hk : PySem.W.keepIn X.K (.ref f) = true) (hb : KBinds X.K fd ps ks g gV) (hx : Passes CX X E)
    (hkw : PK X kws tk) (hall : (backToKw pos (keywordEach kws X.env)).all (·.1.isSome) = true := by rfl) (hks : (backToKw pos (keywordEach kws X.env)).filterMap (·.1) = ks := by rfl) (hdb : (x == ("__debug__" : Str)) = false := by decide)
    (hpl : ((backTo pos (starEach [] X.env)).any (·.1) || (backToKw pos (keywordEach kws X.env)).any (·.1.isNone)) = false := by rfl) : PE X (.Call (.Name x p) [] kws pos) (tCallK sp gV E tNil tk) := by
  refine ⟨fun pins s σ H Q I h => wpAny_Call_Name_kw (ld_glob I hg hm ?_ hdb)⟩
  refine PySem.W.callWith_KW0 (h₀ := X.base) I.ok.mod.kin hk hall (thn (hkw.run pos pins s σ H _ I h) fun ws s2 ⟨zs, H2, I2, rz, q2⟩ => ⟨I2.kIn, ?_⟩) hpl
  rw [hks]
  exact run_fnk (us := []) (vs := []) F hr hb hx I2 .nil rz q2
end
def rTupOf (K : PySem.W.Frag) : List V → Hp → VK → Prop := fun xs H Q => ∃ p ys, xs = [.ref p] ∧ ((SqL K H p ys ∧ ∀ l, H l = none → Q (.ref l) (upd H l (.tup ys))) ∨ (SqT K H p ys ∧ Q (.ref p) H))
theorem tup_of {X : Cx} {K : PySem.W.Frag} (e : X.K = K) : CallR X (.type "tuple") (rTupOf K) := by
  subst e
  exact call_tuple_of
theorem ixL {X : Cx} {K : PySem.W.Frag} (e : X.K = K) : IxR X (rIxL K) := by
  subst e
  exact ix_list
theorem natV_one (m : Nat) : ([.int (1 + (m : Int))] : List V) = [1 + m].map natV := by
  show _ = [natV (1 + m)]
  unfold natV
  rw [Int.natCast_add]
  rfl
theorem Deal.keepBut {H : Hp} {p q L : Addr} {cs : List Int} {b : Int} {o : HO} (D : Deal H p q cs b) (hp : L ≠ p) (hq : L ≠ q) : Deal (upd H L o) p q cs b :=
  ⟨by rw [upd_ne hp.symm]; exact D.top, by rw [upd_ne hq.symm]; exact D.low, D.ne, D.b0, D.c0, D.len⟩
theorem kw_one {K : PySem.W.Frag} {nm qual x : Str} {st : Stmt} {f : Addr} {fd : FuncData} (F : Fun K nm qual st f fd)
    (h1 : ∀ (kV doc pm : Value) (an : Option Addr) (cdv ct : Value) (u : Value), bindArgs (PySem.W.fnOf nm qual (defArgs st) (defBody st) (defScope st) .none kV doc pm an cdv ct) ⟨[u], []⟩ = pure [(x, u)])
    (h2 : ∀ (kV doc pm : Value) (an : Option Addr) (cdv ct : Value) (u : Value), bindArgs (PySem.W.fnOf nm qual (defArgs st) (defBody st) (defScope st) .none kV doc pm an cdv ct) ⟨[], [(x, u)]⟩ = pure [(x, u)]) :
    KBinds K fd [x] [x] (fun us ws => us ++ ws) (fun us ws => us ++ ws) := by
  obtain ⟨oc, od, kV, doc, pm, an, cdv, ct, osl, rfl, lk, hcd⟩ := F.ex
  refine ⟨fun s us ws _ hl => ?_, fun r r2 => r.append r2⟩
  match us, ws, hl with
  | [u], [], _ => exact .of_eq (h1 kV doc pm an cdv ct u)
  | [], [u], _ => exact .of_eq (h2 kV doc pm an cdv ct u)
abbrev sLaw : Stmt := topS 10
abbrev nLaw : List Str := ["script", "deal", "turn", "bound", "some", "total", "w", "product", "whole", "most", "table", "one", "row"]
abbrev cRow : Scope := { kind := .function, names := [(Str.ofString ".0", .local), (Str.ofString "row", .local), (Str.ofString "tuple", .globalImplicit), (Str.ofString "range", .globalImplicit), (Str.ofString "_law_any", .globalImplicit), (Str.ofString "deal", .cell)], isGenerator := false, isCoroutine := false, more := [] }
abbrev cOne : Scope := { kind := .function, names := [(Str.ofString ".0", .local), (Str.ofString "one", .local), (Str.ofString "_law_any", .globalImplicit), (Str.ofString "deal", .free)], isGenerator := false, isCoroutine := false, more := [] }
theorem blkRow (sc : Scope) (h : sc = cRow) : BlkOk nLaw sc cOne [("one", 11)] := by
  rw [h]
  exact blkOk_by (by decide +kernel)
theorem scLaw : FnScope ["script", "deal", "turn", "bound", "some", "total", "w", "product", "whole", "most", "table", "one", "row"] ["script"] (defScope sLaw) := ⟨rfl, rfl, rfl, by decide +kernel, rfl, by decide +kernel, by decide +kernel⟩
/-- what the law's text stands on -/
structure Txt (P : Program) (w : World) (K : PySem.W.Frag) (mg : Str → Option Value) (base : Heap) where
  (aDraw aAny aOf aPow aPsi aLpow aLpsi : Addr)
  (dDraw dAny dOf dPow dPsi dLpow dLpsi : FuncData)
  draw : FnOk P w K mg base CX0 1 aDraw dDraw ["script", "salt"] (spDraw K)
  any : FnOk P w K mg base CX0 1 aAny dAny ["deal", "bound"] spAny
  of : FnOk P w K mg base CX0 2 aOf dOf ["deal", "some"] (spOf K)
  pow : FnOk P w K mg base CX0 2 aPow dPow ["x"] spPower
  psi : FnOk P w K mg base CX0 2 aPsi dPsi ["table"] (spPsi K)
  lpow : FnOk P w K mg base CX0 1 aLpow dLpow ["x", "many"] spRaised
  lpsiT : FnOk P w K mg base CX0 2 aLpsi dLpsi ["table"] (spLpsiT K)
  lpsiL : FnOk P w K mg base CX0 2 aLpsi dLpsi ["table"] (spLpsiL K)
  bDraw : Binds K dDraw ["script", "salt"] []
  bAny : Binds K dAny ["deal", "bound"] []
  bOf : Binds K dOf ["deal", "some"] []
  bPow : Binds K dPow ["x"] []
  kbPow : KBinds K dPow ["x"] ["x"] (fun us ws => us ++ ws) (fun us ws => us ++ ws)
  bPsi : Binds K dPsi ["table"] []
  kbPsi : KBinds K dPsi ["table"] ["table"] (fun us ws => us ++ ws) (fun us ws => us ++ ws)
  bLpow : Binds K dLpow ["x", "many"] []
  bLpsi : Binds K dLpsi ["table"] []
  kDraw : PySem.W.keepIn K (.ref aDraw) = true
  kAny : PySem.W.keepIn K (.ref aAny) = true
  kOf : PySem.W.keepIn K (.ref aOf) = true
  kPow : PySem.W.keepIn K (.ref aPow) = true
  kPsi : PySem.W.keepIn K (.ref aPsi) = true
  kLpow : PySem.W.keepIn K (.ref aLpow) = true
  kLpsi : PySem.W.keepIn K (.ref aLpsi) = true
  gDraw : mg "_law_draw" = some (.ref aDraw)
  gAny : mg "_law_any" = some (.ref aAny)
  gOf : mg "_law_of" = some (.ref aOf)
  gPow : mg "power" = some (.ref aPow)
  gPsi : mg "psi" = some (.ref aPsi)
  gLpow : mg "_law_power" = some (.ref aLpow)
  gLpsi : mg "_law_psi" = some (.ref aLpsi)
  len : mg "len" = none
  rng : mg "range" = none
  sum : mg "sum" = none
  min : mg "min" = none
  max : mg "max" = none
  repr : mg "repr" = none
  tuple : mg "tuple" = none
  dig : PySem.W.nsIn K cStatics "sys.int_max_str_digits" = some none
section
variable {P : Program} {w : World} {K : PySem.W.Frag} {mg : Str → Option Value} {base : Heap}
/-- the numbers drawn, where they stand -/
structure Sm (H : Hp) (p q L : Addr) (xs : List Nat) (m M : Nat) : Prop where
  dl : ∃ cs b, Deal H p q cs b
  hL : H L = some (.lst (xs.map natV))
  lp : L ≠ p
  lq : L ≠ q
  ne : xs ≠ []
  le : xs.length ≤ m
  bd : ∀ x ∈ xs, 1 ≤ x ∧ x ≤ M
theorem rd_same {K : PySem.W.Frag} {H : Hp} {L : Addr} {xs : List Nat} {x0 : Nat} {Q : VK} {w0 w1 w2 w3 w5 w6 w7 w8 w9 w10 : Option V} (hL : H L = some (.lst (xs.map natV))) (h0 : xs[0]? = some x0) (hl : xs.length ≤ 100)
    (k : ∀ M H', Same H H' → H M = none → H' M = some (.lst ((List.replicate xs.length x0).map natV)) → Q (.ref M) H') :
    tLc (iList K (tVar 4)) (gName 11) tYes (tOp (rIxL K) (tVar 4) (tC (.int 0))) [11] [w0, w1, w2, w3, some (.ref L), w5, w6, w7, w8, w9, w10, none, none] H Q := by
  refine ⟨_, rfl, L, rfl, ⟨_, sq_at hL⟩, fun M nM => lc_list (xs := xs.map natV) (fun i H3 => Same H H3 ∧ H3 M = some (.lst ((List.replicate i x0).map natV))) ⟨same_new nM, upd_same⟩ (fun i H3 _ h3 => h3.1.seq (sq_at hL)) ?_ ?_⟩
  · rintro i x H3 hx ⟨s3, hM⟩
    have hi := (List.getElem?_eq_some_iff.mp hx).1
    rw [List.length_map] at hi
    refine ⟨rfl, tt_yes ?_⟩
    refine ⟨_, rfl, L, _, 0, natV x0, rfl, rfl, sq_at (s3 _ _ hL), atI_nat (j := 0) (by rw [List.getElem?_map, h0]; rfl), _, hM, ?_, same_mut s3 nM, ?_⟩
    · rw [List.length_map, List.length_replicate]
      exact small1000 (by omega)
    · rw [upd_same, List.replicate_succ', List.map_append]
      rfl
  · rintro H3 ⟨s3, hM⟩
    rw [List.length_map] at hM
    exact k M H3 s3 nM hM
theorem Sm.keep {H H' : Hp} {p q L : Addr} {xs : List Nat} {m M : Nat} (S : Sm H p q L xs m M) (s : Same H H') : Sm H' p q L xs m M :=
  ⟨let ⟨cs, b, D⟩ := S.dl; ⟨cs, b, D.keep s⟩, s _ _ S.hL, S.lp, S.lq, S.ne, S.le, S.bd⟩
theorem ne_self {v : V} {A B : Prop} (h : B) : if (!decide (v = v)) = true then A else B := by
  rw [decide_eq_true rfl]
  exact h
theorem ne_same {v u : V} {A B : Prop} (e : v = u) (h : B) : if (!decide (v = u)) = true then A else B := by
  subst e
  exact ne_self h
theorem if_no {c A B : Prop} [Decidable c] (n : ¬ c) (h : B) : if decide c = true then A else B := by
  rw [decide_eq_false n, if_neg Bool.false_ne_true]
  exact h
theorem sum_bound : ∀ xs : List Nat, (∀ x ∈ xs, 1 ≤ x ∧ x ≤ 65) → xs.sum ≤ 65 * xs.length
  | [], _ => by simp
  | x :: xs, h => by
    have ih := sum_bound xs fun y hy => h y (List.mem_cons_of_mem _ hy)
    have := h x (by simp)
    rw [List.sum_cons, List.length_cons]
    omega
theorem pow_self_big {s : Nat} (h : s ≤ 400) : (((s ^ s : Nat) : Int)).natAbs < 10 ^ 4300 := by
  rw [Int.natAbs_natCast]
  by_cases h0 : s = 0
  · subst h0
    decide +kernel
  · refine Nat.lt_of_le_of_lt (Nat.pow_le_pow_left (show s ≤ 10 ^ 3 by omega) s) ?_
    rw [← Nat.pow_mul]
    exact Nat.pow_lt_pow_right (by decide) (by omega)
theorem tab_oneT {K : PySem.W.Frag} {H : Hp} {t a : Addr} {xs : List Nat} (h : H t = some (.tup [.ref a])) (ha : H a = some (.tup (xs.map natV))) : TabT K H t [xs] :=
  ⟨[a], st_at h, rfl, fun i b ys h1 h2 => by
    match i, h1, h2 with
    | 0, h1, h2 =>
      cases Option.some.inj h1
      cases Option.some.inj h2
      exact st_at ha⟩
theorem tab_oneL {K : PySem.W.Frag} {H : Hp} {t a : Addr} {xs : List Nat} (h : H t = some (.lst [.ref a])) (ha : H a = some (.lst (xs.map natV))) : TabL K H t [xs] :=
  ⟨[a], sq_at h, rfl, fun i b ys h1 h2 => by
    match i, h1, h2 with
    | 0, h1, h2 =>
      cases Option.some.inj h1
      cases Option.some.inj h2
      exact sq_at ha⟩
theorem nat_ints (xs : List Nat) : (xs.map fun n : Nat => (n : Int)).map V.int = xs.map natV := by rw [List.map_map]; rfl
theorem sum_ints : ∀ xs : List Nat, (xs.map fun n : Nat => (n : Int)).sum = ((xs.sum : Nat) : Int)
  | [] => rfl
  | x :: xs => by rw [List.map_cons, List.sum_cons, sum_ints xs, List.sum_cons, Int.natCast_add]
theorem dec_yes {c : Prop} [Decidable c] (h : c) : V.bl (decide c) = V.bl true := by rw [decide_eq_true h]
theorem tab_nil {K : PySem.W.Frag} {H : Hp} {t : Addr} (h : H t = some (.tup [])) : TabT K H t [] := ⟨[], st_at h, rfl, fun i a xs h1 _ => by simp at h1⟩
theorem rows_sum : ∀ rows : List (List Nat), (∀ xs ∈ rows, xs.length ≤ 3 ∧ ∀ x ∈ xs, x ≤ 8) → rows.length ≤ 3 → sumT rows ≤ 72 := by
  have one : ∀ xs : List Nat, (∀ x ∈ xs, x ≤ 8) → xs.sum ≤ 8 * xs.length := fun xs => by
    induction xs with
    | nil => intro _; simp
    | cons x xs ih =>
      intro h
      have h1 := ih fun y hy => h y (List.mem_cons_of_mem _ hy)
      have h2 := h x (by simp)
      rw [List.sum_cons, List.length_cons]
      omega
  have all : ∀ rows : List (List Nat), (∀ xs ∈ rows, xs.length ≤ 3 ∧ ∀ x ∈ xs, x ≤ 8) → sumT rows ≤ 24 * rows.length := fun rows => by
    induction rows with
    | nil => intro _; simp [sumT]
    | cons xs r ih =>
      intro h
      have h1 := ih fun y hy => h y (List.mem_cons_of_mem _ hy)
      obtain ⟨h2, h3⟩ := h xs (by simp)
      have h4 := one xs h3
      show xs.sum + sumT r ≤ 24 * (xs :: r).length
      rw [List.length_cons]
      omega
  intro rows h hl
  have := all rows h
  omega
theorem rows_big (rows : List (List Nat)) (h : ∀ xs ∈ rows, xs.length ≤ 3 ∧ ∀ x ∈ xs, x ≤ 8) (hs : sumT rows ≤ 72) : (((prodT rows : Nat) : Int)).natAbs < 10 ^ 4300 := by
  rw [Int.natAbs_natCast]
  refine Nat.lt_of_le_of_lt (prodT_bits rows fun xs hx x hy => by have := (h xs hx).2 x hy; omega) ?_
  refine Nat.lt_of_le_of_lt (Nat.pow_le_pow_right (by decide) hs) ?_
  refine Nat.lt_of_le_of_lt (Nat.pow_le_pow_left (show 2 ^ 16 ≤ 10 ^ 5 by decide) 72) ?_
  rw [← Nat.pow_mul]
  exact Nat.pow_lt_pow_right (by decide) (by decide)
theorem rd_row {H : Hp} {p q : Addr} {cs : List Int} {b : Int} {Q : VK} {w0 w2 w3 w4 w5 w6 w7 w8 w9 w10 w12 : Option V} (D : Deal H p q cs b)
    (k : ∀ J H' (xs : List Nat) cs' b', Deal H' p q cs' b' → But p q H H' → H' J = some (.lst (xs.map natV)) → xs.length ≤ 3 → (∀ x ∈ xs, x ≤ 8) → Q (.ref J) H') :
    tLc (iRng1 (tCons (tCall spAny [] E0 (tCons (tVar 1) (tCons (tC (.int 4)) tNil))) tNil)) (gName 11) tYes (tCall spAny [] E0 (tCons (tVar 1) (tCons (tC (.int 9)) tNil))) [11] [w0, some (.ref p), w2, w3, w4, w5, w6, w7, w8, w9, w10, none, w12] H Q := by
  refine ⟨_, rfl, p, q, cs, b, 4, rfl, D, by decide, by decide, fun H1 r cs b D f1 r0 r1 => ⟨r, rfl, by omega, by omega, fun J nJ => ?_⟩⟩
  have Jp : J ≠ p := (ne_of_none D.top nJ).symm
  have Jq : J ≠ q := (ne_of_none D.low nJ).symm
  refine lc_it walk_range (fun j H2 => ∃ cs b xs, Deal H2 p q cs b ∧ H2 J = some (.lst (xs.map natV)) ∧ xs.length = j ∧ (∀ x ∈ xs, x ≤ 8) ∧ ∀ y o, y ≠ p → y ≠ q → y ≠ J → H1 y = some o → H2 y = some o)
    ⟨cs, b, [], D.keep (same_new nJ), upd_same, rfl, fun x hx => absurd hx List.not_mem_nil, fun y o _ _ h3 h => by rw [upd_ne h3]; exact h⟩ (fun _ _ _ _ => trivial) ?_ ?_
  · rintro j x H2 H3 hj ⟨cs, b, xs, D, hJ, hlen, hxs, fr⟩ ⟨rfl, rfl⟩
    refine ⟨rfl, tt_yes ?_⟩
    refine ⟨_, rfl, p, q, cs, b, 9, rfl, D, by decide, by decide, fun H4 z cs b D f4 z0 z1 => ?_⟩
    obtain ⟨m, rfl⟩ : ∃ m : Nat, z = (m : Int) := ⟨z.toNat, by omega⟩
    refine ⟨_, f4 J _ Jp Jq hJ, ?_, cs, b, xs ++ [m], D.keepBut Jp Jq, ?_, ?_, ?_, fun y o h1 h2 h3 h => ?_⟩
    · rw [List.length_map]
      exact small1000 (by omega)
    · rw [upd_same, List.map_append]
      rfl
    · rw [List.length_append, hlen]
      rfl
    · intro y hy
      rcases List.mem_append.mp hy with h | h
      · exact hxs y h
      · rw [List.mem_singleton.mp h]
        omega
    · rw [upd_ne h3]
      exact f4 y o h1 h2 (fr y o h1 h2 h3 h)
  · rintro H2 ⟨cs, b, xs, D, hJ, hlen, hxs, fr⟩
    refine k J H2 xs cs b D (fun y o h1 h2 h => ?_) hJ (by omega) hxs
    have h' := f1 y o h1 h2 h
    exact fr y o h1 h2 (ne_of_none h' nJ) h'
def spLaw (K : PySem.W.Frag) : Sp := fun vs H Q _ => ∃ (a : Addr) (ns : List Int), vs = [.ref a] ∧ SqL K H a (ns.map V.int) ∧ ns.length ≤ 63 ∧ ∀ H', Q (.bl true) H'
theorem ok_law {f : Addr} {fd : FuncData} (F : Fun K "law" "law" sLaw f fd) (T : Txt P w K mg base) : FnOk P w K mg base CX0 3 f fd ["script"] (spLaw K) := by
  refine F.ok scLaw (fun vs H Q E h => ?_) (fun cdv A outer s H vs Q E hr h => ?_)
  · obtain ⟨a, ns, rfl, _⟩ := h
    rfl
  · obtain ⟨a, ns, rfl, hS, hl, q⟩ := h
    have hu := hu_of hr
    have hr1 : Room 1 _ := hr.mono (by decide)
    refine ⟨_, pss_cons (ps_set (i := 1) scLaw.nd rfl (.inr rfl) (pe_call T.draw hr1 (by rfl) T.gDraw T.kDraw T.bDraw .nil pass0 (pa_cons (pv 0) (pa_cons pe_int pa_nil))))
      (pss_cons (ps_for PassesOwn.never rfl (pi_range1 (by rfl) T.rng (pa_cons pe_int pa_nil)) (pg_name (i := 2) scLaw.nd rfl (.inl rfl))
        -- bound = _law_of(deal, [3, 8, 64])
        (pss_cons (ps_set (i := 3) scLaw.nd rfl (.inr rfl) (pe_call T.of hr (by rfl) T.gOf T.kOf T.bOf .nil pass0 (pa_cons (pv 1) (pa_cons (pe_lst (pa_cons pe_int (pa_cons pe_int (pa_cons pe_int pa_nil)))) pa_nil))))
        -- some = [1 + _law_any(deal, bound) for one in range(1 + _law_any(deal, 5))]
        (pss_cons (ps_set (i := 4) scLaw.nd rfl (.inr rfl) (pe_lc (own := [("one", 11)]) (g := gName 11) (tt := tYes) rfl scLaw.nd
            (pi_range1 (by rfl) T.rng (pa_cons (pe_op op_add pe_int (pe_call T.any hr1 (by rfl) T.gAny T.kAny T.bAny .nil pass0 (pa_cons (pv 1) (pa_cons pe_int pa_nil)))) pa_nil))
            (blkOk_by (N := nLaw) (sc := defScope sLaw) (by decide +kernel)) (fun _ _ _ _ _ => pg_name (i := 11) scLaw.nd rfl (Or.inl rfl)) (fun _ _ _ _ _ => pts_nil)
            (fun _ _ _ _ _ => pe_op op_add pe_int (pe_call T.any hr1 (by rfl) T.gAny T.kAny T.bAny .nil pass0 (pa_cons (pv 1) (pa_cons (pv 3) pa_nil))))))
        -- if _law_any(deal, 3) == 0: some = [some[0] for one in some]
        (Evl.pss_cut (ps_if (pt_cmpR op_eq (pe_call T.any hr1 (by rfl) T.gAny T.kAny T.bAny .nil pass0 (pa_cons (pv 1) (pa_cons pe_int pa_nil))) pe_int (nomark _))
          (pss_one (ps_set (i := 4) scLaw.nd rfl (.inr rfl) (pe_lc (own := [("one", 11)]) (g := gName 11) (tt := tYes) rfl scLaw.nd (pi_list (pv 4))
            (blkOk_by (N := nLaw) (sc := defScope sLaw) (by decide +kernel)) (fun _ _ _ _ _ => pg_name (i := 11) scLaw.nd rfl (Or.inl rfl)) (fun _ _ _ _ _ => pts_nil)
            (fun _ _ _ _ _ => pe_ix (ixL (K := K) rfl) (pv 4) pe_int (fun _ _ => rfl))))) pss_nil)
        -- if _law_any(deal, 4) == 0: some = [some[0] for one in some] + [some[0] + 1]
        (Evl.pss_cut (ps_if (pt_cmpR op_eq (pe_call T.any hr1 (by rfl) T.gAny T.kAny T.bAny .nil pass0 (pa_cons (pv 1) (pa_cons pe_int pa_nil))) pe_int (nomark _))
          (pss_one (ps_set (i := 4) scLaw.nd rfl (.inr rfl) (pe_op op_cat (pe_lc (own := [("one", 11)]) (g := gName 11) (tt := tYes) rfl scLaw.nd (pi_list (pv 4))
            (blkOk_by (N := nLaw) (sc := defScope sLaw) (by decide +kernel)) (fun _ _ _ _ _ => pg_name (i := 11) scLaw.nd rfl (Or.inl rfl)) (fun _ _ _ _ _ => pts_nil)
            (fun _ _ _ _ _ => pe_ix (ixL (K := K) rfl) (pv 4) pe_int (fun _ _ => rfl))) (pe_lst (pa_cons (pe_op op_add (pe_ix ix_list (pv 4) pe_int (fun _ _ => rfl)) pe_int) pa_nil))))) pss_nil)
        -- total, w = (sum(some), len(some))
        (pss_cons (ps_par rfl scLaw.nd (i := 5) (j := 6) rfl rfl (by decide) rfl rfl (pa_cons (pe_callB (cr_sum rfl) (by rfl) T.sum (by decide +kernel) (pa_cons (pv 4) pa_nil)) (pa_cons (pe_callB call_len_seq (by rfl) T.len PySem.boot_len (pa_cons (pv 4) pa_nil)) pa_nil)) (by rfl))
        (pss_cons (ps_if (PW.pt (pw_or (pt_cmpR op_ne (pe_callB (call_reprI hu T.dig) (by rfl) T.repr (by decide +kernel) (pa_cons (pe_call T.pow hr (by rfl) T.gPow T.kPow T.bPow .nil pass0 (pa_cons (pv 5) pa_nil)) pa_nil)) (pe_callB (call_reprI hu T.dig) (by rfl) T.repr (by decide +kernel) (pa_cons (pe_call T.lpow hr1 (by rfl) T.gLpow T.kLpow T.bLpow .nil pass0 (pa_cons (pv 5) (pa_cons (pv 5) pa_nil))) pa_nil)) (nomark _))
            (pw_or1 (pt_cmpR op_ne (pe_callB (call_reprI hu T.dig) (by rfl) T.repr (by decide +kernel) (pa_cons (pe_kwOnly T.pow hr (by rfl) T.gPow T.kPow T.kbPow pass0 (pk_cons (pe_ix ix_list (pv 4) pe_int (fun _ _ => rfl)) pk_nil)) pa_nil)) (pe_callB (call_reprI hu T.dig) (by rfl) T.repr (by decide +kernel) (pa_cons (pe_call T.lpow hr1 (by rfl) T.gLpow T.kLpow T.bLpow .nil pass0 (pa_cons (pe_ix ix_list (pv 4) pe_int (fun _ _ => rfl)) (pa_cons (pe_ix ix_list (pv 4) pe_int (fun _ _ => rfl)) pa_nil))) pa_nil)) (nomark _))))) (pss_one (ps_ret pe_bl)) pss_nil)
        -- product, whole = (psi((tuple(some),)), power(total))
        (pss_cons (ps_par rfl scLaw.nd (i := 7) (j := 8) rfl rfl (by decide) rfl rfl (pa_cons (pe_call T.psi hr (by rfl) T.gPsi T.kPsi T.bPsi .nil pass0 (pa_cons (pe_tup (pa_cons (pe_callTy call_tuple_of (by rfl) T.tuple (by decide +kernel) (pa_cons (pv 4) pa_nil)) pa_nil)) pa_nil)) (pa_cons (pe_call T.pow hr (by rfl) T.gPow T.kPow T.bPow .nil pass0 (pa_cons (pv 5) pa_nil)) pa_nil)) (by rfl))
        (pss_cons (ps_if (pt_cmpR op_ne (pe_callB (call_reprI hu T.dig) (by rfl) T.repr (by decide +kernel) (pa_cons (pv 7) pa_nil)) (pe_callB (call_reprI hu T.dig) (by rfl) T.repr (by decide +kernel) (pa_cons (pe_call T.lpsiL hr (by rfl) T.gLpsi T.kLpsi T.bLpsi .nil pass0 (pa_cons (pe_lst (pa_cons (pv 4) pa_nil)) pa_nil)) pa_nil)) (nomark _)) (pss_one (ps_ret pe_bl)) pss_nil)
        -- most = _law_power(w, total) * product
        (pss_cons (ps_set (i := 9) scLaw.nd rfl (.inl rfl) (pe_op op_mulW (pe_call T.lpow hr1 (by rfl) T.gLpow T.kLpow T.bLpow .nil pass0 (pa_cons (pv 6) (pa_cons (pv 5) pa_nil))) (pv 7)))
        (pss_cons (ps_if (PW.pt (pw_or (pt_cmpR op_gt (pv 8) (pv 9) (nomark _))
            (pw_or (pt_cmpR op_ne (pe_cmpR op_eq (pv 8) (pv 9) (nomark _)) (pe_cmpR op_eq (pe_callB (cr_min rfl) (by rfl) T.min (by decide +kernel) (pa_cons (pv 4) pa_nil)) (pe_callB (cr_max rfl) (by rfl) T.max (by decide +kernel) (pa_cons (pv 4) pa_nil)) (nomark _)) (nomark _))
            (pw_or (pt_cmpR op_lt (pv 8) (pv 7) (nomark _)) (pw_or1 (pt_cmpR op_ne (pe_cmpR op_eq (pv 8) (pv 7) (nomark _)) (pe_cmpR op_eq (pv 6) pe_int (nomark _)) (nomark _))))))) (pss_one (ps_ret pe_bl)) pss_nil)
        -- table = tuple([tuple([..]) for row in range(..)])
        (pss_cons (ps_set (i := 10) scLaw.nd rfl (.inl rfl) (pe_callTy call_tuple_of (by rfl) T.tuple (by decide +kernel) (pa_cons (pe_lc (own := [("row", 12)]) (g := gName 12) (tt := tYes) rfl scLaw.nd
            (pi_range1 (by rfl) T.rng (pa_cons (pe_call T.any hr1 (by rfl) T.gAny T.kAny T.bAny .nil pass0 (pa_cons (pv 1) (pa_cons pe_int pa_nil))) pa_nil))
            (blkOk_by (N := nLaw) (sc := defScope sLaw) (by decide +kernel)) (fun _ _ _ _ _ => pg_name (i := 12) scLaw.nd rfl (Or.inl rfl)) (fun _ _ _ _ _ => pts_nil)
            (fun _ _ _ _ _ => pe_callTy (tup_of (K := K) rfl) (by rfl) T.tuple (by decide +kernel) (pa_cons (pe_lc (own := [("one", 11)]) (g := gName 11) (tt := tYes) rfl scLaw.nd
              (pi_range1 (by rfl) T.rng (pa_cons (pe_call T.any hr1 (by rfl) T.gAny T.kAny T.bAny .nil pass0 (pa_cons (pv 1) (pa_cons pe_int pa_nil))) pa_nil))
              (blkRow _ (by rfl)) (fun _ _ _ _ _ => pg_name (i := 11) scLaw.nd rfl (Or.inl rfl)) (fun _ _ _ _ _ => pts_nil)
              (fun _ _ _ _ _ => pe_call T.any hr1 (by rfl) T.gAny T.kAny T.bAny .nil pass0 (pa_cons (pv 1) (pa_cons pe_int pa_nil)))) pa_nil))) pa_nil)))
        (pss_one (ps_if (pt_cmpR op_ne (pe_callB (call_reprI hu T.dig) (by rfl) T.repr (by decide +kernel) (pa_cons (pe_kwOnly T.psi hr (by rfl) T.gPsi T.kPsi T.kbPsi pass0 (pk_cons (pv 10) pk_nil)) pa_nil)) (pe_callB (call_reprI hu T.dig) (by rfl) T.repr (by decide +kernel) (pa_cons (pe_call T.lpsiT hr (by rfl) T.gLpsi T.kLpsi T.bLpsi .nil pass0 (pa_cons (pv 10) pa_nil)) pa_nil)) (nomark _)) (pss_one (ps_ret pe_bl)) pss_nil))))))))))))))
      (pss_one (ps_ret (pe_and (pe_cmpR op_eq (pe_call T.pow hr (by rfl) T.gPow T.kPow T.bPow .nil pass0 (pa_cons pe_int pa_nil)) pe_int (nomark _))
        (pe_and (pe_cmpR op_eq (pe_call T.psi hr (by rfl) T.gPsi T.kPsi T.bPsi .nil pass0 (pa_cons (pe_tup pa_nil) pa_nil)) pe_int (nomark _))
        (pe_and (pe_cmpR op_eq (pe_call T.psi hr (by rfl) T.gPsi T.kPsi T.bPsi .nil pass0 (pa_cons (pe_tup (pa_cons (pe_tup pa_nil) (pa_cons (pe_tup (pa_cons pe_int pa_nil)) pa_nil))) pa_nil)) pe_int (nomark _))
        (pe_one (pe_cmpR op_eq (pe_call T.pow hr (by rfl) T.gPow T.kPow T.bPow .nil pass0 (pa_cons pe_int pa_nil)) (pe_call T.lpow hr1 (by rfl) T.gLpow T.kLpow T.bLpow .nil pass0 (pa_cons pe_int (pa_cons pe_int pa_nil))) (nomark _))))))))), ?_⟩
    -- deal = _law_draw(script, 14)
    refine ⟨_, rfl, a, ns, 14, rfl, hS, by decide, by decide, fun H1 p q0 cs b s1 fp fq D => ?_⟩
    refine ⟨8, rfl, by decide, by decide, for_range (lo := 0) (n := 8) (fun i σ H2 => ∃ v2 v3 v4 v5 v6 v7 v8 v9 v10 cs b, σ = [some (.ref a), some (.ref p), v2, v3, v4, v5, v6, v7, v8, v9, v10, none, none] ∧ Deal H2 p q0 cs b)
      ⟨none, none, none, none, none, none, none, none, none, cs, b, rfl, D⟩ ?_ ?_⟩
    · rintro i σ H2 hi ⟨v2, v3, v4, v5, v6, v7, v8, v9, v10, cs, b, rfl, D⟩
      clear hi s1 fp fq hS
      -- bound = _law_of(deal, [3, 8, 64])
      refine ⟨_, rfl, by show 3 ≤ sizeLine; decide, fun l nl => ?_⟩
      refine ⟨p, q0, l, cs, b, [.int 3, .int 8, .int 64], rfl, D.keep (same_new nl), sq_at upd_same, (ne_of_none D.top nl).symm, (ne_of_none D.low nl).symm, by simp, by decide, fun H3 v j cs b D f3 hv => ?_⟩
      obtain ⟨n, rfl, n0, n1⟩ : ∃ n : Int, v = .int n ∧ 3 ≤ n ∧ n ≤ 64 := by
        match j, hv with
        | 0, hv => exact ⟨3, (Option.some.inj hv).symm, by decide, by decide⟩
        | 1, hv => exact ⟨8, (Option.some.inj hv).symm, by decide, by decide⟩
        | 2, hv => exact ⟨64, (Option.some.inj hv).symm, by decide, by decide⟩
        | j + 3, hv => simp at hv
      clear f3 hv nl
      -- some = [1 + _law_any(deal, bound) for one in range(1 + _law_any(deal, 5))]
      refine ⟨_, rfl, p, q0, cs, b, 5, rfl, D, by decide, by decide, fun H4 r cs b D _ r0 r1 => ?_⟩
      refine ⟨_, _, rfl, rfl, 1 + r, rfl, by omega, by omega, fun L nL => ?_⟩
      have Lp : L ≠ p := (ne_of_none D.top nL).symm
      have Lq : L ≠ q0 := (ne_of_none D.low nL).symm
      refine lc_it walk_range (fun i H5 => ∃ cs b xs, Deal H5 p q0 cs b ∧ H5 L = some (.lst (xs.map natV)) ∧ xs.length = i ∧ ∀ x ∈ xs, 1 ≤ x ∧ x ≤ 64)
        ⟨cs, b, [], D.keep (same_new nL), upd_same, rfl, fun x hx => nomatch hx⟩ (fun _ _ _ _ => trivial) ?_ ?_
      · rintro i x H5 H6 hi ⟨cs, b, xs, D, hL, hlen, hxs⟩ ⟨rfl, rfl⟩
        refine ⟨rfl, tt_yes ?_⟩
        refine ⟨_, rfl, _, rfl, p, q0, cs, b, n, rfl, D, by omega, by omega, fun H7 z cs b D f7 z0 z1 => ?_⟩
        obtain ⟨m, rfl⟩ : ∃ m : Nat, z = (m : Int) := ⟨z.toNat, by omega⟩
        refine ⟨_, _, rfl, rfl, _, f7 L _ Lp Lq hL, ?_, cs, b, xs ++ [1 + m], (D.keepBut Lp Lq), ?_, ?_, ?_⟩
        · rw [List.length_map]
          exact small1000 (by omega)
        · rw [upd_same, List.map_append, natV_one]
        · rw [List.length_append, hlen]
          rfl
        · intro y hy
          rcases List.mem_append.mp hy with h | h
          · exact hxs y h
          · rw [List.mem_singleton.mp h]
            omega
      rintro H5 ⟨cs, b, xs, D, hL, hlen, hxs⟩
      have len0 : xs ≠ [] := by
        rintro rfl
        rw [List.length_nil] at hlen
        omega
      have len5 : xs.length ≤ 5 := by omega
      clear hlen r0 r1 nL
      have S : Sm H5 p q0 L xs 5 64 := ⟨⟨cs, b, D⟩, hL, Lp, Lq, len0, len5, hxs⟩
      clear D hL Lp Lq len0 len5 hxs
      -- if _law_any(deal, 3) == 0: some = [some[0] for one in some]
      refine ⟨fun σ' H' => ∃ L xs, σ' = [some (.ref a), some (.ref p), some (.int (0 + (i : Int))), some (.int n), some (.ref L), v5, v6, v7, v8, v9, v10, none, none] ∧ Sm H' p q0 L xs 5 64, ?_, ?_⟩
      · obtain ⟨⟨cs, b, D⟩, hL, lp, lq, ne, le, bd⟩ := S
        refine ⟨_, rfl, p, q0, cs, b, 3, rfl, D, by decide, by decide, fun H6 r cs b D f6 r0 r1 => ⟨rfl, _, rfl, ite2 (fun _ => ?_) (fun _ => ?_)⟩⟩
        · obtain ⟨x0, ys, rfl⟩ : ∃ x0 ys, xs = x0 :: ys := by
            cases xs with
            | nil => exact absurd rfl ne
            | cons x ys => exact ⟨x, ys, rfl⟩
          refine rd_same (f6 L _ lp lq hL) rfl (by omega) fun M H7 s7 nM hM => ?_
          refine ⟨M, List.replicate (x0 :: ys).length x0, rfl, ⟨cs, b, D.keep s7⟩, hM, (ne_of_none D.top nM).symm, (ne_of_none D.low nM).symm, by simp, by rw [List.length_replicate]; exact le, fun x hx => ?_⟩
          rw [List.eq_of_mem_replicate hx]
          exact bd x0 (by simp)
        · exact ⟨L, xs, rfl, ⟨cs, b, D⟩, f6 L _ lp lq hL, lp, lq, ne, le, bd⟩
      clear S L xs cs b H5
      rintro σ H5 ⟨L, xs, rfl, S⟩
      -- if _law_any(deal, 4) == 0: some = [some[0] for one in some] + [some[0] + 1]
      refine ⟨fun σ' H' => ∃ L xs, σ' = [some (.ref a), some (.ref p), some (.int (0 + (i : Int))), some (.int n), some (.ref L), v5, v6, v7, v8, v9, v10, none, none] ∧ Sm H' p q0 L xs 6 65, ?_, ?_⟩
      · obtain ⟨⟨cs, b, D⟩, hL, lp, lq, ne, le, bd⟩ := S
        refine ⟨_, rfl, p, q0, cs, b, 4, rfl, D, by decide, by decide, fun H6 r cs b D f6 r0 r1 => ⟨rfl, _, rfl, ite2 (fun _ => ?_) (fun _ => ?_)⟩⟩
        · obtain ⟨x0, ys, rfl⟩ : ∃ x0 ys, xs = x0 :: ys := by
            cases xs with
            | nil => exact absurd rfl ne
            | cons x ys => exact ⟨x, ys, rfl⟩
          have hL6 := f6 L _ lp lq hL
          unfold tAsg tOp
          refine rd_same hL6 rfl (by omega) fun M H7 s7 nM hM => ?_
          refine ⟨_, rfl, L, _, 0, natV x0, rfl, rfl, sq_at (s7 _ _ hL6), atI_nat (j := 0) rfl, _, _, rfl, rfl, by show 1 ≤ sizeLine; decide, fun G nG => ?_⟩
          have nGM : M ≠ G := ne_of_none hM nG
          refine ⟨M, G, _, _, rfl, rfl, by rw [upd_ne nGM]; exact hM, upd_same, ?_, fun O nO => ?_⟩
          · rw [List.length_map, List.length_replicate]
            exact Nat.le_of_lt (small1000 (by show (x0 :: ys).length + 1 ≤ 1000; omega))
          · have s8 := (s7.trans (same_new nG (o := .lst [.int ((x0 : Int) + 1)]))).trans (same_new nO (o := .lst ((List.replicate (x0 :: ys).length x0).map natV ++ [.int ((x0 : Int) + 1)])))
            have nO6 : H6 O = none := free_back (s7.trans (same_new nG (o := .lst [.int ((x0 : Int) + 1)]))) nO
            refine ⟨O, List.replicate (x0 :: ys).length x0 ++ [x0 + 1], rfl, ⟨cs, b, D.keep s8⟩, ?_, (ne_of_none D.top nO6).symm, (ne_of_none D.low nO6).symm, by simp, ?_, fun x hx => ?_⟩
            · rw [upd_same, List.map_append]
              rfl
            · rw [List.length_append, List.length_replicate]
              show (x0 :: ys).length + 1 ≤ 6
              omega
            · have b0 := bd x0 (by simp)
              rcases List.mem_append.mp hx with h | h
              · rw [List.eq_of_mem_replicate h]
                omega
              · rw [List.mem_singleton.mp h]
                omega
        · exact ⟨L, xs, rfl, ⟨cs, b, D⟩, f6 L _ lp lq hL, lp, lq, ne, by omega, fun x hx => by have := bd x hx; omega⟩
      clear S L xs H5
      rintro σ H5 ⟨L, xs, rfl, S⟩
      have hSum : xs.sum ≤ 390 := by
        have h1 := sum_bound xs S.bd
        have h2 := S.le
        omega
      obtain ⟨x0, ys, exs⟩ : ∃ x0 ys, xs = x0 :: ys := by
        cases e : xs with
        | nil => exact absurd e S.ne
        | cons x ys => exact ⟨x, ys, rfl⟩
      have hx0 : xs[0]? = some x0 := by rw [exs]; rfl
      have bx0 := S.bd x0 (by rw [exs]; simp)
      have at0 : atI (xs.map natV) 0 = some (natV x0) := atI_nat (j := 0) (by rw [List.getElem?_map, hx0]; rfl)
      have sqI : ∀ {H' : Hp}, Sm H' p q0 L xs 6 65 → SqL K H' L ((xs.map fun n : Nat => (n : Int)).map V.int) := fun S => by rw [nat_ints]; exact sq_at S.hL
      -- total, w = (sum(some), len(some))
      refine ⟨_, rfl, L, _, rfl, sqI S, _, rfl, L, _, rfl, .inl (sq_at S.hL), _, _, rfl, ?_⟩
      rw [sum_ints, List.length_map]
      obtain ⟨s, hs⟩ : ∃ s, xs.sum = s := ⟨_, rfl⟩
      obtain ⟨wd, hw⟩ : ∃ wd, xs.length = wd := ⟨_, rfl⟩
      rw [hs, hw]
      rw [hs] at hSum
      have hw6 : wd ≤ 6 := by rw [← hw]; exact S.le
      -- if repr(power(total)) != ..
      refine ⟨_, rfl, s, rfl, by omega, _, rfl, pow_self_big (by omega), _, rfl, _, rfl, s, s, rfl, by omega, by omega, _, rfl, pow_self_big (by omega), rfl, _, rfl, ne_self ?_⟩
      refine ⟨_, rfl, L, _, 0, natV x0, rfl, rfl, sq_at S.hL, at0, x0, rfl, by omega, _, rfl, pow_self_big (by omega), _, rfl, L, _, 0, natV x0, rfl, rfl, sq_at S.hL, at0, _, rfl, L, _, 0, natV x0, rfl, rfl, sq_at S.hL, at0, x0, x0, rfl, by omega, by omega, _, rfl, pow_self_big (by omega), rfl, _, rfl, ne_self ?_⟩
      -- product, whole = (psi((tuple(some),)), power(total))
      refine ⟨_, rfl, L, _, rfl, .inl ⟨sq_at S.hL, fun t1 n1 => ⟨by show 1 ≤ sizeLine; decide, fun t2 n2 => ?_⟩⟩⟩
      have n12 : t1 ≠ t2 := ne_of_none upd_same n2
      refine ⟨t2, [xs], rfl, tab_oneT upd_same (by rw [upd_ne n12]; exact upd_same), fun ys hy x hx => ?_, ?_, by show 1 ≤ 20; decide, fun ys hy => ?_, fun H6 s6 => ?_⟩
      · rw [List.mem_singleton.mp hy] at hx
        have := S.bd x hx
        omega
      · show xs.sum + 0 ≤ 4000
        omega
      · rw [List.mem_singleton.mp hy]
        omega
      refine ⟨_, rfl, s, rfl, by omega, _, _, rfl, ?_⟩
      have S6 := S.keep (((same_new n1).trans (same_new n2)).trans s6)
      clear s6 n1 n2 n12 S
      have hPr : prodT [xs] = prods xs := by simp [prodT]
      rw [hPr]
      have pos : ∀ y ∈ xs, 0 < y := fun y hy => by have := S6.bd y hy; omega
      obtain ⟨lst1, lst2⟩ := least xs pos S6.ne
      have bigP : (((prods xs : Nat) : Int)).natAbs < 10 ^ 4300 := by
        refine Nat.lt_of_le_of_lt ?_ (pow_self_big (s := s) (by omega))
        rw [Int.natAbs_natCast, Int.natAbs_natCast, ← hs]
        exact lst1
      -- if repr(product) != repr(_law_psi([some]))
      refine ⟨_, rfl, _, rfl, bigP, _, rfl, by show 1 ≤ sizeLine; decide, fun l nl => ?_⟩
      refine ⟨l, [xs], rfl, tab_oneL upd_same ((same_new nl) _ _ S6.hL), fun ys hy x hx => ?_, ?_, _, rfl, ?_, rfl, _, rfl, ?_⟩
      · rw [List.mem_singleton.mp hy] at hx
        have := S6.bd x hx
        omega
      · show xs.sum + 0 ≤ 4000
        omega
      · rw [hPr]
        exact bigP
      rw [hPr]
      refine ne_self ?_
      have S7 := S6.keep (same_new (o := .lst [.ref L]) nl)
      clear S6 nl
      -- most = _law_power(w, total) * product
      have bitsP : (((prods xs : Nat) : Int)).natAbs < 2 ^ 64001 := by
        refine Nat.lt_of_le_of_lt ?_ (pow_bits (B := s) (e := s) (by omega) (by omega))
        rw [Int.natAbs_natCast, Int.natAbs_natCast, ← hs]
        exact lst1
      refine ⟨_, rfl, _, rfl, wd, s, rfl, by omega, by omega, _, rfl, _, _, rfl, rfl, wide_mul (pow_bits (by omega) (by omega)) bitsP (by decide) (by decide) (by decide), ?_⟩
      -- if whole > most or ..
      have hne := S7.ne
      have mst := Pw.most x0 ys (fun y hy => pos y (by rw [exs]; exact hy))
      rw [← exs, hs, show ys.length + 1 = wd by rw [← hw, exs]; rfl] at mst
      rw [hs] at lst1 lst2
      rw [hw] at lst2
      obtain ⟨m1, m2⟩ := mst
      have hmul : ((fun i j => V.int (i * j)) ((wd ^ s : Nat) : Int) ((prods xs : Nat) : Int)) = V.int ((wd ^ s * prods xs : Nat) : Int) := by
        show V.int _ = _
        rw [Int.natCast_mul]
      rw [hmul]
      refine ⟨_, rfl, _, rfl, _, _, rfl, rfl, _, rfl, if_no (by omega) ?_⟩
      refine ⟨_, rfl, _, rfl, rfl, _, rfl, L, _, rfl, sqI S7, by rw [List.length_map]; exact List.length_pos_iff.mpr hne, fun mn hmn hle => ?_⟩
      refine ⟨_, rfl, L, _, rfl, sqI S7, by rw [List.length_map]; exact List.length_pos_iff.mpr hne, fun mx hmx hge => ⟨rfl, rfl, _, rfl, ne_same ?_ ?_⟩⟩
      · -- both sides say whether all are the same
        have all : (mn = mx) ↔ ∀ y ∈ ys, y = x0 := by
          obtain ⟨a1, ha1, rfl⟩ := List.mem_map.mp hmn
          obtain ⟨a2, ha2, rfl⟩ := List.mem_map.mp hmx
          have le1 : ∀ y ∈ xs, a1 ≤ y := fun y hy => by have := hle _ (List.mem_map.mpr ⟨y, hy, rfl⟩); omega
          have le2 : ∀ y ∈ xs, y ≤ a2 := fun y hy => by have := hge _ (List.mem_map.mpr ⟨y, hy, rfl⟩); omega
          constructor
          · intro e y hy
            have h1 := le1 y (by rw [exs]; exact List.mem_cons_of_mem _ hy)
            have h2 := le2 y (by rw [exs]; exact List.mem_cons_of_mem _ hy)
            have h3 := le1 x0 (by rw [exs]; simp)
            have h4 := le2 x0 (by rw [exs]; simp)
            omega
          · intro h
            have : ∀ y ∈ xs, y = x0 := fun y hy => by
              rw [exs] at hy
              rcases List.mem_cons.mp hy with q | q
              · exact q
              · exact h y q
            rw [this a1 ha1, this a2 ha2]
        have iff1 : ((s ^ s : Nat) : Int) = ((wd ^ s * prods xs : Nat) : Int) ↔ mn = mx := by
          rw [all, ← m2]
          omega
        show V.bl (decide (V.int _ = V.int _)) = V.bl (decide (V.int _ = V.int _))
        congr 1
        by_cases e : mn = mx
        · rw [decide_eq_true (congrArg V.int (iff1.mpr e)), decide_eq_true (congrArg V.int e)]
        · rw [decide_eq_false (fun z => e (iff1.mp (V.int.inj z))), decide_eq_false (fun z => e (V.int.inj z))]
      refine ⟨_, rfl, _, rfl, _, _, rfl, rfl, _, rfl, if_no (by omega) ?_⟩
      refine ⟨_, rfl, _, rfl, rfl, _, rfl, rfl, rfl, _, rfl, ne_same ?_ ?_⟩
      · show V.bl (decide (V.int _ = V.int _)) = V.bl (decide (V.int _ = V.int _))
        have iff2 : ((s ^ s : Nat) : Int) = ((prods xs : Nat) : Int) ↔ (wd : Int) = 1 := by
          have : (s ^ s = prods xs) ↔ wd = 1 := by rw [← lst2]; exact eq_comm
          omega
        congr 1
        by_cases e : (wd : Int) = 1
        · rw [decide_eq_true (congrArg V.int (iff2.mpr e)), decide_eq_true (congrArg V.int e)]
        · rw [decide_eq_false (fun z => e (iff2.mp (V.int.inj z))), decide_eq_false (fun z => e (V.int.inj z))]
      -- table = tuple([tuple([..]) for row in range(..)])
      obtain ⟨⟨cs, b, D⟩, _⟩ := S7
      clear sqI at0 hx0 bitsP bigP m1 m2 lst1 lst2 hmul
      refine ⟨_, rfl, p, q0, cs, b, 4, rfl, D, by decide, by decide, fun H8 r cs b D f8 r0 r1 => ⟨r, rfl, by omega, by omega, fun G nG => ?_⟩⟩
      have Gp : G ≠ p := (ne_of_none D.top nG).symm
      have Gq : G ≠ q0 := (ne_of_none D.low nG).symm
      refine lc_it walk_range (fun i H5 => ∃ cs b as rows, Deal H5 p q0 cs b ∧ H5 G = some (.lst (as.map V.ref)) ∧ as.length = i ∧ rows.length = i ∧ (∀ xs ∈ rows, xs.length ≤ 3 ∧ ∀ x ∈ xs, x ≤ 8) ∧
          ∀ (i : Nat) (a : Addr) (xs : List Nat), as[i]? = some a → rows[i]? = some xs → H5 a = some (.tup (xs.map natV)) ∧ a ≠ p ∧ a ≠ q0 ∧ a ≠ G)
        ⟨cs, b, [], [], D.keep (same_new nG), upd_same, rfl, rfl, fun x hx => absurd hx List.not_mem_nil, fun i a xs h1 _ => by simp at h1⟩ (fun _ _ _ _ => trivial) ?_ ?_
      · rintro i x H5 H6 hi ⟨cs, b, as, rows, D, hG, la, lr, hr, hat⟩ ⟨rfl, rfl⟩
        refine ⟨rfl, tt_yes ?_⟩
        unfold tCB tCons
        refine rd_row D fun J H7 xs cs b D f7 hJ lx bx => ?_
        refine ⟨J, _, rfl, .inl ⟨sq_at hJ, fun t nt => ?_⟩⟩
        have hG7 := f7 G _ Gp Gq hG
        have tp : t ≠ p := (ne_of_none D.top nt).symm
        have tq : t ≠ q0 := (ne_of_none D.low nt).symm
        have tG : t ≠ G := (ne_of_none hG7 nt).symm
        refine ⟨_, by rw [upd_ne tG.symm]; exact hG7, ?_, cs, b, as ++ [t], rows ++ [xs], (D.keepBut tp tq).keepBut Gp Gq, ?_, ?_, ?_, ?_, ?_⟩
        · rw [List.length_map]
          exact small1000 (by omega)
        · rw [upd_same, List.map_append]
          rfl
        · rw [List.length_append, la]
          rfl
        · rw [List.length_append, lr]
          rfl
        · intro ys hy
          rcases List.mem_append.mp hy with h | h
          · exact hr ys h
          · rw [List.mem_singleton.mp h]
            exact ⟨lx, bx⟩
        · intro j a ys h1 h2
          by_cases hj : j < as.length
          · rw [List.getElem?_append_left hj] at h1
            rw [List.getElem?_append_left (by omega)] at h2
            obtain ⟨g1, g2, g3, g4⟩ := hat j a ys h1 h2
            have g5 := f7 a _ g2 g3 g1
            have g6 : a ≠ t := ne_of_none g5 nt
            exact ⟨by rw [upd_ne g4, upd_ne g6]; exact g5, g2, g3, g4⟩
          · have e1 : j = as.length := by
              have := (List.getElem?_eq_some_iff.mp h1).1
              rw [List.length_append] at this
              have e : ([t] : List Addr).length = 1 := rfl
              omega
            subst e1
            rw [List.getElem?_append_right (Nat.le_refl _), Nat.sub_self] at h1
            rw [List.getElem?_append_right (by omega), show as.length - rows.length = 0 by omega] at h2
            cases Option.some.inj h1
            cases Option.some.inj h2
            exact ⟨by rw [upd_ne tG]; exact upd_same, tp, tq, tG⟩
      rintro H5 ⟨cs, b, as, rows, D, hG, la, lr, hr, hat⟩
      refine ⟨G, _, rfl, .inl ⟨sq_at hG, fun t nt => ?_⟩⟩
      have D := D.keep (same_new (o := .tup (as.map V.ref)) nt)
      have TT : TabT K (upd H5 t (.tup (as.map V.ref))) t rows := ⟨as, st_at upd_same, by omega, fun i a xs h1 h2 => st_at ((same_new nt) _ _ (hat i a xs h1 h2).1)⟩
      have rl : rows.length ≤ 3 := by omega
      have rs : sumT rows ≤ 72 := rows_sum rows hr rl
      have bigT : (((prodT rows : Nat) : Int)).natAbs < 10 ^ 4300 := rows_big rows hr rs
      -- if repr(psi(table=table)) != repr(_law_psi(table))
      refine ⟨_, rfl, t, rows, rfl, TT, fun xs hx x hy => ?_, by omega, by omega, fun xs hx => ?_, fun H9 s9 => ?_⟩
      · have := (hr xs hx).2 x hy
        omega
      · have := (hr xs hx).1
        omega
      refine ⟨_, rfl, bigT, _, rfl, t, rows, rfl, ?_, fun xs hx x hy => ?_, by omega, _, rfl, bigT, rfl, _, rfl, ne_self ?_⟩
      · obtain ⟨as, h1, h2, h3⟩ := TT
        exact ⟨as, same_tup s9 h1, h2, fun i a xs g1 g2 => same_tup s9 (h3 i a xs g1 g2)⟩
      · have := (hr xs hx).2 x hy
        omega
      exact ⟨_, _, _, _, _, _, _, _, _, cs, b, rfl, D.keep s9⟩
    · rintro σ H2 ⟨v2, v3, v4, v5, v6, v7, v8, v9, v10, cs, b, rfl, D⟩
      clear s1 fp fq hS
      -- power(0) == 1 and ..
      refine ⟨0, rfl, by omega, rfl, true, dec_yes rfl, iteT ?_⟩
      refine ⟨Nat.zero_le _, fun t nt => ⟨t, [], rfl, tab_nil upd_same, fun xs h => absurd h List.not_mem_nil, Nat.zero_le _, Nat.zero_le _, fun xs h => absurd h List.not_mem_nil, fun H3 s3 => ?_⟩⟩
      refine ⟨rfl, true, dec_yes rfl, iteT ?_⟩
      refine ⟨Nat.zero_le _, fun t1 n1 => ⟨by show 1 ≤ sizeLine; decide, fun t2 n2 => ⟨by show 2 ≤ sizeLine; decide, fun t3 n3 => ?_⟩⟩⟩
      have n12 : t1 ≠ t2 := ne_of_none upd_same n2
      have n23 : t2 ≠ t3 := ne_of_none upd_same n3
      have n13 : t1 ≠ t3 := ne_of_none (by rw [upd_ne n12]; exact upd_same) n3
      refine ⟨t3, [[], [0]], rfl, ⟨[t1, t2], st_at upd_same, rfl, fun i a xs h1 h2 => ?_⟩, fun xs hx x hy => ?_, by decide, by decide, fun xs hx => ?_, fun H4 s4 => ?_⟩
      · match i, h1, h2 with
        | 0, h1, h2 =>
          cases Option.some.inj h1
          cases Option.some.inj h2
          exact st_at (by rw [upd_ne n13, upd_ne n12]; exact upd_same)
        | 1, h1, h2 =>
          cases Option.some.inj h1
          cases Option.some.inj h2
          exact st_at (by rw [upd_ne n23]; exact upd_same)
        | i + 2, h1, h2 => simp at h1
      · rcases List.mem_cons.mp hx with e | hx
        · rw [e] at hy
          cases hy
        · rw [List.mem_singleton.mp hx] at hy
          rw [List.mem_singleton.mp hy]
          decide
      · rcases List.mem_cons.mp hx with e | hx
        · rw [e]
          decide
        · rw [List.mem_singleton.mp hx]
          decide
      refine ⟨rfl, true, dec_yes rfl, iteT ?_⟩
      refine ⟨1024, rfl, by decide, 1024, 1024, rfl, by decide, by decide, rfl, ?_⟩
      rw [decide_eq_true rfl]
      exact q _
end
theorem all_mk {l : PySem.W.OpenLaw} {w : World} {K : PySem.W.Frag} {h : Heap} {mg : Str → Option Value} {fa f1 f2 f3 f4 f5 f6 f7 f8 f9 : Addr} (X : K.In h) (G : h.Ns mainGlobals mg) (hfa : mg "law" = some (.ref fa))
    {od1 an1 : Option Addr} {sl1 : Array (Option Value)} {oc1 kV1 dc1 pm1 cd1 ct1 : Value} {od2 an2 : Option Addr} {sl2 : Array (Option Value)} {oc2 kV2 dc2 pm2 cd2 ct2 : Value} {od3 an3 : Option Addr} {sl3 : Array (Option Value)} {oc3 kV3 dc3 pm3 cd3 ct3 : Value} {od4 an4 : Option Addr} {sl4 : Array (Option Value)} {oc4 kV4 dc4 pm4 cd4 ct4 : Value} {od5 an5 : Option Addr} {sl5 : Array (Option Value)} {oc5 kV5 dc5 pm5 cd5 ct5 : Value} {od6 an6 : Option Addr} {sl6 : Array (Option Value)} {oc6 kV6 dc6 pm6 cd6 ct6 : Value} {od7 an7 : Option Addr} {sl7 : Array (Option Value)} {oc7 kV7 dc7 pm7 cd7 ct7 : Value} {od8 an8 : Option Addr} {sl8 : Array (Option Value)} {oc8 kV8 dc8 pm8 cd8 ct8 : Value} {od9 an9 : Option Addr} {sl9 : Array (Option Value)} {oc9 kV9 dc9 pm9 cd9 ct9 : Value}
    (a1 : PySem.W.nsIn K mainGlobals "raised" = some (some (.ref f1))) (l1 : K.lookup f1 = some ⟨oc1, od1, .func (PySem.W.fnOf "raised" "raised" (defArgs sRaised) (defBody sRaised) (defScope sRaised) .none kV1 dc1 pm1 an1 cd1 ct1), sl1⟩) (c1 : PySem.W.codeIn K cd1 "raised" = true) (k1 : PySem.W.keepIn K (.ref f1) = true)
    (a2 : PySem.W.nsIn K mainGlobals "power" = some (some (.ref f2))) (l2 : K.lookup f2 = some ⟨oc2, od2, .func (PySem.W.fnOf "power" "power" (defArgs sPower) (defBody sPower) (defScope sPower) .none kV2 dc2 pm2 an2 cd2 ct2), sl2⟩) (c2 : PySem.W.codeIn K cd2 "power" = true) (k2 : PySem.W.keepIn K (.ref f2) = true)
    (a3 : PySem.W.nsIn K mainGlobals "psi" = some (some (.ref f3))) (l3 : K.lookup f3 = some ⟨oc3, od3, .func (PySem.W.fnOf "psi" "psi" (defArgs sPsi) (defBody sPsi) (defScope sPsi) .none kV3 dc3 pm3 an3 cd3 ct3), sl3⟩) (c3 : PySem.W.codeIn K cd3 "psi" = true) (k3 : PySem.W.keepIn K (.ref f3) = true)
    (a4 : PySem.W.nsIn K mainGlobals "_law_draw" = some (some (.ref f4))) (l4 : K.lookup f4 = some ⟨oc4, od4, .func (PySem.W.fnOf "_law_draw" "_law_draw" (defArgs sDraw) (defBody sDraw) (defScope sDraw) .none kV4 dc4 pm4 an4 cd4 ct4), sl4⟩) (c4 : PySem.W.codeIn K cd4 "_law_draw" = true) (k4 : PySem.W.keepIn K (.ref f4) = true)
    (a5 : PySem.W.nsIn K mainGlobals "_law_any" = some (some (.ref f5))) (l5 : K.lookup f5 = some ⟨oc5, od5, .func (PySem.W.fnOf "_law_any" "_law_any" (defArgs sAny) (defBody sAny) (defScope sAny) .none kV5 dc5 pm5 an5 cd5 ct5), sl5⟩) (c5 : PySem.W.codeIn K cd5 "_law_any" = true) (k5 : PySem.W.keepIn K (.ref f5) = true)
    (a6 : PySem.W.nsIn K mainGlobals "_law_of" = some (some (.ref f6))) (l6 : K.lookup f6 = some ⟨oc6, od6, .func (PySem.W.fnOf "_law_of" "_law_of" (defArgs sOf) (defBody sOf) (defScope sOf) .none kV6 dc6 pm6 an6 cd6 ct6), sl6⟩) (c6 : PySem.W.codeIn K cd6 "_law_of" = true) (k6 : PySem.W.keepIn K (.ref f6) = true)
    (a7 : PySem.W.nsIn K mainGlobals "_law_power" = some (some (.ref f7))) (l7 : K.lookup f7 = some ⟨oc7, od7, .func (PySem.W.fnOf "_law_power" "_law_power" (defArgs sLpow) (defBody sLpow) (defScope sLpow) .none kV7 dc7 pm7 an7 cd7 ct7), sl7⟩) (c7 : PySem.W.codeIn K cd7 "_law_power" = true) (k7 : PySem.W.keepIn K (.ref f7) = true)
    (a8 : PySem.W.nsIn K mainGlobals "_law_psi" = some (some (.ref f8))) (l8 : K.lookup f8 = some ⟨oc8, od8, .func (PySem.W.fnOf "_law_psi" "_law_psi" (defArgs sLpsi) (defBody sLpsi) (defScope sLpsi) .none kV8 dc8 pm8 an8 cd8 ct8), sl8⟩) (c8 : PySem.W.codeIn K cd8 "_law_psi" = true) (k8 : PySem.W.keepIn K (.ref f8) = true)
    (a9 : PySem.W.nsIn K mainGlobals "law" = some (some (.ref f9))) (l9 : K.lookup f9 = some ⟨oc9, od9, .func (PySem.W.fnOf "law" "law" (defArgs sLaw) (defBody sLaw) (defScope sLaw) .none kV9 dc9 pm9 an9 cd9 ct9), sl9⟩) (c9 : PySem.W.codeIn K cd9 "law" = true) (k9 : PySem.W.keepIn K (.ref f9) = true)
    (z1 : PySem.W.nsIn K mainGlobals "abs" = some none)
    (z2 : PySem.W.nsIn K mainGlobals "int" = some none)
    (z3 : PySem.W.nsIn K mainGlobals "len" = some none)
    (z4 : PySem.W.nsIn K mainGlobals "range" = some none)
    (z5 : PySem.W.nsIn K mainGlobals "sum" = some none)
    (z6 : PySem.W.nsIn K mainGlobals "min" = some none)
    (z7 : PySem.W.nsIn K mainGlobals "max" = some none)
    (z8 : PySem.W.nsIn K mainGlobals "repr" = some none)
    (z9 : PySem.W.nsIn K mainGlobals "tuple" = some none)
    (dig : PySem.W.nsIn K cStatics "sys.int_max_str_digits" = some none)
    : ∃ fd : FuncData, (∀ (s : Shared) (v : Value), BindsTo s fd ⟨[v], []⟩ [("script", v)]) ∧ ∀ base : Heap, K.In base → base.Ns mainGlobals mg → FnOk l.prog w K mg base CX0 3 fa fd ["script"] (spLaw K) := by
  have e := hfa.symm.trans (PySem.W.mg_of X G a9)
  cases e
  have F1 := fun_mk (st := sRaised) l1 c1 k1
  have g1 := PySem.W.mg_of X G a1
  have F2 := fun_mk (st := sPower) l2 c2 k2
  have g2 := PySem.W.mg_of X G a2
  have F3 := fun_mk (st := sPsi) l3 c3 k3
  have g3 := PySem.W.mg_of X G a3
  have F4 := fun_mk (st := sDraw) l4 c4 k4
  have g4 := PySem.W.mg_of X G a4
  have F5 := fun_mk (st := sAny) l5 c5 k5
  have g5 := PySem.W.mg_of X G a5
  have F6 := fun_mk (st := sOf) l6 c6 k6
  have g6 := PySem.W.mg_of X G a6
  have F7 := fun_mk (st := sLpow) l7 c7 k7
  have g7 := PySem.W.mg_of X G a7
  have F8 := fun_mk (st := sLpsi) l8 c8 k8
  have g8 := PySem.W.mg_of X G a8
  have F9 := fun_mk (st := sLaw) l9 c9 k9
  have g9 := PySem.W.mg_of X G a9
  have y_abs := PySem.W.mg_none_of X G z1
  have y_int := PySem.W.mg_none_of X G z2
  have y_len := PySem.W.mg_none_of X G z3
  have y_range := PySem.W.mg_none_of X G z4
  have y_sum := PySem.W.mg_none_of X G z5
  have y_min := PySem.W.mg_none_of X G z6
  have y_max := PySem.W.mg_none_of X G z7
  have y_repr := PySem.W.mg_none_of X G z8
  have y_tuple := PySem.W.mg_none_of X G z9
  refine ⟨PySem.W.fnOf "law" "law" (defArgs sLaw) (defBody sLaw) (defScope sLaw) .none kV9 dc9 pm9 an9 cd9 ct9, fun s v => .of_eq rfl, fun base _ _ => ?_⟩
  have b1 := F1.binds (ps := ["base", "times"]) fun _ _ _ _ _ _ us hl => match us, hl with | [_, _], _ => rfl
  have b2 := F2.binds (ps := ["x"]) fun _ _ _ _ _ _ us hl => match us, hl with | [_], _ => rfl
  have b3 := F3.binds (ps := ["table"]) fun _ _ _ _ _ _ us hl => match us, hl with | [_], _ => rfl
  have b4 := F4.binds (ps := ["script", "salt"]) fun _ _ _ _ _ _ us hl => match us, hl with | [_, _], _ => rfl
  have b5 := F5.binds (ps := ["deal", "bound"]) fun _ _ _ _ _ _ us hl => match us, hl with | [_, _], _ => rfl
  have b6 := F6.binds (ps := ["deal", "some"]) fun _ _ _ _ _ _ us hl => match us, hl with | [_, _], _ => rfl
  have b7 := F7.binds (ps := ["x", "many"]) fun _ _ _ _ _ _ us hl => match us, hl with | [_, _], _ => rfl
  have b8 := F8.binds (ps := ["table"]) fun _ _ _ _ _ _ us hl => match us, hl with | [_], _ => rfl
  have kb2 := kw_one (x := "x") F2 (fun _ _ _ _ _ _ _ => rfl) (fun _ _ _ _ _ _ _ => rfl)
  have kb3 := kw_one (x := "table") F3 (fun _ _ _ _ _ _ _ => rfl) (fun _ _ _ _ _ _ _ => rfl)
  have R := ok_raised (P := l.prog) (w := w) (mg := mg) (base := base) (k := 0) F1
  have LP := ok_lpow (P := l.prog) (w := w) (base := base) (k := 0) F7 y_range
  have AN := ok_any (P := l.prog) (w := w) (base := base) (k := 0) F5 y_int
  exact ok_law F9 ⟨f4, f5, f6, f2, f3, f7, f8, _, _, _, _, _, _, _, ok_draw (k := 0) F4 y_abs y_int, AN, ok_of (k := 0) F6 AN b5 k5 g5 y_len, ok_power (k := 0) F2 R b1 k1 g1, ok_psi (k := 0) F3 R b1 k1 g1, LP, ok_lpsiT (k := 0) F8 LP b7 k7 g7, ok_lpsiL (k := 0) F8 LP b7 k7 g7, b4, b5, b6, b2, kb2, b3, kb3, b7, b8, k4, k5, k6, k2, k3, k7, k8, g4, g5, g6, g2, g3, g7, g8, y_len, y_range, y_sum, y_min, y_max, y_repr, y_tuple, dig⟩
end Lw
open PySem PySem.W PyProof.Rows
set_option maxHeartbeats 0 in
theorem PySem.Challenge.cw_fewestpours_k14_whole_powers_holds : PySem.Challenge.rw_fewestpours_k14_whole_powers.Holds := by
  w_on; o_law; k_head; (case hw => w_witness2)
  k_fill
  refine L2.walk_of (l := PySem.Challenge.rw_fewestpours_k14_whole_powers) (n := 63) (k := 3) (x := "script") (CX := fun _ => L2.CX0) (sp := fun w => Lw.spLaw _) rfl (by decide) rfl ⟨rfl, by decide, by decide⟩ (fun w h Y => PySem.W.kIn_of Y) ?F (fun _ _ a ns hl _ hS => ⟨a, ns, rfl, hS, hl, fun _ => rfl⟩) (fun _ _ _ _ _ h => h)
  case F =>
    intro w mg fa h KX G hmg
    refine' Lw.all_mk KX G hmg ?a1 ?l1 ?c1 ?k1 ?a2 ?l2 ?c2 ?k2 ?a3 ?l3 ?c3 ?k3 ?a4 ?l4 ?c4 ?k4 ?a5 ?l5 ?c5 ?k5 ?a6 ?l6 ?c6 ?k6 ?a7 ?l7 ?c7 ?k7 ?a8 ?l8 ?c8 ?k8 ?a9 ?l9 ?c9 ?k9 ?z1 ?z2 ?z3 ?z4 ?z5 ?z6 ?z7 ?z8 ?z9 ?dig
    (case a1 => k_is)
    (case l1 => k_is)
    (case c1 => k_is)
    (case k1 => k_is)
    (case a2 => k_is)
    (case l2 => k_is)
    (case c2 => k_is)
    (case k2 => k_is)
    (case a3 => k_is)
    (case l3 => k_is)
    (case c3 => k_is)
    (case k3 => k_is)
    (case a4 => k_is)
    (case l4 => k_is)
    (case c4 => k_is)
    (case k4 => k_is)
    (case a5 => k_is)
    (case l5 => k_is)
    (case c5 => k_is)
    (case k5 => k_is)
    (case a6 => k_is)
    (case l6 => k_is)
    (case c6 => k_is)
    (case k6 => k_is)
    (case a7 => k_is)
    (case l7 => k_is)
    (case c7 => k_is)
    (case k7 => k_is)
    (case a8 => k_is)
    (case l8 => k_is)
    (case c8 => k_is)
    (case k8 => k_is)
    (case a9 => k_is)
    (case l9 => k_is)
    (case c9 => k_is)
    (case k9 => k_is)
    (case z1 => k_is)
    (case z2 => k_is)
    (case z3 => k_is)
    (case z4 => k_is)
    (case z5 => k_is)
    (case z6 => k_is)
    (case z7 => k_is)
    (case z8 => k_is)
    (case z9 => k_is)
    (case dig => k_is)
