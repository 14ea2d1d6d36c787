/- Loans as numbers. -/
import Derived.Test.YtdbeiefgokocnaaGreatKa
set_option linter.unusedVariables false
set_option linter.unusedSimpArgs false
/- Loans as numbers: days that count, sums, charges; what is kept by all acts. -/
namespace Go.Proofs
open Go Go.RowKit Go.Sim
set_option maxRecDepth 100000
def odTo (c : Nat → Int) (a b : Int) : Nat → Int
  | 0 => max 0 (b - a)
  | i + 1 => if a < c i ∧ c i ≤ b then odTo c a b i - 1 else odTo c a b i
theorem odTo_le (c : Nat → Int) (a b : Int) : ∀ i : Nat, odTo c a b i ≤ max 0 (b - a) ∧ max 0 (b - a) - i ≤ odTo c a b i
  | 0 => ⟨Int.le_refl _, by rw [odTo]; omega⟩
  | i + 1 => by
    have := odTo_le c a b i
    rw [odTo]
    split <;> omega
theorem odTo_add (c : Nat → Int) {a m b : Int} (h1 : a ≤ m) (h2 : m ≤ b) : ∀ i : Nat, odTo c a b i = odTo c a m i + odTo c m b i
  | 0 => by simp only [odTo]; omega
  | i + 1 => by
    have := odTo_add c h1 h2 i
    simp only [odTo]
    split <;> split <;> split <;> omega
theorem odTo_low (c : Nat → Int) (a b : Int) {n : Nat} (inc : ∀ k, k + 1 < n → c k < c (k + 1)) : ∀ i : Nat, i < n → max 0 (b - max a (c i)) ≤ odTo c a b (i + 1)
  | 0, _ => by simp only [odTo]; split <;> omega
  | i + 1, hi => by
    have h1 := odTo_low c a b inc i (by omega)
    have h2 := inc i hi
    rw [odTo]
    split <;> omega
theorem odTo_pos (c : Nat → Int) (a b : Int) {n : Nat} (inc : ∀ k, k + 1 < n → c k < c (k + 1)) : ∀ i : Nat, i ≤ n → 0 ≤ odTo c a b i
  | 0, _ => by rw [odTo]; omega
  | i + 1, hi => by have := odTo_low c a b inc i (by omega); omega
theorem odTo_flat (c : Nat → Int) {a b : Int} (h : b ≤ a) : ∀ i : Nat, odTo c a b i = 0
  | 0 => by simp only [odTo]; omega
  | i + 1 => by
    rw [odTo, if_neg (by omega), odTo_flat c h i]
/-- The days after one, up to another one, that are not closed. -/
def oD (cl : List Int) (a b : Int) : Int := odTo (cAt cl) a b cl.length
theorem oD_in {d : DealN} {cl : List Int} (hd : dealB d cl = true) (a b : Int) : 0 ≤ oD cl a b ∧ oD cl a b ≤ max 0 (b - a) := by
  simp only [dealB, Bool.and_eq_true] at hd
  have hcl := hd.1.1.2
  rw [closedB, Bool.and_eq_true] at hcl
  exact ⟨odTo_pos _ a b (n := cl.length) (fun k hk => clTo_inc (k := k) hcl.2 hk) cl.length (Nat.le_refl _), (odTo_le _ a b _).1⟩
theorem oD_add (cl : List Int) {a m b : Int} (h1 : a ≤ m) (h2 : m ≤ b) : oD cl a b = oD cl a m + oD cl m b := odTo_add _ h1 h2 _
theorem oD_flat (cl : List Int) {a b : Int} (h : b ≤ a) : oD cl a b = 0 := odTo_flat _ h _
structure DealIn (d : DealN) : Prop where
  r : 0 ≤ d.r ∧ d.r ≤ 10000
  c : 0 ≤ d.c ∧ d.c ≤ 64
  a : 0 ≤ d.a ∧ d.a ≤ 10000
  fr : 0 ≤ d.fr ∧ d.fr ≤ 31
  fe : 0 ≤ d.fe ∧ d.fe ≤ 10000
  tm : 1 ≤ d.tm ∧ d.tm ≤ 366
  gr : 0 ≤ d.gr ∧ d.gr ≤ 60
  st : 0 ≤ d.st ∧ d.st ≤ 36500
  sm : 1 ≤ d.sm ∧ d.sm ≤ 1073741824
theorem dealB_in {d : DealN} {cl : List Int} (hd : dealB d cl = true) : DealIn d ∧ tarB d.a d.fr d.fe d.tm d.gr = true := by
  have hd' := hd
  simp only [dealB, lawB, fiveB, tarB, Bool.and_eq_true, inR_iff] at hd
  obtain ⟨⟨⟨⟨h1, h2⟩, _⟩, h3⟩, h4⟩ := hd
  refine ⟨⟨h1.1, h1.2, ?_, ?_, ?_, ?_, ?_, h3, h4⟩, ?_⟩
  · exact h2.1.1.1.1
  · exact h2.1.1.1.2
  · exact h2.1.1.2
  · exact h2.1.2
  · exact h2.2
  · simp only [dealB, fiveB, Bool.and_eq_true] at hd'; exact hd'.1.1.1.2
structure LN where
  (P C Q A : Int)
  op : Bool
  (n lw cs fe dy he : Int)
def lwF (d : DealN) (lw : Int) : Int := min (lw * d.r / 1000000) (d.sm * d.c / 64)
def chF (d : DealN) (lw cs fe : Int) : Int := min (cs * d.a / 1000000 + fe) (lwF d lw)
def beginL (d : DealN) : LN := ⟨d.sm, 0, 0, 0, true, 0, 0, 0, 0, d.st, d.st⟩
def passN (cl : List Int) (x : LN) (day : Int) : Int := oD cl (max x.dy x.he) day
def passL (d : DealN) (cl : List Int) (x : LN) (day : Int) : LN :=
  match x.op with
  | true => ⟨x.P, chF d (x.lw + passN cl x day * x.P) (x.cs + max 0 (passN cl x day - max 0 (d.fr - x.n)) * x.P) x.fe, x.Q, x.A + passN cl x day, true, x.n + passN cl x day, x.lw + passN cl x day * x.P, x.cs + max 0 (passN cl x day - max 0 (d.fr - x.n)) * x.P, x.fe, day, x.he⟩
  | false => { x with dy := day }
structure ActN where
  (D K N : Int)
def payL (x : LN) (m : Int) : LN := { x with Q := x.Q + min m (x.C - x.Q), P := x.P - max 0 (m - (x.C - x.Q)) }
def renewL (d : DealN) (x : LN) : LN := { x with fe := x.fe + d.fe, C := chF d x.lw x.cs (x.fe + d.fe), Q := chF d x.lw x.cs (x.fe + d.fe), A := 0 }
def holdL (x : LN) (m : Int) : LN := { x with he := x.dy + m }
def redeemL (x : LN) : LN := { x with Q := x.C, P := 0, op := false }
/-- The error of an act, and the loan behind it. -/
def actE (d : DealN) (x : LN) (a : ActN) : Int :=
  if d.tm + d.gr < x.A then 25 else if a.K = 1 then (if x.C - x.Q + x.P ≤ a.N then 6 else 0) else if a.K = 3 then (if x.dy < x.he then 26 else 0) else 0
def actL (d : DealN) (x : LN) (a : ActN) : LN :=
  if a.K = 1 then payL x a.N else if a.K = 2 then renewL d x else if a.K = 3 then holdL x a.N else redeemL x
/-- What is kept. -/
structure LOk (d : DealN) (j : Nat) (x : LN) : Prop where
  P : 0 ≤ x.P ∧ x.P ≤ d.sm
  n : 0 ≤ x.n ∧ x.n ≤ x.dy - d.st
  dy : d.st ≤ x.dy ∧ x.dy ≤ 36500
  he : d.st ≤ x.he ∧ x.he ≤ 36866
  lw : 0 ≤ x.lw ∧ x.lw ≤ x.n * d.sm
  cs : 0 ≤ x.cs ∧ x.cs ≤ x.lw
  fe : 0 ≤ x.fe ∧ x.fe ≤ 10000 * j
  A : 0 ≤ x.A ∧ x.A ≤ x.n
  C : x.C = chF d x.lw x.cs x.fe
  Q : 0 ≤ x.Q ∧ x.Q ≤ x.C
theorem div_mono {a b k : Int} (h : a ≤ b) (hk : 0 < k) : a / k ≤ b / k := Int.ediv_le_ediv hk h
theorem mul_nonneg' {a b : Int} (h : 0 ≤ a) (k : 0 ≤ b) : 0 ≤ a * b := Int.mul_nonneg h k
theorem mul_mono {a b k : Int} (h : a ≤ b) (hk : 0 ≤ k) : a * k ≤ b * k := Int.mul_le_mul_of_nonneg_right h hk
theorem mul_mono2 {a b c e : Int} (h : a ≤ b) (k : c ≤ e) (hc : 0 ≤ c) (hb : 0 ≤ b) : a * c ≤ b * e := Int.mul_le_mul h k hc hb
theorem lwF_mono {d : DealN} (h : DealIn d) {l m : Int} (k : l ≤ m) : lwF d l ≤ lwF d m := by
  have := div_mono (mul_mono k h.r.1) (show (0 : Int) < 1000000 by omega)
  unfold lwF; omega
theorem chF_mono {d : DealN} (h : DealIn d) {l m c e f g : Int} (k : l ≤ m) (k2 : c ≤ e) (k3 : f ≤ g) : chF d l c f ≤ chF d m e g := by
  have h1 := div_mono (mul_mono k2 h.a.1) (show (0 : Int) < 1000000 by omega)
  have h2 := lwF_mono h k
  unfold chF; omega
theorem lwF_pos {d : DealN} (h : DealIn d) {l : Int} (k : 0 ≤ l) : 0 ≤ lwF d l := by
  have h1 := Int.ediv_nonneg (mul_nonneg' k h.r.1) (show (0 : Int) ≤ 1000000 by omega)
  have h2 := Int.ediv_nonneg (mul_nonneg' (show 0 ≤ d.sm by have := h.sm; omega) h.c.1) (show (0 : Int) ≤ 64 by omega)
  unfold lwF; omega
theorem chF_pos {d : DealN} (h : DealIn d) {l c f : Int} (k : 0 ≤ l) (k2 : 0 ≤ c) (k3 : 0 ≤ f) : 0 ≤ chF d l c f := by
  have h1 := Int.ediv_nonneg (mul_nonneg' k2 h.a.1) (show (0 : Int) ≤ 1000000 by omega)
  have h2 := lwF_pos h k
  unfold chF; omega
theorem chF_zero {d : DealN} (h : DealIn d) : chF d 0 0 0 = 0 := by
  have h2 := Int.ediv_nonneg (mul_nonneg' (show 0 ≤ d.sm by have := h.sm; omega) h.c.1) (show (0 : Int) ≤ 64 by omega)
  unfold chF lwF; simp; omega
theorem begin_ok' {d : DealN} (h : DealIn d) : LOk d 0 (beginL d) := by
  have := h.sm; have := h.st
  exact ⟨⟨by simp only [beginL]; omega, by simp only [beginL]; omega⟩, ⟨by simp only [beginL]; omega, by simp only [beginL]; omega⟩, ⟨by simp only [beginL]; omega, by simp only [beginL]; omega⟩, ⟨by simp only [beginL]; omega, by simp only [beginL]; omega⟩, ⟨by simp only [beginL]; omega, by simp only [beginL]; omega⟩,
    ⟨by simp only [beginL]; omega, by simp only [beginL]; omega⟩, ⟨by simp only [beginL]; omega, by simp only [beginL]; omega⟩, ⟨by simp only [beginL]; omega, by simp only [beginL]; omega⟩, (chF_zero h).symm, ⟨by simp only [beginL]; omega, by simp only [beginL]; omega⟩⟩
theorem passN_in {d : DealN} {cl : List Int} {j : Nat} {x : LN} (hd : dealB d cl = true) (h : LOk d j x) {day : Int} (h1 : x.dy ≤ day) : 0 ≤ passN cl x day ∧ passN cl x day ≤ day - x.dy := by
  have := oD_in hd (max x.dy x.he) day
  unfold passN; omega
theorem pass_keeps {d : DealN} {cl : List Int} {j : Nat} {x : LN} (hd : dealB d cl = true) (h : LOk d j x) {day : Int} (h1 : x.dy ≤ day) (h2 : day ≤ 36500) : LOk d j (passL d cl x day) := by
  have hi := (dealB_in hd).1
  have hk := passN_in hd h h1
  have hdy := h.dy; have hn := h.n; have hA := h.A
  unfold passL
  generalize passN cl x day = k at *
  cases hop : x.op with
  | false => exact ⟨h.P, ⟨hn.1, by show x.n ≤ day - d.st; omega⟩, ⟨by show d.st ≤ day; omega, h2⟩, h.he, h.lw, h.cs, h.fe, h.A, h.C, h.Q⟩
  | true =>
    have hP := h.P; have hl := h.lw; have hc := h.cs; have hf := h.fe; have hQ := h.Q
    have a1 : 0 ≤ k * x.P := mul_nonneg' hk.1 hP.1
    have a2 : k * x.P ≤ k * d.sm := by rw [Int.mul_comm k, Int.mul_comm k]; exact mul_mono hP.2 hk.1
    have a3 : (x.n + k) * d.sm = x.n * d.sm + k * d.sm := Int.add_mul _ _ _
    have a4 : 0 ≤ max 0 (k - max 0 (d.fr - x.n)) * x.P := mul_nonneg' (by omega) hP.1
    have a5 : max 0 (k - max 0 (d.fr - x.n)) * x.P ≤ k * x.P := mul_mono (by omega) hP.1
    generalize max 0 (k - max 0 (d.fr - x.n)) * x.P = g at *
    refine ⟨hP, ⟨by show 0 ≤ x.n + k; omega, by show x.n + k ≤ day - d.st; omega⟩, ⟨by show d.st ≤ day; omega, h2⟩, h.he, ⟨by show 0 ≤ x.lw + k * x.P; omega, by show x.lw + k * x.P ≤ (x.n + k) * d.sm; omega⟩, ⟨by show 0 ≤ x.cs + g; omega, by show x.cs + g ≤ x.lw + k * x.P; omega⟩, hf, ⟨by show 0 ≤ x.A + k; omega, by show x.A + k ≤ x.n + k; omega⟩, rfl, ⟨hQ.1, ?_⟩⟩
    show x.Q ≤ chF d (x.lw + k * x.P) (x.cs + g) x.fe
    have := chF_mono hi (show x.lw ≤ x.lw + k * x.P by omega) (show x.cs ≤ x.cs + g by omega) (Int.le_refl x.fe)
    have := h.C
    omega
theorem act_keeps {d : DealN} {cl : List Int} {j : Nat} {x : LN} (hd : dealB d cl = true) (h : LOk d j x) (a : ActN) (hN : a.K = 1 → 1 ≤ a.N) (hH : a.K = 3 → 1 ≤ a.N ∧ a.N ≤ 366) (he : actE d x a = 0) : LOk d (j + 1) (actL d x a) := by
  have hi := (dealB_in hd).1
  have hP := h.P; have hf := h.fe; have hQ := h.Q; have hn := h.n; have hdy := h.dy
  have hf2 : x.fe ≤ 10000 * ((j + 1 : Nat) : Int) := by omega
  unfold actL
  by_cases k1 : a.K = 1
  · rw [if_pos k1]
    have hN' := hN k1
    have hlt : ¬ x.C - x.Q + x.P ≤ a.N := by
      intro q
      have : actE d x a ≠ 0 := by
        unfold actE
        by_cases z : d.tm + d.gr < x.A
        · rw [if_pos z]; omega
        · rw [if_neg z, if_pos k1, if_pos q]; omega
      exact this he
    exact ⟨⟨by show 0 ≤ x.P - max 0 (a.N - (x.C - x.Q)); omega, by show x.P - max 0 (a.N - (x.C - x.Q)) ≤ d.sm; omega⟩, h.n, h.dy, h.he, h.lw, h.cs, ⟨hf.1, hf2⟩, h.A, h.C, ⟨by show 0 ≤ x.Q + min a.N (x.C - x.Q); omega, by show x.Q + min a.N (x.C - x.Q) ≤ x.C; omega⟩⟩
  rw [if_neg k1]
  by_cases k2 : a.K = 2
  · rw [if_pos k2]
    have := hi.fe
    have hp := chF_pos hi h.lw.1 h.cs.1 (show 0 ≤ x.fe + d.fe by omega)
    exact ⟨hP, h.n, h.dy, h.he, h.lw, h.cs, ⟨by show 0 ≤ x.fe + d.fe; omega, by show x.fe + d.fe ≤ 10000 * ((j + 1 : Nat) : Int); omega⟩, ⟨Int.le_refl _, hn.1⟩, rfl, ⟨hp, Int.le_refl _⟩⟩
  rw [if_neg k2]
  by_cases k3 : a.K = 3
  · rw [if_pos k3]
    have := hH k3
    exact ⟨hP, h.n, h.dy, ⟨by show d.st ≤ x.dy + a.N; omega, by show x.dy + a.N ≤ 36866; omega⟩, h.lw, h.cs, ⟨hf.1, hf2⟩, h.A, h.C, hQ⟩
  rw [if_neg k3]
  have := hi.sm
  have hC : 0 ≤ x.C := by omega
  exact ⟨⟨Int.le_refl _, by show (0 : Int) ≤ d.sm; omega⟩, h.n, h.dy, h.he, h.lw, h.cs, ⟨hf.1, hf2⟩, h.A, h.C, ⟨hC, Int.le_refl _⟩⟩
end Go.Proofs

/- Loans as numbers: runs, holds, payments, renewals. -/
namespace Go.Proofs
open Go Go.RowKit Go.Sim
set_option maxRecDepth 100000
theorem max_self' (a : Int) : max a a = a := by omega
/-- What acts lead to: the last loan, the loan behind each act that was done, and the error. -/
def goL (d : DealN) (cl : List Int) : LN → List ActN → LN × List LN × Int
  | x, [] => (x, [], 0)
  | x, a :: l =>
    if actE d (passL d cl x a.D) a = 0 then
      ((goL d cl (actL d (passL d cl x a.D) a) l).1, actL d (passL d cl x a.D) a :: (goL d cl (actL d (passL d cl x a.D) a) l).2.1, (goL d cl (actL d (passL d cl x a.D) a) l).2.2)
    else (passL d cl x a.D, [], actE d (passL d cl x a.D) a)
theorem goL_ok {d : DealN} {cl : List Int} {x : LN} {a : ActN} {l : List ActN} (h : actE d (passL d cl x a.D) a = 0) : goL d cl x (a :: l) =
    ((goL d cl (actL d (passL d cl x a.D) a) l).1, actL d (passL d cl x a.D) a :: (goL d cl (actL d (passL d cl x a.D) a) l).2.1, (goL d cl (actL d (passL d cl x a.D) a) l).2.2) := by rw [goL, if_pos h]
theorem goL_bad {d : DealN} {cl : List Int} {x : LN} {a : ActN} {l : List ActN} (h : ¬ actE d (passL d cl x a.D) a = 0) : goL d cl x (a :: l) = (passL d cl x a.D, [], actE d (passL d cl x a.D) a) := by rw [goL, if_neg h]
/-- Is an act one of its kind? -/
def fitB (a : ActN) (last : Bool) : Bool :=
  if a.K = 1 then inR 1 a.N 1073741824 else if a.K = 2 then decide (a.N = 0) else if a.K = 3 then inR 1 a.N 366 else if a.K = 4 then (last && decide (a.N = 0)) else false
def actsTo : Int → List ActN → Bool
  | _, [] => true
  | day, a :: l => inR day a.D 36500 && fitB a l.isEmpty && actsTo a.D l
def actsB (d : DealN) (l : List ActN) : Bool := decide (l.length ≤ 32) && actsTo d.st l
theorem fit_pay {a : ActN} {b : Bool} (h : fitB a b = true) : (a.K = 1 → 1 ≤ a.N) ∧ (a.K = 3 → 1 ≤ a.N ∧ a.N ≤ 366) := by
  unfold fitB at h
  refine ⟨fun k => ?_, fun k => ?_⟩
  · rw [if_pos k, inR_iff] at h; omega
  · rw [if_neg (by omega), if_neg (by omega), if_pos k, inR_iff] at h; omega
theorem pass_day {d : DealN} {cl : List Int} {x : LN} {day : Int} : (passL d cl x day).dy = day := by
  unfold passL; cases x.op <;> rfl
theorem act_day {d : DealN} {x : LN} {a : ActN} : (actL d x a).dy = x.dy := by
  unfold actL; repeat' split
  all_goals rfl
theorem go_keeps {d : DealN} {cl : List Int} (hd : dealB d cl = true) : ∀ {l : List ActN} {j : Nat} {x : LN}, LOk d j x → actsTo x.dy l = true → ∃ k, k ≤ j + l.length ∧ LOk d k (goL d cl x l).1
  | [], j, x, h, _ => ⟨j, by simp, h⟩
  | a :: l, j, x, h, hl => by
    simp only [actsTo, Bool.and_eq_true, inR_iff] at hl
    obtain ⟨⟨h1, h2⟩, h3⟩ := hl
    have hp := pass_keeps hd h h1.1 h1.2
    by_cases he : actE d (passL d cl x a.D) a = 0
    · rw [goL_ok he]
      have ha := act_keeps hd hp a (fit_pay h2).1 (fit_pay h2).2 he
      obtain ⟨k, hk, hl⟩ := go_keeps hd ha (by rw [act_day, pass_day]; exact h3)
      exact ⟨k, by simp only [List.length_cons]; omega, hl⟩
    · rw [goL_bad he]
      exact ⟨j, by omega, hp⟩
/-- What is owed on a day. -/
def oweE (d : DealN) (cl : List Int) (l : List ActN) (day : Int) : Int :=
  if dealB d cl = false then 23 else if actsB d l = false then 24 else if (goL d cl (beginL d) l).2.2 ≠ 0 then (goL d cl (beginL d) l).2.2 else if inR (goL d cl (beginL d) l).1.dy day 36500 = false then 7 else 0
def oweX (d : DealN) (cl : List Int) (l : List ActN) (day : Int) : LN := passL d cl (goL d cl (beginL d) l).1 day
theorem pass_begin {d : DealN} {cl : List Int} (day : Int) : passL d cl (beginL d) day = ⟨d.sm, chF d (oD cl d.st day * d.sm) (max 0 (oD cl d.st day - max 0 d.fr) * d.sm) 0, 0, oD cl d.st day, true, oD cl d.st day, oD cl d.st day * d.sm, max 0 (oD cl d.st day - max 0 d.fr) * d.sm, 0, day, d.st⟩ := by
  simp only [passL, beginL, passN, max_self', Int.zero_add, Int.sub_zero]
theorem fitB_hold (D N : Int) (b : Bool) : fitB ⟨D, 3, N⟩ b = inR 1 N 366 := rfl
theorem fitB_pay (D N : Int) (b : Bool) : fitB ⟨D, 1, N⟩ b = inR 1 N 1073741824 := rfl
theorem actL_hold (d : DealN) (x : LN) (D N : Int) : actL d x ⟨D, 3, N⟩ = holdL x N := rfl
theorem actL_pay (d : DealN) (x : LN) (D N : Int) : actL d x ⟨D, 1, N⟩ = payL x N := rfl
theorem actE_hold (d : DealN) (x : LN) (D N : Int) : actE d x ⟨D, 3, N⟩ = if d.tm + d.gr < x.A then 25 else if x.dy < x.he then 26 else 0 := rfl
theorem actE_pay (d : DealN) (x : LN) (D N : Int) : actE d x ⟨D, 1, N⟩ = if d.tm + d.gr < x.A then 25 else if x.C - x.Q + x.P ≤ N then 6 else 0 := rfl
theorem owe_nil {d : DealN} {cl : List Int} (hd : dealB d cl = true) {day : Int} (h1 : d.st ≤ day) (h2 : day ≤ 36500) : oweE d cl [] day = 0 ∧ oweX d cl [] day = passL d cl (beginL d) day := by
  refine ⟨?_, rfl⟩
  have h3 : inR d.st day 36500 = true := (inR_iff _ _ _).2 ⟨h1, h2⟩
  simp [oweE, hd, actsB, actsTo, goL, beginL, h3]
theorem pass_zero {d : DealN} {cl : List Int} {x : LN} {day : Int} (hop : x.op = true) (hC : x.C = chF d x.lw x.cs x.fe) (hz : passN cl x day = 0) : passL d cl x day = { x with dy := day } := by
  obtain ⟨P, C, Q, A, op, n, lw, cs, fe, dy, he⟩ := x
  simp only at hop hC hz
  subst hop
  subst hC
  unfold passL
  simp only [hz]
  simp only [Int.zero_sub, Int.zero_mul, Int.add_zero]
  have hm : max 0 (-max 0 (d.fr - n)) = 0 := by omega
  rw [hm, Int.zero_mul, Int.add_zero]
/-- A hold: at its end the loan stands as on the day on which it was agreed upon. -/
theorem held_math {d : DealN} {cl : List Int} (hd : dealB d cl = true) {day long : Int} (h1 : d.st ≤ day) (h2 : 1 ≤ long) (h3 : long ≤ 366) (h4 : day + long ≤ 36500) :
    (d.tm + d.gr < (oweX d cl [] day).A ∧ oweE d cl [⟨day, 3, long⟩] (day + long) = 25) ∨
    (oweE d cl [⟨day, 3, long⟩] (day + long) = 0 ∧ (oweX d cl [⟨day, 3, long⟩] (day + long)).P = (oweX d cl [] day).P ∧ (oweX d cl [⟨day, 3, long⟩] (day + long)).C = (oweX d cl [] day).C ∧
      (oweX d cl [⟨day, 3, long⟩] (day + long)).Q = (oweX d cl [] day).Q ∧ (oweX d cl [⟨day, 3, long⟩] (day + long)).A = (oweX d cl [] day).A ∧ (oweX d cl [⟨day, 3, long⟩] (day + long)).op = (oweX d cl [] day).op) := by
  have hn := owe_nil hd h1 (by omega : day ≤ 36500)
  have ha : actsB d [⟨day, 3, long⟩] = true := by
    have q1 : inR d.st day 36500 = true := (inR_iff _ _ _).2 ⟨h1, by omega⟩
    have q2 : inR 1 long 366 = true := (inR_iff _ _ _).2 ⟨h2, h3⟩
    simp [actsB, actsTo, q1, q2, fitB_hold]
  rw [hn.2]
  by_cases hl : d.tm + d.gr < (passL d cl (beginL d) day).A
  · left
    refine ⟨hl, ?_⟩
    have he : actE d (passL d cl (beginL d) day) ⟨day, 3, long⟩ = 25 := by rw [actE_hold, if_pos hl]
    simp only [oweE, hd, ha]
    rw [goL_bad (by rw [he]; omega)]
    simp [he]
  · right
    have he : actE d (passL d cl (beginL d) day) ⟨day, 3, long⟩ = 0 := by
      rw [actE_hold, if_neg hl, if_neg]
      rw [pass_begin]; show ¬ day < d.st; omega
    have hg : goL d cl (beginL d) [⟨day, 3, long⟩] = (holdL (passL d cl (beginL d) day) long, [holdL (passL d cl (beginL d) day) long], 0) := by
      rw [goL_ok he, actL_hold]; rfl
    have hz : passN cl (holdL (passL d cl (beginL d) day) long) (day + long) = 0 := by
      unfold passN; apply oD_flat
      rw [pass_begin]; show day + long ≤ max day (day + long); omega
    have hdy : (holdL (passL d cl (beginL d) day) long).dy = day := by rw [pass_begin]; rfl
    have hr : inR day (day + long) 36500 = true := (inR_iff _ _ _).2 ⟨by omega, by omega⟩
    refine ⟨?_, ?_⟩
    · simp only [oweE, hd, ha, hg, hdy, hr]; simp
    · simp only [oweX, hg]
      rw [pass_zero (by rw [pass_begin]; rfl) (by rw [pass_begin]; rfl) hz]
      exact ⟨rfl, rfl, rfl, rfl, rfl⟩
/-- Who pays earlier is not charged more. -/
theorem pays_late {d : DealN} {cl : List Int} (hd : dealB d cl = true) {at_ day p : Int} (h1 : d.st ≤ at_) (h2 : at_ ≤ day) (h3 : day ≤ 36500) (p1 : 1 ≤ p) (p2 : p ≤ 1073741824) :
    oweE d cl [⟨at_, 1, p⟩] day = 25 ∨ oweE d cl [⟨at_, 1, p⟩] day = 6 ∨ (oweE d cl [⟨at_, 1, p⟩] day = 0 ∧ oweX d cl [⟨at_, 1, p⟩] day = passL d cl (payL (passL d cl (beginL d) at_) p) day) := by
  have ha : actsB d [⟨at_, 1, p⟩] = true := by
    have q1 : inR d.st at_ 36500 = true := (inR_iff _ _ _).2 ⟨h1, by omega⟩
    have q2 : inR 1 p 1073741824 = true := (inR_iff _ _ _).2 ⟨p1, p2⟩
    simp [actsB, actsTo, q1, q2, fitB_pay]
  by_cases he : actE d (passL d cl (beginL d) at_) ⟨at_, 1, p⟩ = 0
  · right; right
    have hg : goL d cl (beginL d) [⟨at_, 1, p⟩] = (payL (passL d cl (beginL d) at_) p, [payL (passL d cl (beginL d) at_) p], 0) := by
      rw [goL_ok he, actL_pay]; rfl
    have hdy : (payL (passL d cl (beginL d) at_) p).dy = at_ := by rw [pass_begin]; rfl
    have hr : inR at_ day 36500 = true := (inR_iff _ _ _).2 ⟨by omega, by omega⟩
    exact ⟨by simp only [oweE, hd, ha, hg, hdy, hr]; simp, by simp only [oweX, hg]⟩
  · have hg := goL_bad (a := ⟨at_, 1, p⟩) (l := []) he
    have hE : oweE d cl [⟨at_, 1, p⟩] day = actE d (passL d cl (beginL d) at_) ⟨at_, 1, p⟩ := by
      simp only [oweE, hd, ha, hg]; simp [he]
    rw [hE]
    rw [actE_pay] at he ⊢
    split
    · exact .inl rfl
    · rw [if_neg ‹_›] at he
      split
      · exact .inr (.inl rfl)
      · rw [if_neg ‹_›] at he; exact absurd rfl he
theorem early_math {d : DealN} {cl : List Int} (hd : dealB d cl = true) {early late day p : Int} (h1 : d.st ≤ early) (h2 : early ≤ late) (h3 : late ≤ day) (p1 : 1 ≤ p) :
    (passL d cl (payL (passL d cl (beginL d) early) p) day).C ≤ (passL d cl (payL (passL d cl (beginL d) late) p) day).C ∧
    (passL d cl (payL (passL d cl (beginL d) early) p) day).P ≤ (passL d cl (payL (passL d cl (beginL d) late) p) day).P := by
  have hi := (dealB_in hd).1
  rw [pass_begin, pass_begin]
  have a1 := oD_in hd d.st early
  have a2 := oD_in hd early late
  have a3 := oD_in hd late day
  have e1 : oD cl d.st late = oD cl d.st early + oD cl early late := oD_add cl h1 h2
  have e2 : oD cl early day = oD cl early late + oD cl late day := oD_add cl h2 h3
  have hsm := hi.sm; have hfr := hi.fr
  have m1 : max early d.st = early := by omega
  have m2 : max late d.st = late := by omega
  have m3 : max 0 d.fr = d.fr := by omega
  simp only [payL, passL, passN, m1, m2, m3, e1, e2, Int.sub_zero]
  generalize oD cl d.st early = n at *
  generalize oD cl early late = m at *
  generalize oD cl late day = k at *
  have hC : chF d (n * d.sm) (max 0 (n - d.fr) * d.sm) 0 ≤ chF d ((n + m) * d.sm) (max 0 (n + m - d.fr) * d.sm) 0 := chF_mono hi (mul_mono (by omega) (by omega)) (mul_mono (by omega) (by omega)) (Int.le_refl _)
  have hC0 : 0 ≤ chF d (n * d.sm) (max 0 (n - d.fr) * d.sm) 0 := chF_pos hi (mul_nonneg' a1.1 (by omega)) (mul_nonneg' (by omega) (by omega)) (Int.le_refl _)
  generalize chF d (n * d.sm) (max 0 (n - d.fr) * d.sm) 0 = c1 at *
  generalize chF d ((n + m) * d.sm) (max 0 (n + m - d.fr) * d.sm) 0 = c2 at *
  have hP : d.sm - max 0 (p - c1) ≤ d.sm - max 0 (p - c2) := by omega
  refine ⟨?_, hP⟩
  have hPs : d.sm - max 0 (p - c1) ≤ d.sm := by omega
  generalize d.sm - max 0 (p - c1) = P1 at *
  generalize d.sm - max 0 (p - c2) = P2 at *
  refine chF_mono hi ?_ ?_ (Int.le_refl _)
  · have q1 := mul_mono (k := m) hPs a2.1
    have q2 := mul_mono (k := k) hP a3.1
    rw [Int.add_mul, Int.add_mul]
    rw [Int.mul_comm P1 m, Int.mul_comm d.sm m] at q1
    rw [Int.mul_comm P1 k, Int.mul_comm P2 k] at q2
    omega
  · have u : max 0 (n + m - d.fr) = max 0 (n - d.fr) + max 0 (m - max 0 (d.fr - n)) := by omega
    have v : max 0 (m + k - max 0 (d.fr - n)) = max 0 (m - max 0 (d.fr - n)) + max 0 (k - max 0 (d.fr - (n + m))) := by omega
    rw [u, v]
    have z1 : 0 ≤ max 0 (m - max 0 (d.fr - n)) := by omega
    have z2 : 0 ≤ max 0 (k - max 0 (d.fr - (n + m))) := by omega
    generalize max 0 (m - max 0 (d.fr - n)) = V at *
    generalize max 0 (k - max 0 (d.fr - (n + m))) = W at *
    have q1 := mul_mono (k := V) hPs z1
    have q2 := mul_mono (k := W) hP z2
    rw [Int.add_mul, Int.add_mul]
    rw [Int.mul_comm P1 V, Int.mul_comm d.sm V] at q1
    rw [Int.mul_comm P1 W, Int.mul_comm P2 W] at q2
    omega
/- Renewals alone, and a payment in two parts. -/
structure Plain (d : DealN) (cl : List Int) (j : Nat) (x : LN) : Prop where
  P : x.P = d.sm
  op : x.op = true
  he : x.he = d.st
  dy : d.st ≤ x.dy
  n : x.n = oD cl d.st x.dy
  lw : x.lw = x.n * d.sm
  cs : x.cs = max 0 (x.n - d.fr) * d.sm
  fe : x.fe = j * d.fe
  C : x.C = chF d x.lw x.cs x.fe
theorem plain_begin {d : DealN} {cl : List Int} (hd : dealB d cl = true) : Plain d cl 0 (beginL d) := by
  have hi := (dealB_in hd).1
  have := hi.fr
  refine ⟨rfl, rfl, rfl, Int.le_refl _, (oD_flat cl (Int.le_refl _)).symm, ?_, ?_, ?_, (chF_zero hi).symm⟩
  · show (0 : Int) = 0 * d.sm; omega
  · show (0 : Int) = max 0 (0 - d.fr) * d.sm
    have : max 0 (0 - d.fr) = 0 := by omega
    rw [this]; omega
  · show (0 : Int) = ((0 : Nat) : Int) * d.fe; simp
theorem plain_pass {d : DealN} {cl : List Int} (hd : dealB d cl = true) {j : Nat} {x : LN} (h : Plain d cl j x) {day : Int} (h1 : x.dy ≤ day) : Plain d cl j (passL d cl x day) := by
  have hi := (dealB_in hd).1
  have hfr := hi.fr
  obtain ⟨P, C, Q, A, op, n, lw, cs, fe, dy, he⟩ := x
  obtain ⟨hP, hop, hhe, hdy, hn, hlw, hcs, hfe, hC⟩ := h
  simp only at hP hop hhe hdy hn hlw hcs hfe hC h1
  subst hP; subst hop; subst hhe
  have hadd : oD cl d.st day = n + oD cl dy day := by rw [hn]; exact oD_add cl hdy h1
  have hm : max dy d.st = dy := by omega
  have hk := (oD_in hd dy day).1
  have hn0 := (oD_in hd d.st dy).1
  rw [← hn] at hn0
  simp only [passL, passN, hm]
  generalize oD cl dy day = k at *
  refine ⟨rfl, rfl, rfl, ?_, hadd.symm, ?_, ?_, hfe, rfl⟩
  · show d.st ≤ day; omega
  · show lw + k * d.sm = (n + k) * d.sm
    rw [hlw, Int.add_mul]
  · show cs + max 0 (k - max 0 (d.fr - n)) * d.sm = max 0 (n + k - d.fr) * d.sm
    rw [hcs, ← Int.add_mul]
    congr 1
    omega
theorem plain_renew {d : DealN} {cl : List Int} {j : Nat} {x : LN} (h : Plain d cl j x) {a : ActN} (hk : a.K = 2) : Plain d cl (j + 1) (actL d x a) := by
  have : actL d x a = renewL d x := by unfold actL; rw [if_neg (by omega), if_pos hk]
  rw [this]
  refine ⟨h.P, h.op, h.he, h.dy, h.n, h.lw, h.cs, ?_, rfl⟩
  show x.fe + d.fe = ((j + 1 : Nat) : Int) * d.fe
  rw [h.fe]
  have : ((j + 1 : Nat) : Int) = (j : Int) + 1 := by omega
  rw [this, Int.add_mul, Int.one_mul]
theorem plain_go {d : DealN} {cl : List Int} (hd : dealB d cl = true) : ∀ {l : List ActN} {j : Nat} {x : LN}, Plain d cl j x → actsTo x.dy l = true → (∀ a ∈ l, a.K = 2) → (goL d cl x l).2.2 = 0 → Plain d cl (j + l.length) (goL d cl x l).1
  | [], j, x, h, _, _, _ => h
  | a :: l, j, x, h, hl, hk, he => by
    simp only [actsTo, Bool.and_eq_true, inR_iff] at hl
    obtain ⟨⟨h1, h2⟩, h3⟩ := hl
    by_cases ha : actE d (passL d cl x a.D) a = 0
    · rw [goL_ok ha] at he ⊢
      have := plain_go hd (plain_renew (plain_pass hd h h1.1) (hk a List.mem_cons_self)) (by rw [act_day, pass_day]; exact h3) (fun b hb => hk b (List.mem_cons_of_mem _ hb)) he
      have e : j + (a :: l).length = j + 1 + l.length := by simp only [List.length_cons]; omega
      rw [e]; exact this
    · rw [goL_bad ha] at he; exact absurd he ha
theorem plain_charge {d : DealN} {cl : List Int} (hd : dealB d cl = true) {j : Nat} {x : LN} (h : Plain d cl j x) : x.C = chF d (oD cl d.st x.dy * d.sm) (max 0 (oD cl d.st x.dy - d.fr) * d.sm) (j * d.fe) := by
  rw [h.C, h.lw, h.cs, h.fe, h.n]
/-- A run that is allowed up to a day. -/
structure Ran (d : DealN) (cl : List Int) (l : List ActN) (day : Int) : Prop where
  deal : dealB d cl = true
  len : l.length ≤ 32
  acts : actsTo d.st l = true
  ok : (goL d cl (beginL d) l).2.2 = 0
  dy : (goL d cl (beginL d) l).1.dy ≤ day
  day : day ≤ 36500
theorem owe_ran {d : DealN} {cl : List Int} {l : List ActN} {day : Int} : oweE d cl l day = 0 ↔ Ran d cl l day := by
  unfold oweE
  constructor
  · intro h
    cases h1 : dealB d cl with
    | false => rw [if_pos h1] at h; exact absurd h (by omega)
    | true =>
    rw [if_neg (by rw [h1]; simp)] at h
    cases h2 : actsB d l with
    | false => rw [if_pos h2] at h; exact absurd h (by omega)
    | true =>
    rw [if_neg (by rw [h2]; simp)] at h
    by_cases h3 : (goL d cl (beginL d) l).2.2 = 0
    · rw [if_neg (by simpa using h3)] at h
      cases h4 : inR (goL d cl (beginL d) l).1.dy day 36500 with
      | false => rw [if_pos h4] at h; exact absurd h (by omega)
      | true =>
      rw [inR_iff] at h4
      rw [actsB, Bool.and_eq_true] at h2
      exact ⟨h1, of_decide_eq_true h2.1, h2.2, h3, h4.1, h4.2⟩
    · rw [if_pos (by simpa using h3)] at h; exact absurd h h3
  · intro ⟨h1, h2, h3, h4, h5, h6⟩
    have q : actsB d l = true := by rw [actsB, Bool.and_eq_true]; exact ⟨decide_eq_true h2, h3⟩
    have r : inR (goL d cl (beginL d) l).1.dy day 36500 = true := (inR_iff _ _ _).2 ⟨h5, h6⟩
    rw [if_neg (by rw [h1]; simp), if_neg (by rw [q]; simp), if_neg (by simpa using h4), if_neg (by rw [r]; simp)]
theorem renews_charge {d : DealN} {cl : List Int} {l : List ActN} {day : Int} (h : Ran d cl l day) (hk : ∀ a ∈ l, a.K = 2) : (oweX d cl l day).C = chF d (oD cl d.st day * d.sm) (max 0 (oD cl d.st day - d.fr) * d.sm) (l.length * d.fe) := by
  have h0 := plain_go h.deal (plain_begin h.deal) h.acts hk h.ok
  have h1 := plain_charge h.deal (plain_pass h.deal h0 h.dy)
  rw [pass_day, Nat.zero_add] at h1
  exact h1
/-- The fees apart: at least what is charged without renewals, at most that and the fees. -/
theorem fees_in {d : DealN} (h : DealIn d) {l c f : Int} (hf : 0 ≤ f) : chF d l c 0 ≤ chF d l c f ∧ chF d l c f ≤ chF d l c 0 + f := by
  unfold chF; omega
theorem actsTo_app : ∀ {l m : List ActN} {day : Int}, m ≠ [] → actsTo day (l ++ m) = true → (∀ a ∈ l, a.K = 1 ∨ a.K = 2 ∨ a.K = 3)
  | [], m, day, _, _ => fun a h => by simp at h
  | a :: l, m, day, hm, h => by
    simp only [List.cons_append, actsTo, Bool.and_eq_true] at h
    obtain ⟨⟨_, h2⟩, h3⟩ := h
    intro b hb
    rcases List.mem_cons.mp hb with e | e
    · subst e
      have : (l ++ m).isEmpty = false := by cases l <;> cases m <;> simp_all
      rw [this] at h2
      unfold fitB at h2
      by_cases k1 : b.K = 1
      · exact .inl k1
      by_cases k2 : b.K = 2
      · exact .inr (.inl k2)
      by_cases k3 : b.K = 3
      · exact .inr (.inr k3)
      rw [if_neg k1, if_neg k2, if_neg k3] at h2
      split at h2 <;> simp at h2
    · exact actsTo_app hm h3 b e
theorem go_app {d : DealN} {cl : List Int} : ∀ (l m : List ActN) (x : LN), (goL d cl x l).2.2 = 0 → goL d cl x (l ++ m) = ((goL d cl (goL d cl x l).1 m).1, (goL d cl x l).2.1 ++ (goL d cl (goL d cl x l).1 m).2.1, (goL d cl (goL d cl x l).1 m).2.2)
  | [], m, x, _ => by simp [goL]
  | a :: l, m, x, h => by
    by_cases ha : actE d (passL d cl x a.D) a = 0
    · rw [List.cons_append, goL_ok ha, goL_ok ha] at *
      have := go_app l m _ h
      rw [this]; rfl
    · rw [goL_bad ha] at h; exact absurd h ha
theorem go_app_bad {d : DealN} {cl : List Int} : ∀ (l m : List ActN) (x : LN), (goL d cl x l).2.2 ≠ 0 → goL d cl x (l ++ m) = goL d cl x l
  | [], m, x, h => absurd rfl h
  | a :: l, m, x, h => by
    by_cases ha : actE d (passL d cl x a.D) a = 0
    · rw [List.cons_append, goL_ok ha, goL_ok ha] at *
      have := go_app_bad l m _ h
      rw [this]
    · rw [List.cons_append, goL_bad ha, goL_bad ha]
def lastD : Int → List ActN → Int
  | day, [] => day
  | _, a :: l => lastD a.D l
theorem lastD_at : ∀ (l : List ActN) (day : Int) (h : 0 < l.length), lastD day l = (l[l.length - 1]'(by omega)).D
  | [a], day, _ => rfl
  | a :: b :: l, day, _ => by
    rw [lastD, lastD_at (b :: l) a.D (by simp)]
    simp
theorem actsTo_cut : ∀ {l m : List ActN} {day : Int}, (∀ a ∈ l, a.K = 1 ∨ a.K = 2 ∨ a.K = 3) → m ≠ [] → actsTo day (l ++ m) = (actsTo day l && actsTo (lastD day l) m)
  | [], m, day, _, _ => by simp [actsTo, lastD]
  | a :: l, m, day, hk, hm => by
    have h1 := actsTo_cut (day := a.D) (fun b hb => hk b (List.mem_cons_of_mem _ hb)) hm
    have h2 : fitB a (l ++ m).isEmpty = fitB a l.isEmpty := by
      have := hk a List.mem_cons_self
      unfold fitB
      split
      · rfl
      · split
        · rfl
        · rw [if_pos (by omega), if_pos (by omega)]
    simp only [List.cons_append, actsTo, h2, h1]
    rw [lastD]
    simp only [Bool.and_assoc]
/-- A payment in two parts, on the day of the last act. -/
theorem two_parts {d : DealN} {cl : List Int} {x : LN} {D p q : Int} (hC : x.C = chF d x.lw x.cs x.fe) (hop : x.op = true) (hQ : x.Q ≤ x.C) (hP : 0 ≤ x.P) (hdy : x.dy = D) (hp : 1 ≤ p) (hq : 1 ≤ q) (h : (goL d cl x [⟨D, 1, p + q⟩]).2.2 = 0) :
    (goL d cl x [⟨D, 1, p⟩, ⟨D, 1, q⟩]).2.2 = 0 ∧ (goL d cl x [⟨D, 1, p⟩, ⟨D, 1, q⟩]).1 = (goL d cl x [⟨D, 1, p + q⟩]).1 ∧ (goL d cl x [⟨D, 1, p⟩, ⟨D, 1, q⟩]).2.1 = [payL x p, (goL d cl x [⟨D, 1, p + q⟩]).1] ∧ (goL d cl x [⟨D, 1, p + q⟩]).2.1 = [(goL d cl x [⟨D, 1, p + q⟩]).1] := by
  have hx : ∀ y : LN, y.op = true → y.C = chF d y.lw y.cs y.fe → y.dy = D → passL d cl y D = y := by
    intro y h1 h2 h3
    have hz : passN cl y D = 0 := oD_flat cl (by omega)
    rw [pass_zero h1 h2 hz]
    obtain ⟨P, C, Q, A, op, n, lw, cs, fe, dy, he⟩ := y
    simp only at h3; subst h3; rfl
  have e1 := hx x hop hC hdy
  have e2 := hx (payL x p) hop hC hdy
  have hA : actE d x ⟨D, 1, p + q⟩ = 0 := by
    by_cases z : actE d x ⟨D, 1, p + q⟩ = 0
    · exact z
    · rw [goL_bad (a := ⟨D, 1, p + q⟩) (by rw [e1]; exact z)] at h
      rw [e1] at h; exact absurd h z
  rw [actE_pay] at hA
  by_cases hl : d.tm + d.gr < x.A
  · rw [if_pos hl] at hA; exact absurd hA (by omega)
  rw [if_neg hl] at hA
  by_cases hf : x.C - x.Q + x.P ≤ p + q
  · rw [if_pos hf] at hA; exact absurd hA (by omega)
  have a1 : actE d x ⟨D, 1, p⟩ = 0 := by rw [actE_pay, if_neg hl, if_neg (by omega)]
  have a2 : actE d (payL x p) ⟨D, 1, q⟩ = 0 := by
    rw [actE_pay, if_neg (show ¬ d.tm + d.gr < (payL x p).A from hl), if_neg]
    show ¬ x.C - (x.Q + min p (x.C - x.Q)) + (x.P - max 0 (p - (x.C - x.Q))) ≤ q
    omega
  have a3 : actE d x ⟨D, 1, p + q⟩ = 0 := by rw [actE_pay, if_neg hl, if_neg hf]
  have g1 : goL d cl x [⟨D, 1, p + q⟩] = (payL x (p + q), [payL x (p + q)], 0) := by
    rw [goL_ok (a := ⟨D, 1, p + q⟩) (by rw [e1]; exact a3), e1, actL_pay]; rfl
  have g2 : goL d cl (payL x p) [⟨D, 1, q⟩] = (payL (payL x p) q, [payL (payL x p) q], 0) := by
    rw [goL_ok (a := ⟨D, 1, q⟩) (by rw [e2]; exact a2), e2, actL_pay]; rfl
  have g3 : goL d cl x [⟨D, 1, p⟩, ⟨D, 1, q⟩] = (payL (payL x p) q, [payL x p, payL (payL x p) q], 0) := by
    rw [goL_ok (a := ⟨D, 1, p⟩) (by rw [e1]; exact a1), e1, actL_pay, g2]
  have hs : payL (payL x p) q = payL x (p + q) := by
    have b1 : x.Q + min p (x.C - x.Q) + min q (x.C - (x.Q + min p (x.C - x.Q))) = x.Q + min (p + q) (x.C - x.Q) := by omega
    have b2 : x.P - max 0 (p - (x.C - x.Q)) - max 0 (q - (x.C - (x.Q + min p (x.C - x.Q)))) = x.P - max 0 (p + q - (x.C - x.Q)) := by omega
    simp only [payL, b1, b2]
  rw [g1, g3, hs]
  exact ⟨rfl, rfl, rfl, rfl⟩
end Go.Proofs
