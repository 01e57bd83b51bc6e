import PyProof.Rows.All
import Wide.All
import OpenK.AllK
import Wide.FinOn
import HandS.ForMost
import HandS.Wide
import HandS.CallLocal
import HandS.IsInst
import HandS.More
import HandS.Codes
import KE.KBits
import PySem.Challenge.RW_drawloom_k01_operators
set_option Elab.async false
set_option linter.all false
set_option maxRecDepth 100000
/-! The operators on words: the program's values and the law's, def by def. -/
namespace D1
open PySem PySem.Spec PyProof.Rows L2
/-! ### the text -/
def topS (i : Nat) : Stmt := PySem.Challenge.pw_drawloom_k01_operators.main.body.getD i (.Pass ⟨0, 0, 0, 0⟩)
abbrev s_wrapped : Stmt := topS 4
theorem sc_wrapped : FnScope ["number"] ["number"] (defScope s_wrapped) := ⟨rfl, rfl, rfl, by decide +kernel, rfl, by decide +kernel, by decide +kernel⟩
abbrev s_sum_of : Stmt := topS 5
theorem sc_sum_of : FnScope ["a", "b"] ["a", "b"] (defScope s_sum_of) := ⟨rfl, rfl, rfl, by decide +kernel, rfl, by decide +kernel, by decide +kernel⟩
abbrev s_difference : Stmt := topS 6
theorem sc_difference : FnScope ["a", "b"] ["a", "b"] (defScope s_difference) := ⟨rfl, rfl, rfl, by decide +kernel, rfl, by decide +kernel, by decide +kernel⟩
abbrev s_product_of : Stmt := topS 7
theorem sc_product_of : FnScope ["a", "b"] ["a", "b"] (defScope s_product_of) := ⟨rfl, rfl, rfl, by decide +kernel, rfl, by decide +kernel, by decide +kernel⟩
abbrev s_quotient : Stmt := topS 8
theorem sc_quotient : FnScope ["a", "b", "size"] ["a", "b"] (defScope s_quotient) := ⟨rfl, rfl, rfl, by decide +kernel, rfl, by decide +kernel, by decide +kernel⟩
abbrev s_remainder : Stmt := topS 9
theorem sc_remainder : FnScope ["a", "b"] ["a", "b"] (defScope s_remainder) := ⟨rfl, rfl, rfl, by decide +kernel, rfl, by decide +kernel, by decide +kernel⟩
abbrev s_bits_of_both : Stmt := topS 10
theorem sc_bits_of_both : FnScope ["a", "b"] ["a", "b"] (defScope s_bits_of_both) := ⟨rfl, rfl, rfl, by decide +kernel, rfl, by decide +kernel, by decide +kernel⟩
abbrev s_bits_of_any : Stmt := topS 11
theorem sc_bits_of_any : FnScope ["a", "b"] ["a", "b"] (defScope s_bits_of_any) := ⟨rfl, rfl, rfl, by decide +kernel, rfl, by decide +kernel, by decide +kernel⟩
abbrev s_bits_of_one : Stmt := topS 12
theorem sc_bits_of_one : FnScope ["a", "b"] ["a", "b"] (defScope s_bits_of_one) := ⟨rfl, rfl, rfl, by decide +kernel, rfl, by decide +kernel, by decide +kernel⟩
abbrev s_shifted_left : Stmt := topS 13
theorem sc_shifted_left : FnScope ["a", "b"] ["a", "b"] (defScope s_shifted_left) := ⟨rfl, rfl, rfl, by decide +kernel, rfl, by decide +kernel, by decide +kernel⟩
abbrev s_shifted_right : Stmt := topS 14
theorem sc_shifted_right : FnScope ["a", "b"] ["a", "b"] (defScope s_shifted_right) := ⟨rfl, rfl, rfl, by decide +kernel, rfl, by decide +kernel, by decide +kernel⟩
abbrev s_is_less : Stmt := topS 15
theorem sc_is_less : FnScope ["a", "b"] ["a", "b"] (defScope s_is_less) := ⟨rfl, rfl, rfl, by decide +kernel, rfl, by decide +kernel, by decide +kernel⟩
abbrev s_is_at_most : Stmt := topS 16
theorem sc_is_at_most : FnScope ["a", "b"] ["a", "b"] (defScope s_is_at_most) := ⟨rfl, rfl, rfl, by decide +kernel, rfl, by decide +kernel, by decide +kernel⟩
abbrev s_is_equal : Stmt := topS 17
theorem sc_is_equal : FnScope ["a", "b"] ["a", "b"] (defScope s_is_equal) := ⟨rfl, rfl, rfl, by decide +kernel, rfl, by decide +kernel, by decide +kernel⟩
abbrev s_is_other : Stmt := topS 18
theorem sc_is_other : FnScope ["a", "b"] ["a", "b"] (defScope s_is_other) := ⟨rfl, rfl, rfl, by decide +kernel, rfl, by decide +kernel, by decide +kernel⟩
abbrev s_lesser : Stmt := topS 19
theorem sc_lesser : FnScope ["a", "b"] ["a", "b"] (defScope s_lesser) := ⟨rfl, rfl, rfl, by decide +kernel, rfl, by decide +kernel, by decide +kernel⟩
abbrev s_greater : Stmt := topS 20
theorem sc_greater : FnScope ["a", "b"] ["a", "b"] (defScope s_greater) := ⟨rfl, rfl, rfl, by decide +kernel, rfl, by decide +kernel, by decide +kernel⟩
abbrev s_negative : Stmt := topS 21
theorem sc_negative : FnScope ["a"] ["a"] (defScope s_negative) := ⟨rfl, rfl, rfl, by decide +kernel, rfl, by decide +kernel, by decide +kernel⟩
abbrev s_turned_bits : Stmt := topS 22
theorem sc_turned_bits : FnScope ["a"] ["a"] (defScope s_turned_bits) := ⟨rfl, rfl, rfl, by decide +kernel, rfl, by decide +kernel, by decide +kernel⟩
abbrev s_is_zero : Stmt := topS 23
theorem sc_is_zero : FnScope ["a"] ["a"] (defScope s_is_zero) := ⟨rfl, rfl, rfl, by decide +kernel, rfl, by decide +kernel, by decide +kernel⟩
abbrev s_binary : Stmt := topS 26
theorem sc_binary : FnScope ["op", "a", "b", "action"] ["op", "a", "b"] (defScope s_binary) := ⟨rfl, rfl, rfl, by decide +kernel, rfl, by decide +kernel, by decide +kernel⟩
abbrev s_unary : Stmt := topS 27
theorem sc_unary : FnScope ["op", "a", "action"] ["op", "a"] (defScope s_unary) := ⟨rfl, rfl, rfl, by decide +kernel, rfl, by decide +kernel, by decide +kernel⟩
abbrev s_law_stream : Stmt := topS 29
theorem sc_law_stream : FnScope ["script", "mixed", "cell"] ["script"] (defScope s_law_stream) := ⟨rfl, rfl, rfl, by decide +kernel, rfl, by decide +kernel, by decide +kernel⟩
abbrev s_law_draw : Stmt := topS 30
theorem sc_law_draw : FnScope ["stream", "many", "value"] ["stream", "many"] (defScope s_law_draw) := ⟨rfl, rfl, rfl, by decide +kernel, rfl, by decide +kernel, by decide +kernel⟩
abbrev s_law_word : Stmt := topS 31
theorem sc_law_word : FnScope ["stream", "rows"] ["stream"] (defScope s_law_word) := ⟨rfl, rfl, rfl, by decide +kernel, rfl, by decide +kernel, by decide +kernel⟩
abbrev s_law_wrapped : Stmt := topS 32
theorem sc_law_wrapped : FnScope ["number"] ["number"] (defScope s_law_wrapped) := ⟨rfl, rfl, rfl, by decide +kernel, rfl, by decide +kernel, by decide +kernel⟩
abbrev s_law_bits : Stmt := topS 33
theorem sc_law_bits : FnScope ["op", "a", "b", "total", "place", "k", "one", "two", "chosen"] ["op", "a", "b"] (defScope s_law_bits) := ⟨rfl, rfl, rfl, by decide +kernel, rfl, by decide +kernel, by decide +kernel⟩
abbrev s_law_shifted : Stmt := topS 34
theorem sc_law_shifted : FnScope ["op", "a", "b", "k"] ["op", "a", "b"] (defScope s_law_shifted) := ⟨rfl, rfl, rfl, by decide +kernel, rfl, by decide +kernel, by decide +kernel⟩
abbrev s_law_binary : Stmt := topS 35
theorem sc_law_binary : FnScope ["op", "a", "b", "found", "rows"] ["op", "a", "b"] (defScope s_law_binary) := ⟨rfl, rfl, rfl, by decide +kernel, rfl, by decide +kernel, by decide +kernel⟩
abbrev s_law_unary : Stmt := topS 36
theorem sc_law_unary : FnScope ["op", "a"] ["op", "a"] (defScope s_law_unary) := ⟨rfl, rfl, rfl, by decide +kernel, rfl, by decide +kernel, by decide +kernel⟩
abbrev s_law_ops : Stmt := topS 37
theorem sc_law_ops : FnScope [] [] (defScope s_law_ops) := ⟨rfl, rfl, rfl, by decide +kernel, rfl, by decide +kernel, by decide +kernel⟩
abbrev s_law : Stmt := topS 38
theorem sc_law : FnScope ["script", "stream", "k", "a", "b", "op", "found"] ["script"] (defScope s_law) := ⟨rfl, rfl, rfl, by decide +kernel, rfl, by decide +kernel, by decide +kernel⟩
/-! ### the mathematics of words -/
inductive Op where | add | sub | mul | div | rem | and | or | xor | shl | shr | lt | le | eq | ne | min | max
  deriving DecidableEq
def Op.s : Op → Str
  | .add => "add" | .sub => "sub" | .mul => "mul" | .div => "div" | .rem => "rem" | .and => "and" | .or => "or" | .xor => "xor" | .shl => "shl" | .shr => "shr"
  | .lt => "lt" | .le => "le" | .eq => "eq" | .ne => "ne" | .min => "min" | .max => "max"
inductive Uop where | neg | not | zero
def Uop.s : Uop → Str
  | .neg => "neg" | .not => "not" | .zero => "zero"
def W (a : Int) : Prop := -2147483648 ≤ a ∧ a ≤ 2147483647
def ab (i : Int) : Int := if i < 0 then -i else i
def wrap (n : Int) : Int := (n - (-2147483648)) % 4294967296 + (-2147483648)
def quo (a b : Int) : Int := if b = 0 then 0 else if decide (a < 0) = decide (b < 0) then ab a / ab b else -(ab a / ab b)
def b1 (p : Prop) [Decidable p] : Int := if p then 1 else 0
def act : Op → Int → Int → Int
  | .add, a, b => a + b
  | .sub, a, b => a - b
  | .mul, a, b => a * b
  | .div, a, b => quo a b
  | .rem, a, b => if b = 0 then 0 else a - b * quo a b
  | .and, a, b => Builtin.bitAnd a b
  | .or, a, b => Builtin.bitOr a b
  | .xor, a, b => Builtin.bitXor a b
  | .shl, a, b => a * 2 ^ (Builtin.bitAnd b 31).toNat
  | .shr, a, b => a / 2 ^ (Builtin.bitAnd b 31).toNat
  | .lt, a, b => b1 (a < b)
  | .le, a, b => b1 (a ≤ b)
  | .eq, a, b => b1 (a = b)
  | .ne, a, b => b1 (a ≠ b)
  | .min, a, b => if a < b then a else b
  | .max, a, b => if b < a then a else b
def uact : Uop → Int → Int
  | .neg, a => -a
  | .not, a => Builtin.bitNot a
  | .zero, a => b1 (a = 0)
/-- the law's own -/
def lwrap (n : Int) : Int := n % 4294967296 - 4294967296 * (if decide (2147483647 < n % 4294967296) = true then 1 else 0)
theorem lwrap_eq (n : Int) : lwrap n = wrap n := by
  unfold lwrap wrap
  by_cases h : 2147483647 < n % 4294967296
  · rw [if_pos (decide_eq_true h)]; omega
  · rw [if_neg (by simpa using h)]; omega
theorem lwrap_mod (n : Int) : lwrap (n % 4294967296) = lwrap n := by
  unfold lwrap
  rw [Int.emod_emod_of_dvd n (Int.dvd_refl _)]
theorem wrap_W (n : Int) : W (wrap n) := by
  unfold wrap W
  omega
/-- bit by bit -/
def bit : Op → Int → Int → Int
  | .and, x, y => x * y
  | .or, x, y => if y > x then y else x
  | _, x, y => if (!decide (V.int x = V.int y)) = true then 1 else 0
def lb (o : Op) : Nat → Int → Int → Int
  | 0, _, _ => 0
  | n + 1, a, b => bit o (a % 2) (b % 2) + 2 * lb o n (a / 2) (b / 2)
theorem halves_mod (x : Int) (n : Nat) : x % 2 ^ (n + 1) = 2 * (x / 2 % 2 ^ n) + x % 2 := by
  have hp : (0 : Int) < 2 ^ n := Int.pow_pos (by decide)
  have e : (2 : Int) ^ (n + 1) = 2 * 2 ^ n := by rw [Int.pow_succ, Int.mul_comm]
  rw [e, Int.emod_def x (2 * 2 ^ n), Int.emod_def (x / 2) (2 ^ n), ← Int.ediv_ediv_of_nonneg (by decide : (0 : Int) ≤ 2)]
  have h := Int.emod_add_mul_ediv x 2
  rw [Int.mul_sub, Int.mul_assoc]
  omega
theorem lb_mod (o : Op) : ∀ (n : Nat) (a b : Int), lb o n (a % 2 ^ n) (b % 2 ^ n) = lb o n a b
  | 0, _, _ => rfl
  | n + 1, a, b => by
    have hp : (0 : Int) < 2 ^ n := Int.pow_pos (by decide)
    have e1 : ∀ x : Int, x % 2 ^ (n + 1) % 2 = x % 2 := fun x => by rw [halves_mod]; omega
    have e2 : ∀ x : Int, x % 2 ^ (n + 1) / 2 = x / 2 % 2 ^ n := fun x => by rw [halves_mod]; omega
    unfold lb
    rw [e1, e1, e2, e2, lb_mod o n]
theorem lb_and : ∀ (n : Nat) (a b : Int), lb .and n a b = Builtin.bitAnd a b % 2 ^ n
  | 0, a, b => by show (0 : Int) = _ % 1; omega
  | n + 1, a, b => by
    unfold lb
    rw [lb_and n, halves_mod (Builtin.bitAnd a b) n]
    have h := PySem.W.kbt_halves a b
    have ha : a % 2 = 0 ∨ a % 2 = 1 := by omega
    have hb : b % 2 = 0 ∨ b % 2 = 1 := by omega
    have e : Builtin.bitAnd a b / 2 = Builtin.bitAnd (a / 2) (b / 2) := by
      rw [h]; split <;> omega
    have e2 : Builtin.bitAnd a b % 2 = (a % 2) * (b % 2) := by
      rw [h]
      rcases ha with ha | ha <;> rcases hb with hb | hb <;> rw [ha, hb] <;> simp <;> omega
    rw [e, e2]
    show a % 2 * (b % 2) + _ = _
    omega
theorem lb_lin : ∀ (n : Nat) (a b : Int), ∃ k j : Int, lb .or n a b = a % 2 ^ n + b % 2 ^ n - lb .and n a b ∧ lb .xor n a b = a % 2 ^ n + b % 2 ^ n - 2 * lb .and n a b
  | 0, a, b => ⟨0, 0, by show (0 : Int) = a % 1 + b % 1 - 0; omega, by show (0 : Int) = a % 1 + b % 1 - 2 * 0; omega⟩
  | n + 1, a, b => by
    obtain ⟨_, _, h1, h2⟩ := lb_lin n (a / 2) (b / 2)
    refine ⟨0, 0, ?_, ?_⟩
    · unfold lb
      rw [h1, halves_mod a, halves_mod b]
      have ha : a % 2 = 0 ∨ a % 2 = 1 := by omega
      have hb : b % 2 = 0 ∨ b % 2 = 1 := by omega
      have e : bit .or (a % 2) (b % 2) = a % 2 + b % 2 - bit .and (a % 2) (b % 2) := by
        rcases ha with ha | ha <;> rcases hb with hb | hb <;> rw [ha, hb] <;> rfl
      omega
    · unfold lb
      rw [h2, halves_mod a, halves_mod b]
      have ha : a % 2 = 0 ∨ a % 2 = 1 := by omega
      have hb : b % 2 = 0 ∨ b % 2 = 1 := by omega
      have e : bit .xor (a % 2) (b % 2) = a % 2 + b % 2 - 2 * bit .and (a % 2) (b % 2) := by
        rcases ha with ha | ha <;> rcases hb with hb | hb <;> rw [ha, hb] <;> rfl
      omega
theorem wrap_congr {x y : Int} (h : x % 4294967296 = y % 4294967296) : wrap x = wrap y := by
  unfold wrap; omega
theorem lb_word_and (a b : Int) : lwrap (lb .and 32 (a % 4294967296) (b % 4294967296)) = wrap (Builtin.bitAnd a b) := by
  have h := lb_mod .and 32 a b
  rw [show ((2 : Int) ^ 32) = 4294967296 by decide] at h
  have g := lb_and 32 a b
  rw [show ((2 : Int) ^ 32) = 4294967296 by decide] at g
  rw [h, g, lwrap_eq]
  exact wrap_congr (by omega)
theorem lb_word_or (a b : Int) : lwrap (lb .or 32 (a % 4294967296) (b % 4294967296)) = wrap (Builtin.bitOr a b) := by
  have h := lb_mod .or 32 a b
  rw [show ((2 : Int) ^ 32) = 4294967296 by decide] at h
  have g := lb_and 32 a b
  obtain ⟨_, _, l1, _⟩ := lb_lin 32 a b
  rw [show ((2 : Int) ^ 32) = 4294967296 by decide] at g l1
  rw [h, l1, g, lwrap_eq, PyProof.Rows.bitOr_and]
  exact wrap_congr (by omega)
theorem lb_word_xor (a b : Int) : lwrap (lb .xor 32 (a % 4294967296) (b % 4294967296)) = wrap (Builtin.bitXor a b) := by
  have h := lb_mod .xor 32 a b
  rw [show ((2 : Int) ^ 32) = 4294967296 by decide] at h
  have g := lb_and 32 a b
  obtain ⟨_, _, _, l2⟩ := lb_lin 32 a b
  rw [show ((2 : Int) ^ 32) = 4294967296 by decide] at g l2
  rw [h, l2, g, lwrap_eq, PyProof.Rows.bitXor_and]
  exact wrap_congr (by omega)
/-- the law's value of an operator -/
def lquo (a b : Int) : Int := if decide (a * b < 0) = true then 0 - ab a / ab b else ab a / ab b
theorem quo_eq (a b : Int) (h : ¬ b = 0) : lquo a b = quo a b := by
  unfold lquo quo
  rw [if_neg h]
  by_cases ha : a < 0
  · by_cases hb : b < 0
    · have q : ¬ a * b < 0 := Int.not_lt.mpr (Int.mul_nonneg_of_nonpos_of_nonpos (by omega) (by omega))
      rw [if_neg (by simpa using q), if_pos (by simp [ha, hb])]
    · have q : a * b < 0 := Int.mul_neg_of_neg_of_pos ha (by omega)
      rw [if_pos (by simpa using q), if_neg (by simp [ha, hb])]
      omega
  · by_cases hb : b < 0
    · by_cases h0 : a = 0
      · subst h0
        rw [if_neg (by simp), if_neg (by simp [hb])]
        show (0 : Int) / ab b = -((0 : Int) / ab b)
        rw [Int.zero_ediv]; rfl
      · have q : a * b < 0 := Int.mul_neg_of_pos_of_neg (by omega) hb
        rw [if_pos (by simpa using q), if_neg (by simp [ha, hb])]
        omega
    · have q : ¬ a * b < 0 := Int.not_lt.mpr (Int.mul_nonneg (by omega) (by omega))
      rw [if_neg (by simpa using q), if_pos (by simp [ha, hb])]

/-! ### what the top has written -/
theorem pe_gq {X : Cx} {x : Str} {v : V} {pos : Pos} (hg : Gl X x) (h : ∃ u, X.mg x = some u ∧ RelV v u) (hd : (x == ("__debug__" : Str)) = false := by decide) : PE X (.Name x pos) (tC v) := by
  obtain ⟨u, hm, r⟩ := h
  exact pe_glob hg hm r hd
structure Tx (w : World) (K : PySem.W.Frag) (mg : Str → Option Value) where
  a_wrapped : Addr
  d_wrapped : FuncData
  F_wrapped : Fun K "wrapped" "wrapped" s_wrapped a_wrapped d_wrapped
  b_wrapped : Binds K d_wrapped ["number"] []
  g_wrapped : mg "wrapped" = some (.ref a_wrapped)
  a_sum_of : Addr
  d_sum_of : FuncData
  F_sum_of : Fun K "sum_of" "sum_of" s_sum_of a_sum_of d_sum_of
  b_sum_of : Binds K d_sum_of ["a", "b"] []
  g_sum_of : mg "sum_of" = some (.ref a_sum_of)
  a_difference : Addr
  d_difference : FuncData
  F_difference : Fun K "difference" "difference" s_difference a_difference d_difference
  b_difference : Binds K d_difference ["a", "b"] []
  g_difference : mg "difference" = some (.ref a_difference)
  a_product_of : Addr
  d_product_of : FuncData
  F_product_of : Fun K "product_of" "product_of" s_product_of a_product_of d_product_of
  b_product_of : Binds K d_product_of ["a", "b"] []
  g_product_of : mg "product_of" = some (.ref a_product_of)
  a_quotient : Addr
  d_quotient : FuncData
  F_quotient : Fun K "quotient" "quotient" s_quotient a_quotient d_quotient
  b_quotient : Binds K d_quotient ["a", "b"] []
  g_quotient : mg "quotient" = some (.ref a_quotient)
  a_remainder : Addr
  d_remainder : FuncData
  F_remainder : Fun K "remainder" "remainder" s_remainder a_remainder d_remainder
  b_remainder : Binds K d_remainder ["a", "b"] []
  g_remainder : mg "remainder" = some (.ref a_remainder)
  a_bits_of_both : Addr
  d_bits_of_both : FuncData
  F_bits_of_both : Fun K "bits_of_both" "bits_of_both" s_bits_of_both a_bits_of_both d_bits_of_both
  b_bits_of_both : Binds K d_bits_of_both ["a", "b"] []
  g_bits_of_both : mg "bits_of_both" = some (.ref a_bits_of_both)
  a_bits_of_any : Addr
  d_bits_of_any : FuncData
  F_bits_of_any : Fun K "bits_of_any" "bits_of_any" s_bits_of_any a_bits_of_any d_bits_of_any
  b_bits_of_any : Binds K d_bits_of_any ["a", "b"] []
  g_bits_of_any : mg "bits_of_any" = some (.ref a_bits_of_any)
  a_bits_of_one : Addr
  d_bits_of_one : FuncData
  F_bits_of_one : Fun K "bits_of_one" "bits_of_one" s_bits_of_one a_bits_of_one d_bits_of_one
  b_bits_of_one : Binds K d_bits_of_one ["a", "b"] []
  g_bits_of_one : mg "bits_of_one" = some (.ref a_bits_of_one)
  a_shifted_left : Addr
  d_shifted_left : FuncData
  F_shifted_left : Fun K "shifted_left" "shifted_left" s_shifted_left a_shifted_left d_shifted_left
  b_shifted_left : Binds K d_shifted_left ["a", "b"] []
  g_shifted_left : mg "shifted_left" = some (.ref a_shifted_left)
  a_shifted_right : Addr
  d_shifted_right : FuncData
  F_shifted_right : Fun K "shifted_right" "shifted_right" s_shifted_right a_shifted_right d_shifted_right
  b_shifted_right : Binds K d_shifted_right ["a", "b"] []
  g_shifted_right : mg "shifted_right" = some (.ref a_shifted_right)
  a_is_less : Addr
  d_is_less : FuncData
  F_is_less : Fun K "is_less" "is_less" s_is_less a_is_less d_is_less
  b_is_less : Binds K d_is_less ["a", "b"] []
  g_is_less : mg "is_less" = some (.ref a_is_less)
  a_is_at_most : Addr
  d_is_at_most : FuncData
  F_is_at_most : Fun K "is_at_most" "is_at_most" s_is_at_most a_is_at_most d_is_at_most
  b_is_at_most : Binds K d_is_at_most ["a", "b"] []
  g_is_at_most : mg "is_at_most" = some (.ref a_is_at_most)
  a_is_equal : Addr
  d_is_equal : FuncData
  F_is_equal : Fun K "is_equal" "is_equal" s_is_equal a_is_equal d_is_equal
  b_is_equal : Binds K d_is_equal ["a", "b"] []
  g_is_equal : mg "is_equal" = some (.ref a_is_equal)
  a_is_other : Addr
  d_is_other : FuncData
  F_is_other : Fun K "is_other" "is_other" s_is_other a_is_other d_is_other
  b_is_other : Binds K d_is_other ["a", "b"] []
  g_is_other : mg "is_other" = some (.ref a_is_other)
  a_lesser : Addr
  d_lesser : FuncData
  F_lesser : Fun K "lesser" "lesser" s_lesser a_lesser d_lesser
  b_lesser : Binds K d_lesser ["a", "b"] []
  g_lesser : mg "lesser" = some (.ref a_lesser)
  a_greater : Addr
  d_greater : FuncData
  F_greater : Fun K "greater" "greater" s_greater a_greater d_greater
  b_greater : Binds K d_greater ["a", "b"] []
  g_greater : mg "greater" = some (.ref a_greater)
  a_negative : Addr
  d_negative : FuncData
  F_negative : Fun K "negative" "negative" s_negative a_negative d_negative
  b_negative : Binds K d_negative ["a"] []
  g_negative : mg "negative" = some (.ref a_negative)
  a_turned_bits : Addr
  d_turned_bits : FuncData
  F_turned_bits : Fun K "turned_bits" "turned_bits" s_turned_bits a_turned_bits d_turned_bits
  b_turned_bits : Binds K d_turned_bits ["a"] []
  g_turned_bits : mg "turned_bits" = some (.ref a_turned_bits)
  a_is_zero : Addr
  d_is_zero : FuncData
  F_is_zero : Fun K "is_zero" "is_zero" s_is_zero a_is_zero d_is_zero
  b_is_zero : Binds K d_is_zero ["a"] []
  g_is_zero : mg "is_zero" = some (.ref a_is_zero)
  a_binary : Addr
  d_binary : FuncData
  F_binary : Fun K "binary" "binary" s_binary a_binary d_binary
  b_binary : Binds K d_binary ["op", "a", "b"] []
  g_binary : mg "binary" = some (.ref a_binary)
  a_unary : Addr
  d_unary : FuncData
  F_unary : Fun K "unary" "unary" s_unary a_unary d_unary
  b_unary : Binds K d_unary ["op", "a"] []
  g_unary : mg "unary" = some (.ref a_unary)
  a_law_stream : Addr
  d_law_stream : FuncData
  F_law_stream : Fun K "_law_stream" "_law_stream" s_law_stream a_law_stream d_law_stream
  b_law_stream : Binds K d_law_stream ["script"] []
  g_law_stream : mg "_law_stream" = some (.ref a_law_stream)
  a_law_draw : Addr
  d_law_draw : FuncData
  F_law_draw : Fun K "_law_draw" "_law_draw" s_law_draw a_law_draw d_law_draw
  b_law_draw : Binds K d_law_draw ["stream", "many"] []
  g_law_draw : mg "_law_draw" = some (.ref a_law_draw)
  a_law_word : Addr
  d_law_word : FuncData
  F_law_word : Fun K "_law_word" "_law_word" s_law_word a_law_word d_law_word
  b_law_word : Binds K d_law_word ["stream"] []
  g_law_word : mg "_law_word" = some (.ref a_law_word)
  a_law_wrapped : Addr
  d_law_wrapped : FuncData
  F_law_wrapped : Fun K "_law_wrapped" "_law_wrapped" s_law_wrapped a_law_wrapped d_law_wrapped
  b_law_wrapped : Binds K d_law_wrapped ["number"] []
  g_law_wrapped : mg "_law_wrapped" = some (.ref a_law_wrapped)
  a_law_bits : Addr
  d_law_bits : FuncData
  F_law_bits : Fun K "_law_bits" "_law_bits" s_law_bits a_law_bits d_law_bits
  b_law_bits : Binds K d_law_bits ["op", "a", "b"] []
  g_law_bits : mg "_law_bits" = some (.ref a_law_bits)
  a_law_shifted : Addr
  d_law_shifted : FuncData
  F_law_shifted : Fun K "_law_shifted" "_law_shifted" s_law_shifted a_law_shifted d_law_shifted
  b_law_shifted : Binds K d_law_shifted ["op", "a", "b"] []
  g_law_shifted : mg "_law_shifted" = some (.ref a_law_shifted)
  a_law_binary : Addr
  d_law_binary : FuncData
  F_law_binary : Fun K "_law_binary" "_law_binary" s_law_binary a_law_binary d_law_binary
  b_law_binary : Binds K d_law_binary ["op", "a", "b"] []
  g_law_binary : mg "_law_binary" = some (.ref a_law_binary)
  a_law_unary : Addr
  d_law_unary : FuncData
  F_law_unary : Fun K "_law_unary" "_law_unary" s_law_unary a_law_unary d_law_unary
  b_law_unary : Binds K d_law_unary ["op", "a"] []
  g_law_unary : mg "_law_unary" = some (.ref a_law_unary)
  a_law_ops : Addr
  d_law_ops : FuncData
  F_law_ops : Fun K "_law_ops" "_law_ops" s_law_ops a_law_ops d_law_ops
  b_law_ops : Binds K d_law_ops [] []
  g_law_ops : mg "_law_ops" = some (.ref a_law_ops)
  a_law : Addr
  d_law : FuncData
  F_law : Fun K "law" "law" s_law a_law d_law
  g_law : mg "law" = some (.ref a_law)
  z_abs : mg "abs" = none
  z_bool : mg "bool" = none
  z_int : mg "int" = none
  z_isinstance : mg "isinstance" = none
  z_len : mg "len" = none
  z_list : mg "list" = none
  z_max : mg "max" = none
  z_min : mg "min" = none
  z_range : mg "range" = none
  z_tuple : mg "tuple" = none
  q_LEAST : ∃ u, mg "LEAST" = some u ∧ RelV (.int (-2147483648)) u
  a_BINARY : Addr
  q_BINARY : ∃ u, mg "BINARY" = some u ∧ RelV (.ref a_BINARY) u
  t_BINARY : ∃ (o : Obj) (its : Array Value) (n : Nat), K.lookup a_BINARY = some o ∧ o.cls = .type "tuple" ∧ o.data = .seq its n ∧ its.size ≤ sizeLine ∧ Vals ([.str "add", .str "sub", .str "mul", .str "div", .str "rem", .str "and", .str "or", .str "xor", .str "shl", .str "shr", .str "lt", .str "le", .str "eq", .str "ne", .str "min", .str "max"]) its.toList
  a_UNARY : Addr
  q_UNARY : ∃ u, mg "UNARY" = some u ∧ RelV (.ref a_UNARY) u
  t_UNARY : ∃ (o : Obj) (its : Array Value) (n : Nat), K.lookup a_UNARY = some o ∧ o.cls = .type "tuple" ∧ o.data = .seq its n ∧ its.size ≤ sizeLine ∧ Vals ([.str "neg", .str "not", .str "zero"]) its.toList
  a_BINARY_ACTIONS : Addr
  q_BINARY_ACTIONS : ∃ u, mg "BINARY_ACTIONS" = some u ∧ RelV (.ref a_BINARY_ACTIONS) u
  k_BINARY_ACTIONS_add : KDct K w a_BINARY_ACTIONS "add" (.ref a_sum_of)
  k_BINARY_ACTIONS_sub : KDct K w a_BINARY_ACTIONS "sub" (.ref a_difference)
  k_BINARY_ACTIONS_mul : KDct K w a_BINARY_ACTIONS "mul" (.ref a_product_of)
  k_BINARY_ACTIONS_div : KDct K w a_BINARY_ACTIONS "div" (.ref a_quotient)
  k_BINARY_ACTIONS_rem : KDct K w a_BINARY_ACTIONS "rem" (.ref a_remainder)
  k_BINARY_ACTIONS_and : KDct K w a_BINARY_ACTIONS "and" (.ref a_bits_of_both)
  k_BINARY_ACTIONS_or : KDct K w a_BINARY_ACTIONS "or" (.ref a_bits_of_any)
  k_BINARY_ACTIONS_xor : KDct K w a_BINARY_ACTIONS "xor" (.ref a_bits_of_one)
  k_BINARY_ACTIONS_shl : KDct K w a_BINARY_ACTIONS "shl" (.ref a_shifted_left)
  k_BINARY_ACTIONS_shr : KDct K w a_BINARY_ACTIONS "shr" (.ref a_shifted_right)
  k_BINARY_ACTIONS_lt : KDct K w a_BINARY_ACTIONS "lt" (.ref a_is_less)
  k_BINARY_ACTIONS_le : KDct K w a_BINARY_ACTIONS "le" (.ref a_is_at_most)
  k_BINARY_ACTIONS_eq : KDct K w a_BINARY_ACTIONS "eq" (.ref a_is_equal)
  k_BINARY_ACTIONS_ne : KDct K w a_BINARY_ACTIONS "ne" (.ref a_is_other)
  k_BINARY_ACTIONS_min : KDct K w a_BINARY_ACTIONS "min" (.ref a_lesser)
  k_BINARY_ACTIONS_max : KDct K w a_BINARY_ACTIONS "max" (.ref a_greater)
  a_UNARY_ACTIONS : Addr
  q_UNARY_ACTIONS : ∃ u, mg "UNARY_ACTIONS" = some u ∧ RelV (.ref a_UNARY_ACTIONS) u
  k_UNARY_ACTIONS_neg : KDct K w a_UNARY_ACTIONS "neg" (.ref a_negative)
  k_UNARY_ACTIONS_not : KDct K w a_UNARY_ACTIONS "not" (.ref a_turned_bits)
  k_UNARY_ACTIONS_zero : KDct K w a_UNARY_ACTIONS "zero" (.ref a_is_zero)

/-! ### promises -/
def sp1 (g : Int → Int) : Sp := fun vs H Q _ => ∃ n : Int, vs = [.int n] ∧ Q (.int (g n)) H
def spAct (o : Op) : Sp := fun vs H Q _ => ∃ a b : Int, vs = [.int a, .int b] ∧ W a ∧ W b ∧ Q (.int (act o a b)) H
def spU (o : Uop) : Sp := fun vs H Q _ => ∃ a : Int, vs = [.int a] ∧ W a ∧ Q (.int (uact o a)) H
def spBinary : Sp := fun vs H Q _ => ∃ (o : Op) (a b : Int), vs = [.str o.s, .int a, .int b] ∧ W a ∧ W b ∧ Q (.int (wrap (act o a b))) H
def spUnary : Sp := fun vs H Q _ => ∃ (o : Uop) (a : Int), vs = [.str o.s, .int a] ∧ W a ∧ Q (.int (wrap (uact o a))) H
section
variable {P : Program} {w : World} {K : PySem.W.Frag} {mg : Str → Option Value} {base : Heap}
theorem ok_wrapped (T : Tx w K mg) : FnOk P w K mg base CX0 1 T.a_wrapped T.d_wrapped ["number"] (sp1 wrap) := by
  refine T.F_wrapped.ok sc_wrapped (fun vs H Q E h => ?_) (fun cdv A outer s H vs Q E hr h => ?_)
  · obtain ⟨n, rfl, _⟩ := h
    rfl
  · obtain ⟨n, rfl, q⟩ := h
    refine ⟨_, (pss_one (ps_ret (pe_op op_add (pe_op op_mod (pe_op op_sub (pv 0) (pe_gq (by rfl) T.q_LEAST)) (pe_op op_pow pe_int pe_int)) (pe_gq (by rfl) T.q_LEAST)))), ?_⟩
    exact ⟨_, rfl, _, _, rfl, rfl, _, _, rfl, rfl, ⟨by decide, by decide, by decide⟩, _, _, rfl, rfl, by show (0 : Int) < 2 ^ (32 : Int).toNat; decide, _, _, rfl, rfl, q⟩
theorem ok_sum_of (T : Tx w K mg) : FnOk P w K mg base CX0 1 T.a_sum_of T.d_sum_of ["a", "b"] (spAct .add) := by
  refine T.F_sum_of.ok sc_sum_of (fun vs H Q E h => ?_) (fun cdv A outer s H vs Q E hr h => ?_)
  · obtain ⟨a, b, rfl, _⟩ := h
    rfl
  · obtain ⟨a, b, rfl, wa, wb, q⟩ := h
    refine ⟨_, (pss_one (ps_ret (pe_op op_add (pv 0) (pv 1)))), ?_⟩
    exact ⟨_, rfl, _, rfl, _, _, rfl, rfl, q⟩
theorem ok_difference (T : Tx w K mg) : FnOk P w K mg base CX0 1 T.a_difference T.d_difference ["a", "b"] (spAct .sub) := by
  refine T.F_difference.ok sc_difference (fun vs H Q E h => ?_) (fun cdv A outer s H vs Q E hr h => ?_)
  · obtain ⟨a, b, rfl, _⟩ := h
    rfl
  · obtain ⟨a, b, rfl, wa, wb, q⟩ := h
    refine ⟨_, (pss_one (ps_ret (pe_op op_sub (pv 0) (pv 1)))), ?_⟩
    exact ⟨_, rfl, _, rfl, _, _, rfl, rfl, q⟩
theorem ok_product_of (T : Tx w K mg) : FnOk P w K mg base CX0 1 T.a_product_of T.d_product_of ["a", "b"] (spAct .mul) := by
  refine T.F_product_of.ok sc_product_of (fun vs H Q E h => ?_) (fun cdv A outer s H vs Q E hr h => ?_)
  · obtain ⟨a, b, rfl, _⟩ := h
    rfl
  · obtain ⟨a, b, rfl, wa, wb, q⟩ := h
    refine ⟨_, (pss_one (ps_ret (pe_op op_mul (pv 0) (pv 1)))), ?_⟩
    exact ⟨_, rfl, _, rfl, _, _, rfl, rfl, .inl ⟨by unfold W at wa; omega, by unfold W at wa; omega⟩, q⟩
theorem ok_bits_of_both (T : Tx w K mg) : FnOk P w K mg base CX0 1 T.a_bits_of_both T.d_bits_of_both ["a", "b"] (spAct .and) := by
  refine T.F_bits_of_both.ok sc_bits_of_both (fun vs H Q E h => ?_) (fun cdv A outer s H vs Q E hr h => ?_)
  · obtain ⟨a, b, rfl, _⟩ := h
    rfl
  · obtain ⟨a, b, rfl, wa, wb, q⟩ := h
    refine ⟨_, (pss_one (ps_ret (pe_op op_and (pv 0) (pv 1)))), ?_⟩
    exact ⟨_, rfl, _, rfl, _, _, rfl, rfl, q⟩
theorem ok_bits_of_any (T : Tx w K mg) : FnOk P w K mg base CX0 1 T.a_bits_of_any T.d_bits_of_any ["a", "b"] (spAct .or) := by
  refine T.F_bits_of_any.ok sc_bits_of_any (fun vs H Q E h => ?_) (fun cdv A outer s H vs Q E hr h => ?_)
  · obtain ⟨a, b, rfl, _⟩ := h
    rfl
  · obtain ⟨a, b, rfl, wa, wb, q⟩ := h
    refine ⟨_, (pss_one (ps_ret (pe_op op_or (pv 0) (pv 1)))), ?_⟩
    exact ⟨_, rfl, _, rfl, _, _, rfl, rfl, q⟩
theorem ok_bits_of_one (T : Tx w K mg) : FnOk P w K mg base CX0 1 T.a_bits_of_one T.d_bits_of_one ["a", "b"] (spAct .xor) := by
  refine T.F_bits_of_one.ok sc_bits_of_one (fun vs H Q E h => ?_) (fun cdv A outer s H vs Q E hr h => ?_)
  · obtain ⟨a, b, rfl, _⟩ := h
    rfl
  · obtain ⟨a, b, rfl, wa, wb, q⟩ := h
    refine ⟨_, (pss_one (ps_ret (pe_op op_xor (pv 0) (pv 1)))), ?_⟩
    exact ⟨_, rfl, _, rfl, _, _, rfl, rfl, q⟩
theorem ok_shifted_left (T : Tx w K mg) : FnOk P w K mg base CX0 1 T.a_shifted_left T.d_shifted_left ["a", "b"] (spAct .shl) := by
  refine T.F_shifted_left.ok sc_shifted_left (fun vs H Q E h => ?_) (fun cdv A outer s H vs Q E hr h => ?_)
  · obtain ⟨a, b, rfl, _⟩ := h
    rfl
  · obtain ⟨a, b, rfl, wa, wb, q⟩ := h
    refine ⟨_, (pss_one (ps_ret (pe_op op_shl (pv 0) (pe_op op_and (pv 1) pe_int)))), ?_⟩
    have e := bitAnd_m5 b
    exact ⟨_, rfl, _, rfl, _, _, rfl, rfl, _, _, rfl, rfl, ⟨by rw [e]; omega, by rw [e]; omega, by unfold W at wa; omega⟩, q⟩
theorem ok_shifted_right (T : Tx w K mg) : FnOk P w K mg base CX0 1 T.a_shifted_right T.d_shifted_right ["a", "b"] (spAct .shr) := by
  refine T.F_shifted_right.ok sc_shifted_right (fun vs H Q E h => ?_) (fun cdv A outer s H vs Q E hr h => ?_)
  · obtain ⟨a, b, rfl, _⟩ := h
    rfl
  · obtain ⟨a, b, rfl, wa, wb, q⟩ := h
    refine ⟨_, (pss_one (ps_ret (pe_op op_shr (pv 0) (pe_op op_and (pv 1) pe_int)))), ?_⟩
    have e := bitAnd_m5 b
    exact ⟨_, rfl, _, rfl, _, _, rfl, rfl, _, _, rfl, rfl, by show 0 ≤ Builtin.bitAnd b 31; rw [e]; omega, q⟩
theorem ok_is_less (T : Tx w K mg) : FnOk P w K mg base CX0 1 T.a_is_less T.d_is_less ["a", "b"] (spAct .lt) := by
  refine T.F_is_less.ok sc_is_less (fun vs H Q E h => ?_) (fun cdv A outer s H vs Q E hr h => ?_)
  · obtain ⟨a, b, rfl, _⟩ := h
    rfl
  · obtain ⟨a, b, rfl, wa, wb, q⟩ := h
    refine ⟨_, (pss_one (ps_ret (pe_ifExp (pt_cmpR op_lt (pv 0) (pv 1) (nomark _)) pe_int pe_int))), ?_⟩
    refine ⟨_, rfl, _, rfl, _, _, rfl, rfl, _, rfl, ite2 (fun e => ?_) (fun e => ?_)⟩
    · have hc : a < b := of_decide_eq_true e
      have e2 : act .lt a b = 1 := if_pos hc
      rw [e2] at q
      exact q
    · have hc : ¬ (a < b) := fun z => e (decide_eq_true z)
      have e2 : act .lt a b = 0 := if_neg hc
      rw [e2] at q
      exact q
theorem ok_is_at_most (T : Tx w K mg) : FnOk P w K mg base CX0 1 T.a_is_at_most T.d_is_at_most ["a", "b"] (spAct .le) := by
  refine T.F_is_at_most.ok sc_is_at_most (fun vs H Q E h => ?_) (fun cdv A outer s H vs Q E hr h => ?_)
  · obtain ⟨a, b, rfl, _⟩ := h
    rfl
  · obtain ⟨a, b, rfl, wa, wb, q⟩ := h
    refine ⟨_, (pss_one (ps_ret (pe_ifExp (pt_cmpR op_le (pv 0) (pv 1) (nomark _)) pe_int pe_int))), ?_⟩
    refine ⟨_, rfl, _, rfl, _, _, rfl, rfl, _, rfl, ite2 (fun e => ?_) (fun e => ?_)⟩
    · have hc : a ≤ b := of_decide_eq_true e
      have e2 : act .le a b = 1 := if_pos hc
      rw [e2] at q
      exact q
    · have hc : ¬ (a ≤ b) := fun z => e (decide_eq_true z)
      have e2 : act .le a b = 0 := if_neg hc
      rw [e2] at q
      exact q
theorem ok_is_equal (T : Tx w K mg) : FnOk P w K mg base CX0 1 T.a_is_equal T.d_is_equal ["a", "b"] (spAct .eq) := by
  refine T.F_is_equal.ok sc_is_equal (fun vs H Q E h => ?_) (fun cdv A outer s H vs Q E hr h => ?_)
  · obtain ⟨a, b, rfl, _⟩ := h
    rfl
  · obtain ⟨a, b, rfl, wa, wb, q⟩ := h
    refine ⟨_, (pss_one (ps_ret (pe_ifExp (pt_cmpR op_eq (pv 0) (pv 1) (nomark _)) pe_int pe_int))), ?_⟩
    refine ⟨_, rfl, _, rfl, rfl, _, rfl, ite2 (fun e => ?_) (fun e => ?_)⟩
    · have hc : a = b := V.int.inj (of_decide_eq_true e)
      have e2 : act .eq a b = 1 := if_pos hc
      rw [e2] at q
      exact q
    · have hc : ¬ (a = b) := fun z => e (decide_eq_true (by rw [z]))
      have e2 : act .eq a b = 0 := if_neg hc
      rw [e2] at q
      exact q
theorem ok_is_other (T : Tx w K mg) : FnOk P w K mg base CX0 1 T.a_is_other T.d_is_other ["a", "b"] (spAct .ne) := by
  refine T.F_is_other.ok sc_is_other (fun vs H Q E h => ?_) (fun cdv A outer s H vs Q E hr h => ?_)
  · obtain ⟨a, b, rfl, _⟩ := h
    rfl
  · obtain ⟨a, b, rfl, wa, wb, q⟩ := h
    refine ⟨_, (pss_one (ps_ret (pe_ifExp (pt_cmpR op_ne (pv 0) (pv 1) (nomark _)) pe_int pe_int))), ?_⟩
    refine ⟨_, rfl, _, rfl, rfl, _, rfl, ite2 (fun e => ?_) (fun e => ?_)⟩
    · have hc : a ≠ b := fun z => by subst z; simp at e
      have e2 : act .ne a b = 1 := if_pos hc
      rw [e2] at q
      exact q
    · have hc : ¬ (a ≠ b) := fun z => e (by simpa using z)
      have e2 : act .ne a b = 0 := if_neg hc
      rw [e2] at q
      exact q
theorem ok_lesser (T : Tx w K mg) : FnOk P w K mg base CX0 1 T.a_lesser T.d_lesser ["a", "b"] (spAct .min) := by
  refine T.F_lesser.ok sc_lesser (fun vs H Q E h => ?_) (fun cdv A outer s H vs Q E hr h => ?_)
  · obtain ⟨a, b, rfl, _⟩ := h
    rfl
  · obtain ⟨a, b, rfl, wa, wb, q⟩ := h
    refine ⟨_, (pss_one (ps_ret (pe_ifExp (pt_cmpR op_lt (pv 0) (pv 1) (nomark _)) (pv 0) (pv 1)))), ?_⟩
    refine ⟨_, rfl, _, rfl, _, _, rfl, rfl, _, rfl, ite2 (fun e => ?_) (fun e => ?_)⟩
    · have e2 : act .min a b = a := if_pos (of_decide_eq_true e)
      rw [e2] at q
      exact ⟨_, rfl, q⟩
    · have e2 : act .min a b = b := if_neg fun z => e (decide_eq_true z)
      rw [e2] at q
      exact ⟨_, rfl, q⟩
theorem ok_greater (T : Tx w K mg) : FnOk P w K mg base CX0 1 T.a_greater T.d_greater ["a", "b"] (spAct .max) := by
  refine T.F_greater.ok sc_greater (fun vs H Q E h => ?_) (fun cdv A outer s H vs Q E hr h => ?_)
  · obtain ⟨a, b, rfl, _⟩ := h
    rfl
  · obtain ⟨a, b, rfl, wa, wb, q⟩ := h
    refine ⟨_, (pss_one (ps_ret (pe_ifExp (pt_cmpR op_gt (pv 0) (pv 1) (nomark _)) (pv 0) (pv 1)))), ?_⟩
    refine ⟨_, rfl, _, rfl, _, _, rfl, rfl, _, rfl, ite2 (fun e => ?_) (fun e => ?_)⟩
    · have e2 : act .max a b = a := if_pos (of_decide_eq_true e)
      rw [e2] at q
      exact ⟨_, rfl, q⟩
    · have e2 : act .max a b = b := if_neg fun z => e (decide_eq_true z)
      rw [e2] at q
      exact ⟨_, rfl, q⟩
theorem ok_quotient (T : Tx w K mg) : FnOk P w K mg base CX0 1 T.a_quotient T.d_quotient ["a", "b"] (spAct .div) := by
  refine T.F_quotient.ok sc_quotient (fun vs H Q E h => ?_) (fun cdv A outer s H vs Q E hr h => ?_)
  · obtain ⟨a, b, rfl, _⟩ := h
    rfl
  · obtain ⟨a, b, rfl, wa, wb, q⟩ := h
    refine ⟨_, (pss_cons (ps_if (pt_cmpR op_eq (pv 1) pe_int (nomark _)) (pss_one (ps_ret pe_int)) pss_nil)
      (pss_cons (ps_set (i := 2) sc_quotient.nd rfl (.inl rfl) (pe_op op_fdivW (pe_callB call_abs (by rfl) T.z_abs (by decide +kernel) (pa_cons (pv 0) pa_nil)) (pe_callB call_abs (by rfl) T.z_abs (by decide +kernel) (pa_cons (pv 1) pa_nil))))
      (pss_one (ps_ret (pe_ifExp (pt_cmpR op_eq (pe_cmpR op_lt (pv 0) pe_int (nomark _)) (pe_cmpR op_lt (pv 1) pe_int (nomark _)) (nomark _)) (pv 2) (pe_un un_neg (pv 2))))))), ?_⟩
    refine ⟨_, rfl, rfl, _, rfl, ite2 (fun e => ?_) (fun e => ?_)⟩
    · have hb : b = 0 := V.int.inj (of_decide_eq_true e)
      have e2 : act .div a b = 0 := if_pos hb
      rw [e2] at q
      exact q
    · have hb : ¬ b = 0 := fun z => e (decide_eq_true (by rw [z]))
      have e2 : act .div a b = if decide (a < 0) = decide (b < 0) then ab a / ab b else -(ab a / ab b) := if_neg hb
      rw [e2] at q
      refine ⟨_, rfl, _, rfl, _, rfl, _, rfl, _, _, rfl, rfl, ?_, ?_⟩
      · have h1 : (0 : Int) < ab b := by unfold ab; split <;> omega
        have h2 : (ab b).natAbs < 2 ^ 32 := by unfold W at wb; unfold ab; split <;> omega
        exact wide_div h1 h2 (by decide) (by decide)
      · refine ⟨_, rfl, _, _, rfl, rfl, _, rfl, _, _, rfl, rfl, rfl, _, rfl, ite2 (fun z => ?_) (fun z => ?_)⟩
        · rw [if_pos (V.bl.inj (of_decide_eq_true z))] at q
          exact ⟨_, rfl, q⟩
        · rw [if_neg fun y => z (decide_eq_true (congrArg V.bl y))] at q
          exact ⟨_, rfl, _, rfl, q⟩
theorem ok_remainder (T : Tx w K mg) : FnOk P w K mg base CX0 2 T.a_remainder T.d_remainder ["a", "b"] (spAct .rem) := by
  refine T.F_remainder.ok sc_remainder (fun vs H Q E h => ?_) (fun cdv A outer s H vs Q E hr h => ?_)
  · obtain ⟨a, b, rfl, _⟩ := h
    rfl
  · obtain ⟨a, b, rfl, wa, wb, q⟩ := h
    refine ⟨_, (pss_one (ps_ret (pe_ifExp (pt_cmpR op_eq (pv 1) pe_int (nomark _)) pe_int (pe_op op_sub (pv 0) (pe_op op_mul (pv 1) (pe_call (ok_quotient T) (hr.mono (by decide)) (by rfl) T.g_quotient T.F_quotient.kp T.b_quotient .nil pass0 (pa_cons (pv 0) (pa_cons (pv 1) pa_nil)))))))), ?_⟩
    refine ⟨_, rfl, rfl, _, rfl, ite2 (fun e => ?_) (fun e => ?_)⟩
    · have hb : b = 0 := V.int.inj (of_decide_eq_true e)
      have e2 : act .rem a b = 0 := if_pos hb
      rw [e2] at q
      exact q
    · have hb : ¬ b = 0 := fun z => e (decide_eq_true (by rw [z]))
      have e2 : act .rem a b = a - b * quo a b := if_neg hb
      rw [e2] at q
      exact ⟨_, rfl, _, rfl, _, rfl, _, rfl, _, _, rfl, wa, wb, _, _, rfl, rfl, .inl ⟨by unfold W at wb; omega, by unfold W at wb; omega⟩, _, _, rfl, rfl, q⟩
theorem ok_negative (T : Tx w K mg) : FnOk P w K mg base CX0 1 T.a_negative T.d_negative ["a"] (spU .neg) := by
  refine T.F_negative.ok sc_negative (fun vs H Q E h => ?_) (fun cdv A outer s H vs Q E hr h => ?_)
  · obtain ⟨a, rfl, _⟩ := h
    rfl
  · obtain ⟨a, rfl, wa, q⟩ := h
    refine ⟨_, (pss_one (ps_ret (pe_un un_neg (pv 0)))), ?_⟩
    exact ⟨_, rfl, _, rfl, q⟩
theorem ok_turned_bits (T : Tx w K mg) : FnOk P w K mg base CX0 1 T.a_turned_bits T.d_turned_bits ["a"] (spU .not) := by
  refine T.F_turned_bits.ok sc_turned_bits (fun vs H Q E h => ?_) (fun cdv A outer s H vs Q E hr h => ?_)
  · obtain ⟨a, rfl, _⟩ := h
    rfl
  · obtain ⟨a, rfl, wa, q⟩ := h
    refine ⟨_, (pss_one (ps_ret (pe_un un_inv (pv 0)))), ?_⟩
    exact ⟨_, rfl, _, rfl, q⟩
theorem ok_is_zero (T : Tx w K mg) : FnOk P w K mg base CX0 1 T.a_is_zero T.d_is_zero ["a"] (spU .zero) := by
  refine T.F_is_zero.ok sc_is_zero (fun vs H Q E h => ?_) (fun cdv A outer s H vs Q E hr h => ?_)
  · obtain ⟨a, rfl, _⟩ := h
    rfl
  · obtain ⟨a, rfl, wa, q⟩ := h
    refine ⟨_, (pss_one (ps_ret (pe_ifExp (pt_cmpR op_eq (pv 0) pe_int (nomark _)) pe_int pe_int))), ?_⟩
    refine ⟨_, rfl, rfl, _, rfl, ite2 (fun e => ?_) (fun e => ?_)⟩
    · have e2 : uact .zero a = 1 := if_pos (V.int.inj (of_decide_eq_true e))
      rw [e2] at q
      exact q
    · have e2 : uact .zero a = 0 := if_neg fun z => e (decide_eq_true (by rw [z]))
      rw [e2] at q
      exact q
/-- the action of an operator: where the table holds it, and what it promises -/
theorem act_at (T : Tx w K mg) : ∀ o : Op, ∃ f : Addr, KDct K w T.a_BINARY_ACTIONS o.s (.ref f) ∧ Held P w K mg base 2 f (spAct o)
  | .add => ⟨_, T.k_BINARY_ACTIONS_add, ⟨_, _, (ok_sum_of T).mono (by decide), T.F_sum_of.kp, T.b_sum_of⟩⟩
  | .sub => ⟨_, T.k_BINARY_ACTIONS_sub, ⟨_, _, (ok_difference T).mono (by decide), T.F_difference.kp, T.b_difference⟩⟩
  | .mul => ⟨_, T.k_BINARY_ACTIONS_mul, ⟨_, _, (ok_product_of T).mono (by decide), T.F_product_of.kp, T.b_product_of⟩⟩
  | .div => ⟨_, T.k_BINARY_ACTIONS_div, ⟨_, _, (ok_quotient T).mono (by decide), T.F_quotient.kp, T.b_quotient⟩⟩
  | .rem => ⟨_, T.k_BINARY_ACTIONS_rem, ⟨_, _, ok_remainder T, T.F_remainder.kp, T.b_remainder⟩⟩
  | .and => ⟨_, T.k_BINARY_ACTIONS_and, ⟨_, _, (ok_bits_of_both T).mono (by decide), T.F_bits_of_both.kp, T.b_bits_of_both⟩⟩
  | .or => ⟨_, T.k_BINARY_ACTIONS_or, ⟨_, _, (ok_bits_of_any T).mono (by decide), T.F_bits_of_any.kp, T.b_bits_of_any⟩⟩
  | .xor => ⟨_, T.k_BINARY_ACTIONS_xor, ⟨_, _, (ok_bits_of_one T).mono (by decide), T.F_bits_of_one.kp, T.b_bits_of_one⟩⟩
  | .shl => ⟨_, T.k_BINARY_ACTIONS_shl, ⟨_, _, (ok_shifted_left T).mono (by decide), T.F_shifted_left.kp, T.b_shifted_left⟩⟩
  | .shr => ⟨_, T.k_BINARY_ACTIONS_shr, ⟨_, _, (ok_shifted_right T).mono (by decide), T.F_shifted_right.kp, T.b_shifted_right⟩⟩
  | .lt => ⟨_, T.k_BINARY_ACTIONS_lt, ⟨_, _, (ok_is_less T).mono (by decide), T.F_is_less.kp, T.b_is_less⟩⟩
  | .le => ⟨_, T.k_BINARY_ACTIONS_le, ⟨_, _, (ok_is_at_most T).mono (by decide), T.F_is_at_most.kp, T.b_is_at_most⟩⟩
  | .eq => ⟨_, T.k_BINARY_ACTIONS_eq, ⟨_, _, (ok_is_equal T).mono (by decide), T.F_is_equal.kp, T.b_is_equal⟩⟩
  | .ne => ⟨_, T.k_BINARY_ACTIONS_ne, ⟨_, _, (ok_is_other T).mono (by decide), T.F_is_other.kp, T.b_is_other⟩⟩
  | .min => ⟨_, T.k_BINARY_ACTIONS_min, ⟨_, _, (ok_lesser T).mono (by decide), T.F_lesser.kp, T.b_lesser⟩⟩
  | .max => ⟨_, T.k_BINARY_ACTIONS_max, ⟨_, _, (ok_greater T).mono (by decide), T.F_greater.kp, T.b_greater⟩⟩
theorem uact_at (T : Tx w K mg) : ∀ o : Uop, ∃ f : Addr, KDct K w T.a_UNARY_ACTIONS o.s (.ref f) ∧ Held P w K mg base 1 f (spU o)
  | .neg => ⟨_, T.k_UNARY_ACTIONS_neg, ⟨_, _, ok_negative T, T.F_negative.kp, T.b_negative⟩⟩
  | .not => ⟨_, T.k_UNARY_ACTIONS_not, ⟨_, _, ok_turned_bits T, T.F_turned_bits.kp, T.b_turned_bits⟩⟩
  | .zero => ⟨_, T.k_UNARY_ACTIONS_zero, ⟨_, _, ok_is_zero T, T.F_is_zero.kp, T.b_is_zero⟩⟩
theorem ok_binary (T : Tx w K mg) : FnOk P w K mg base CX0 3 T.a_binary T.d_binary ["op", "a", "b"] spBinary := by
  refine T.F_binary.ok sc_binary (fun vs H Q E h => ?_) (fun cdv A outer s H vs Q E hr h => ?_)
  · obtain ⟨o, a, b, rfl, _⟩ := h
    rfl
  · obtain ⟨o, a, b, rfl, wa, wb, q⟩ := h
    obtain ⟨f, kd, hf⟩ := act_at (P := P) (base := base) T o
    have A0 : ∀ (x : Addr) (sp : Sp), (if x = f then some (spAct o) else none) = some sp → Held P w K mg base 2 x sp := fun x sp e => by
      by_cases z : x = f
      · rw [if_pos z] at e
        cases e
        rw [z]
        exact hf
      · rw [if_neg z] at e
        cases e
    refine ⟨_, (pss_cons (ps_set (i := 3) sc_binary.nd rfl (.inl rfl) (pe_ix ix_kdict (pe_gq (by rfl) T.q_BINARY_ACTIONS) (pv 0) (fun _ _ => rfl)))
      (pss_one (ps_ret (pe_call (ok_wrapped T) (hr.mono (by decide)) (by rfl) T.g_wrapped T.F_wrapped.kp T.b_wrapped .nil pass0 (pa_cons (pe_callA (i := 3) A0 hr rfl (.inl rfl) (pa_cons (pv 1) (pa_cons (pv 2) pa_nil))) pa_nil))))), ?_⟩
    exact ⟨_, rfl, _, _, _, rfl, rfl, kd, f, spAct o, rfl, if_pos rfl, _, rfl, _, rfl, a, b, rfl, wa, wb, _, rfl, q⟩
theorem ok_unary (T : Tx w K mg) : FnOk P w K mg base CX0 2 T.a_unary T.d_unary ["op", "a"] spUnary := by
  refine T.F_unary.ok sc_unary (fun vs H Q E h => ?_) (fun cdv A outer s H vs Q E hr h => ?_)
  · obtain ⟨o, a, rfl, _⟩ := h
    rfl
  · obtain ⟨o, a, rfl, wa, q⟩ := h
    obtain ⟨f, kd, hf⟩ := uact_at (P := P) (base := base) T o
    have A0 : ∀ (x : Addr) (sp : Sp), (if x = f then some (spU o) else none) = some sp → Held P w K mg base 1 x sp := fun x sp e => by
      by_cases z : x = f
      · rw [if_pos z] at e
        cases e
        rw [z]
        exact hf
      · rw [if_neg z] at e
        cases e
    refine ⟨_, (pss_cons (ps_set (i := 2) sc_unary.nd rfl (.inl rfl) (pe_ix ix_kdict (pe_gq (by rfl) T.q_UNARY_ACTIONS) (pv 0) (fun _ _ => rfl)))
      (pss_one (ps_ret (pe_call (ok_wrapped T) (hr.mono (by decide)) (by rfl) T.g_wrapped T.F_wrapped.kp T.b_wrapped .nil pass0 (pa_cons (pe_callA (i := 2) A0 hr rfl (.inl rfl) (pa_cons (pv 1) pa_nil)) pa_nil))))), ?_⟩
    exact ⟨_, rfl, _, _, _, rfl, rfl, kd, f, spU o, rfl, if_pos rfl, _, rfl, a, rfl, wa, _, rfl, q⟩

/-! ### the law's stream of draws -/
/-- at p: a stream; which numbers it gives is left open -/
def Strm (H : Hp) (p : Addr) : Prop := ∃ (q : Addr) (cur pos mixed : Int) (ns : List Int), H p = some (.lst [.ref q, .int cur, .int pos, .int mixed]) ∧ H q = some (.lst (ns.map V.int)) ∧
  0 ≤ cur ∧ 0 ≤ pos ∧ pos ≤ ns.length ∧ ns.length ≤ 63 ∧ 0 ≤ mixed ∧ mixed < 2147483647
def But (p : Addr) (H H' : Hp) : Prop := ∀ b o, b ≠ p → H b = some o → H' b = some o
theorem But.refl {p : Addr} {H : Hp} : But p H H := fun _ _ _ h => h
theorem But.trans {p : Addr} {H H1 H2 : Hp} (a : But p H H1) (b : But p H1 H2) : But p H H2 := fun c o n h => b c o n (a c o n h)
theorem But.same {p : Addr} {H H1 H2 : Hp} (a : But p H H1) (b : Same H1 H2) : But p H H2 := fun c o n h => b c o (a c o n h)
theorem But.upd {p : Addr} {H H1 : Hp} {o : HO} (a : But p H H1) : But p H (L2.upd H1 p o) := fun c u n h => by rw [upd_ne n]; exact a c u n h
theorem same_new {H : Hp} {p : Addr} {o : HO} (h : H p = none) : Same H (upd H p o) := fun b x e => by
  rw [upd_ne (ne_of_none e h)]
  exact e
theorem Strm.same {H H' : Hp} {p : Addr} (s : Strm H p) (h : Same H H') : Strm H' p := by
  obtain ⟨q, cur, pos, mixed, ns, e1, e2, r⟩ := s
  exact ⟨q, cur, pos, mixed, ns, h _ _ e1, h _ _ e2, r⟩
def sp_law_stream (K : PySem.W.Frag) : Sp := fun vs H Q _ => ∃ (a : Addr) (ns : List Int), vs = [.ref a] ∧ SqL K H a (ns.map V.int) ∧ ns.length ≤ 63 ∧ ∀ H' p, Same H H' → H p = none → Strm H' p → Q (.ref p) H'
def sp_law_draw : Sp := fun vs H Q _ => ∃ (p : Addr) (many : Int), vs = [.ref p, .int many] ∧ Strm H p ∧ 0 < many ∧ many < 2 ^ 100 ∧ ∀ (v : Int) H', 0 ≤ v → v < many → But p H H' → Strm H' p → Q (.int v) H'
theorem ok_law_stream (T : Tx w K mg) : FnOk P w K mg base CX0 1 T.a_law_stream T.d_law_stream ["script"] (sp_law_stream K) := by
  refine T.F_law_stream.ok sc_law_stream (fun vs H Q E h => ?_) (fun cdv A outer s H vs Q E hr h => ?_)
  · obtain ⟨a, ns, rfl, _⟩ := h
    rfl
  · obtain ⟨a, ns, rfl, hS, hlen, q⟩ := h
    refine ⟨_, (pss_cons (ps_set (i := 1) sc_law_stream.nd rfl (.inl rfl) pe_int)
      (pss_cons (ps_for PassesOwn.never rfl (pi_list (pv 0)) (pg_name (i := 2) sc_law_stream.nd rfl (.inl rfl)) (pss_one (ps_set (i := 1) sc_law_stream.nd rfl (.inl rfl) (pe_op op_mod (pe_callTy call_int1 (by rfl) T.z_int (by decide +kernel) (pa_cons (pe_op op_add (pe_op op_add (pe_op op_mul (pv 1) pe_int) (pe_op op_mod (pe_callTy call_int1 (by rfl) T.z_int (by decide +kernel) (pa_cons (pv 2) pa_nil)) pe_int)) pe_int) pa_nil)) pe_int))))
      (pss_one (ps_ret (pe_lst (pa_cons (pe_callTy call_list_of (by rfl) T.z_list (by decide +kernel) (pa_cons (pv 0) pa_nil)) (pa_cons pe_int (pa_cons pe_int (pa_cons (pv 1) pa_nil))))))))), ?_⟩
    refine ⟨_, rfl, a, rfl, ⟨_, hS⟩, for_list (K := K) (a := a) (xs := ns.map V.int) (fun i σ H' => ∃ (m : Int) (c : Option V), σ = [some (.ref a), some (.int m), c] ∧ 0 ≤ m ∧ m < 2147483647 ∧ H' = H) ⟨17, none, rfl, by decide, by decide, rfl⟩ (fun i σ H' _ ⟨_, _, _, _, _, e⟩ => by rw [e]; exact hS) ?_ ?_⟩
    · rintro i x σ H' hx ⟨m, c, rfl, h0, h1, rfl⟩
      obtain ⟨n, rfl⟩ : ∃ n, x = V.int n := by
        rw [List.getElem?_map] at hx
        cases e : ns[i]? with
        | none => rw [e] at hx; cases hx
        | some u => rw [e] at hx; exact ⟨u, (Option.some.inj hx).symm⟩
      refine ⟨_, rfl, _, _, rfl, rfl, .inl ⟨by omega, by omega⟩, _, rfl, .inl ⟨_, rfl, _, _, rfl, rfl, (by show (0 : Int) < 65521; decide), _, _, rfl, rfl, _, _, rfl, rfl, .inl ⟨_, rfl, _, _, rfl, rfl, (by show (0 : Int) < 2147483647; decide), ?_⟩⟩⟩
      exact ⟨_, _, rfl, Int.emod_nonneg _ (by decide), Int.emod_lt_of_pos _ (by decide), rfl⟩
    · rintro σ H' ⟨m, c, rfl, h0, h1, rfl⟩
      refine ⟨_, rfl, a, _, rfl, .inl hS, fun l nl => ⟨_, rfl, (by show 4 ≤ sizeLine; decide), fun p np => ?_⟩⟩
      have npl : p ≠ l := fun e => by rw [e, upd_same] at np; cases np
      have np0 : H' p = none := by rw [upd_ne npl] at np; exact np
      refine q _ p ((same_new nl).trans (same_new np)) np0 ⟨l, 0, 0, m, ns, upd_same, ?_, by decide, by decide, by omega, hlen, h0, h1⟩
      rw [upd_ne npl.symm, upd_same]
theorem ok_law_draw (T : Tx w K mg) : FnOk P w K mg base CX0 1 T.a_law_draw T.d_law_draw ["stream", "many"] sp_law_draw := by
  refine T.F_law_draw.ok sc_law_draw (fun vs H Q E h => ?_) (fun cdv A outer s H vs Q E hr h => ?_)
  · obtain ⟨p, many, rfl, _⟩ := h
    rfl
  · obtain ⟨p, many, rfl, hS, hm0, hm1, k⟩ := h
    refine ⟨_, (C8.pss_cut (ps_if (PW.pt (pw_and (pt_cmpR op_eq (pe_ix ix_list (pv 0) pe_int (fun _ _ => rfl)) pe_int (nomark _)) (pw_and1 (pt_cmpR op_lt (pe_ix ix_list (pv 0) pe_int (fun _ _ => rfl)) (pe_callB call_len_seq (by rfl) T.z_len (by decide +kernel) (pa_cons (pe_ix ix_list (pv 0) pe_int (fun _ _ => rfl)) pa_nil)) (nomark _))))) (pss_cons (ps_asg (pe_callB call_abs (by rfl) T.z_abs (by decide +kernel) (pa_cons (pe_callTy call_int1 (by rfl) T.z_int (by decide +kernel) (pa_cons (pe_ix ix_list (pe_ix ix_list (pv 0) pe_int (fun _ _ => rfl)) (pe_ix ix_list (pv 0) pe_int (fun _ _ => rfl)) (fun _ _ => rfl)) pa_nil)) pa_nil)) (pg_sub (pv 0) pe_int set_list))
      (pss_one (ps_asg (pe_op op_add (pe_ix ix_list (pv 0) pe_int (fun _ _ => rfl)) pe_int) (pg_sub (pv 0) pe_int set_list)))) pss_nil)
      (pss_cons (ps_if (pt_cmpR op_eq (pe_ix ix_list (pv 0) pe_int (fun _ _ => rfl)) pe_int (nomark _)) (pss_cons (ps_asg (pe_op op_mod (pe_callTy call_int1 (by rfl) T.z_int (by decide +kernel) (pa_cons (pe_op op_add (pe_op op_mul (pe_ix ix_list (pv 0) pe_int (fun _ _ => rfl)) pe_int) pe_int) pa_nil)) pe_int) (pg_sub (pv 0) pe_int set_list))
      (pss_one (ps_ret (pe_op op_mod (pe_callTy call_int1 (by rfl) T.z_int (by decide +kernel) (pa_cons (pe_op op_fdivW (pe_ix ix_list (pv 0) pe_int (fun _ _ => rfl)) pe_int) pa_nil)) (pv 1))))) pss_nil)
      (pss_cons (ps_set (i := 2) sc_law_draw.nd rfl (.inl rfl) (pe_op op_mod (pe_callTy call_int1 (by rfl) T.z_int (by decide +kernel) (pa_cons (pe_ix ix_list (pv 0) pe_int (fun _ _ => rfl)) pa_nil)) (pv 1)))
      (pss_cons (ps_asg (pe_op op_fdivW (pe_ix ix_list (pv 0) pe_int (fun _ _ => rfl)) (pv 1)) (pg_sub (pv 0) pe_int set_list))
      (pss_one (ps_ret (pv 2))))))), ?_⟩
    refine ⟨fun σ' H' => σ' = [some (.ref p), some (.int many), none] ∧ But p H H' ∧ Strm H' p, ?_, ?_⟩
    · have hS0 := hS
      obtain ⟨q, cur, pos, mixed, ns, e1, e2, c0, p0, p1, l63, m0, m1⟩ := hS
      have nqp : q ≠ p := fun z => by
        rw [z, e1] at e2
        cases ns with
        | nil => cases e2
        | cons x r => cases e2
      refine ⟨_, rfl, p, _, 1, _, rfl, rfl, SqL.of e1, rfl, rfl, _, rfl, ite2 (fun z1 => ?_) (fun z1 => iteF ⟨rfl, .refl, hS0⟩)⟩
      refine ⟨_, rfl, p, _, 2, _, rfl, rfl, SqL.of e1, rfl, _, rfl, p, _, 0, _, rfl, rfl, SqL.of e1, rfl, q, _, rfl, .inl (SqL.of e2), _, _, rfl, rfl, _, rfl, ite2 (fun z2 => ?_) (fun z2 => ⟨rfl, .refl, hS0⟩)⟩
      have hlt : pos < ns.length := by
        have z3 := of_decide_eq_true z2
        rw [List.length_map] at z3
        exact z3
      obtain ⟨j, rfl⟩ : ∃ j : Nat, pos = (j : Int) := ⟨pos.toNat, by omega⟩
      have hj : j < ns.length := by omega
      have g : (ns.map V.int)[j]? = some (.int ns[j]) := by
        rw [List.getElem?_map, List.getElem?_eq_getElem hj]
        rfl
      refine ⟨_, rfl, p, _, 0, _, rfl, rfl, SqL.of e1, rfl, _, rfl, p, _, 2, _, rfl, rfl, SqL.of e1, rfl, q, _, _, _, rfl, rfl, SqL.of e2, atI_nat g, .inl ⟨_, rfl, _, rfl, ?_⟩⟩
      refine ⟨_, rfl, p, _, 1, 1, rfl, rfl, e1, rfl, ?_⟩
      refine ⟨_, rfl, p, _, 2, _, rfl, rfl, SqL.of upd_same, rfl, _, _, rfl, rfl, _, rfl, p, _, 2, 2, rfl, rfl, upd_same, rfl, ?_⟩
      refine ⟨rfl, But.upd (But.upd .refl), q, (if ns[j] < 0 then -ns[j] else ns[j]), (j : Int) + 1, mixed, ns, upd_same, ?_, by split <;> omega, by omega, by omega, l63, m0, m1⟩
      rw [upd_ne nqp, upd_ne nqp]
      exact e2
    · rintro σ' H' ⟨rfl, hB, hS2⟩
      obtain ⟨q, cur, pos, mixed, ns, e1, e2, c0, p0, p1, l63, m0, m1⟩ := hS2
      have nqp : q ≠ p := fun z => by
        rw [z, e1] at e2
        cases ns with
        | nil => cases e2
        | cons x r => cases e2
      refine ⟨_, rfl, p, _, 1, _, rfl, rfl, SqL.of e1, rfl, rfl, _, rfl, ite2 (fun z1 => ?_) (fun z1 => ?_)⟩
      · refine ⟨_, rfl, p, _, 3, _, rfl, rfl, SqL.of e1, rfl, _, _, rfl, rfl, .inl ⟨by omega, by omega⟩, _, _, rfl, rfl, .inl ⟨_, rfl, _, _, rfl, rfl, (by show (0 : Int) < 2147483647; decide), ?_⟩⟩
        refine ⟨_, rfl, p, _, 3, 3, rfl, rfl, e1, rfl, ?_⟩
        refine ⟨_, rfl, p, _, 3, _, rfl, rfl, SqL.of upd_same, rfl, _, _, rfl, rfl, wide_div (b := 8) (by decide) (by decide) (by decide) (by decide), .inl ⟨_, rfl, _, rfl, _, _, rfl, rfl, hm0, ?_⟩⟩
        refine k _ _ (Int.emod_nonneg _ (by omega)) (Int.emod_lt_of_pos _ hm0) (But.upd hB) ⟨q, cur, pos, _, ns, upd_same, by rw [upd_ne nqp]; exact e2, c0, p0, p1, l63, Int.emod_nonneg _ (by decide), Int.emod_lt_of_pos _ (by decide)⟩
      · refine ⟨_, rfl, p, _, 1, _, rfl, rfl, SqL.of e1, rfl, .inl ⟨_, rfl, _, rfl, _, _, rfl, rfl, hm0, ?_⟩⟩
        have hw : CDivW cur many := wide_div (b := 100) hm0 (by omega) (by decide) (by decide)
        refine ⟨_, rfl, p, _, 1, _, rfl, rfl, SqL.of e1, rfl, _, rfl, _, _, rfl, rfl, hw, _, rfl, p, _, 1, 1, rfl, rfl, e1, rfl, _, rfl, ?_⟩
        exact k _ _ (Int.emod_nonneg _ (by omega)) (Int.emod_lt_of_pos _ hm0) (But.upd hB) ⟨q, _, pos, _, ns, upd_same, by rw [upd_ne nqp]; exact e2, Int.ediv_nonneg c0 (by omega), p0, p1, l63, m0, m1⟩

def sp_law_word : Sp := fun vs H Q _ => ∃ p : Addr, vs = [.ref p] ∧ Strm H p ∧ ∀ (v : Int) H', W v → But p H H' → Strm H' p → Q (.int v) H'
theorem rows_at {v : Int} (h0 : 0 ≤ v) (h1 : v < 16) : ∃ x, atI [V.int 0, .int 1, .int (-1), .int 2, .int 5, .int 31, .int 32, .int 33, .int (-32), .int (2 ^ (31 : Int).toNat - 1), .int (-(2 ^ (31 : Int).toNat)), .int (2 ^ (31 : Int).toNat - 2), .int (1 - 2 ^ (31 : Int).toNat), .int 65535, .int 65536, .int (-65536)] v = some (.int x) ∧ W x := by
  obtain ⟨n, rfl⟩ : ∃ n : Nat, v = (n : Int) := ⟨v.toNat, by omega⟩
  have hn : n < 16 := by omega
  match n, hn with
  | 0, _ => exact ⟨_, rfl, by unfold W; decide⟩
  | 1, _ => exact ⟨_, rfl, by unfold W; decide⟩
  | 2, _ => exact ⟨_, rfl, by unfold W; decide⟩
  | 3, _ => exact ⟨_, rfl, by unfold W; decide⟩
  | 4, _ => exact ⟨_, rfl, by unfold W; decide⟩
  | 5, _ => exact ⟨_, rfl, by unfold W; decide⟩
  | 6, _ => exact ⟨_, rfl, by unfold W; decide⟩
  | 7, _ => exact ⟨_, rfl, by unfold W; decide⟩
  | 8, _ => exact ⟨_, rfl, by unfold W; decide⟩
  | 9, _ => exact ⟨_, rfl, by unfold W; decide⟩
  | 10, _ => exact ⟨_, rfl, by unfold W; decide⟩
  | 11, _ => exact ⟨_, rfl, by unfold W; decide⟩
  | 12, _ => exact ⟨_, rfl, by unfold W; decide⟩
  | 13, _ => exact ⟨_, rfl, by unfold W; decide⟩
  | 14, _ => exact ⟨_, rfl, by unfold W; decide⟩
  | 15, _ => exact ⟨_, rfl, by unfold W; decide⟩
  | n + 16, h => omega
theorem ok_law_word (T : Tx w K mg) : FnOk P w K mg base CX0 2 T.a_law_word T.d_law_word ["stream"] sp_law_word := by
  refine T.F_law_word.ok sc_law_word (fun vs H Q E h => ?_) (fun cdv A outer s H vs Q E hr h => ?_)
  · obtain ⟨p, rfl, _⟩ := h
    rfl
  · obtain ⟨p, rfl, hS, k⟩ := h
    refine ⟨_, (pss_cons (ps_set (i := 1) sc_law_word.nd rfl (.inl rfl) (pe_lst (pa_cons pe_int (pa_cons pe_int (pa_cons (pe_un un_neg pe_int) (pa_cons pe_int (pa_cons pe_int (pa_cons pe_int (pa_cons pe_int (pa_cons pe_int (pa_cons (pe_un un_neg pe_int) (pa_cons (pe_op op_sub (pe_op op_pow pe_int pe_int) pe_int) (pa_cons (pe_un un_neg (pe_op op_pow pe_int pe_int)) (pa_cons (pe_op op_sub (pe_op op_pow pe_int pe_int) pe_int) (pa_cons (pe_op op_sub pe_int (pe_op op_pow pe_int pe_int)) (pa_cons pe_int (pa_cons pe_int (pa_cons (pe_un un_neg pe_int) pa_nil))))))))))))))))))
      (pss_cons (ps_if (pt_cmpR op_eq (pe_call (ok_law_draw T) (hr.mono (by decide)) (by rfl) T.g_law_draw T.F_law_draw.kp T.b_law_draw .nil pass0 (pa_cons (pv 0) (pa_cons pe_int pa_nil))) pe_int (nomark _)) (pss_one (ps_ret (pe_op op_sub (pe_call (ok_law_draw T) (hr.mono (by decide)) (by rfl) T.g_law_draw T.F_law_draw.kp T.b_law_draw .nil pass0 (pa_cons (pv 0) (pa_cons (pe_op op_pow pe_int pe_int) pa_nil))) (pe_op op_pow pe_int pe_int)))) pss_nil)
      (pss_one (ps_ret (pe_ix ix_list (pv 1) (pe_call (ok_law_draw T) (hr.mono (by decide)) (by rfl) T.g_law_draw T.F_law_draw.kp T.b_law_draw .nil pass0 (pa_cons (pv 0) (pa_cons (pe_callB call_len_seq (by rfl) T.z_len (by decide +kernel) (pa_cons (pv 1) pa_nil)) pa_nil))) (fun _ _ => rfl)))))), ?_⟩
    have cp : CPow 2 31 := ⟨by decide, by decide, by decide⟩
    refine ⟨_, rfl, _, rfl, _, _, rfl, rfl, cp, _, _, rfl, rfl, _, _, rfl, rfl, cp, _, rfl, _, _, rfl, rfl, cp, _, _, rfl, rfl, _, _, rfl, rfl, cp, _, _, rfl, rfl, _, rfl, (by show 16 ≤ sizeLine; decide), fun l nl => ?_⟩
    refine ⟨_, rfl, p, 3, rfl, hS.same (same_new nl), by decide, by decide, fun v H1 v0 v1 b1 s1 => ?_⟩
    have npl : l ≠ p := fun z => by
      obtain ⟨q, cur, pos, mixed, ns, e1, _⟩ := hS
      rw [z, e1] at nl
      cases nl
    have hl : H1 l = _ := b1 _ _ npl upd_same
    have bb : But p H H1 := fun b o n e => b1 b o n (by rw [upd_ne (ne_of_none e nl)]; exact e)
    refine ⟨rfl, _, rfl, ite2 (fun z => ?_) (fun z => ?_)⟩
    · refine ⟨_, rfl, _, _, rfl, rfl, ⟨by decide, by decide, by decide⟩, p, _, rfl, s1, by decide, by decide, fun u H2 u0 u1 b2 s2 => ?_⟩
      refine ⟨_, _, rfl, rfl, cp, _, _, rfl, rfl, k _ _ ?_ (bb.trans b2) s2⟩
      have e1 : (2 : Int) ^ (32 : Int).toNat = 4294967296 := by decide
      have e2 : (2 : Int) ^ (31 : Int).toNat = 2147483648 := by decide
      rw [e1] at u1
      unfold W
      rw [e2]
      omega
    · refine ⟨_, rfl, _, rfl, _, rfl, l, _, rfl, .inl (SqL.of hl), p, _, rfl, s1, by decide, by decide, fun u H2 u0 u1 b2 s2 => ?_⟩
      have hl2 : H2 l = _ := b2 _ _ npl hl
      obtain ⟨x, ex, wx⟩ := rows_at u0 u1
      exact ⟨l, _, _, _, rfl, rfl, SqL.of hl2, ex, k _ _ wx (bb.trans b2) s2⟩
/-! ### the law's operators -/
theorem ok_law_wrapped (T : Tx w K mg) : FnOk P w K mg base CX0 1 T.a_law_wrapped T.d_law_wrapped ["number"] (sp1 lwrap) := by
  refine T.F_law_wrapped.ok sc_law_wrapped (fun vs H Q E h => ?_) (fun cdv A outer s H vs Q E hr h => ?_)
  · obtain ⟨n, rfl, _⟩ := h
    rfl
  · obtain ⟨n, rfl, q⟩ := h
    refine ⟨_, (pss_cons (ps_set (i := 0) sc_law_wrapped.nd rfl (.inl rfl) (pe_op op_mod (pe_callTy call_int1 (by rfl) T.z_int (by decide +kernel) (pa_cons (pv 0) pa_nil)) pe_int))
      (pss_one (ps_ret (pe_op op_sub (pv 0) (pe_op op_mul pe_int (pe_callTy call_int1 (by rfl) T.z_int (by decide +kernel) (pa_cons (pe_cmpR op_gt (pv 0) pe_int (nomark _)) pa_nil))))))), ?_⟩
    exact ⟨_, rfl, .inl ⟨_, rfl, _, _, rfl, rfl, (by show (0 : Int) < 4294967296; decide), _, rfl, _, rfl, _, _, rfl, rfl, .inr ⟨_, rfl, _, _, rfl, rfl, .inl ⟨by decide, by decide⟩, _, _, rfl, rfl, q⟩⟩⟩
theorem dget {H : Hp} {a : Addr} {kvs : List (Key × V)} {k : Key} {v : V} (h : H a = some (.dK kvs)) (e : valV kvs k = some v) : DGet H a (kV k) (some v) := by
  rw [← e]
  exact DGet.k h
def isBit : Op → Bool
  | .and | .or | .xor => true
  | _ => false
def sp_law_bits : Sp := fun vs H Q _ => ∃ (o : Op) (a b : Int), vs = [.str o.s, .int a, .int b] ∧ isBit o = true ∧ ∀ H', Same H H' → Q (.int (lb o 32 (a % 4294967296) (b % 4294967296))) H'
theorem bit_at (o : Op) (h : isBit o = true) (x y : Int) : valV (mergeK [] [(Sum.inr "and", V.int (x * y)), (Sum.inr "or", V.int (if y > x then y else x)), (Sum.inr "xor", V.int (if (!decide (V.int x = V.int y)) = true then 1 else 0))]) (Sum.inr o.s) = some (.int (bit o x y)) := by
  cases o <;> first | (cases h; done) | rfl
theorem ok_law_bits (T : Tx w K mg) : FnOk P w K mg base CX0 1 T.a_law_bits T.d_law_bits ["op", "a", "b"] sp_law_bits := by
  refine T.F_law_bits.ok sc_law_bits (fun vs H Q E h => ?_) (fun cdv A outer s H vs Q E hr h => ?_)
  · obtain ⟨o, a, b, rfl, _⟩ := h
    rfl
  · obtain ⟨o, a, b, rfl, ho, q⟩ := h
    refine ⟨_, (pss_cons (ps_set (i := 1) sc_law_bits.nd rfl (.inl rfl) (pe_op op_mod (pe_callTy call_int1 (by rfl) T.z_int (by decide +kernel) (pa_cons (pv 1) pa_nil)) pe_int))
      (pss_cons (ps_set (i := 2) sc_law_bits.nd rfl (.inl rfl) (pe_op op_mod (pe_callTy call_int1 (by rfl) T.z_int (by decide +kernel) (pa_cons (pv 2) pa_nil)) pe_int))
      (pss_cons (ps_set (i := 3) sc_law_bits.nd rfl (.inl rfl) pe_int)
      (pss_cons (ps_set (i := 4) sc_law_bits.nd rfl (.inl rfl) pe_int)
      (pss_cons (ps_for PassesOwn.never rfl (pi_range1 (by rfl) T.z_range (pa_cons pe_int pa_nil)) (pg_name (i := 5) sc_law_bits.nd rfl (.inl rfl)) (pss_cons (ps_set (i := 6) sc_law_bits.nd rfl (.inl rfl) (pe_op op_mod (pe_callTy call_int1 (by rfl) T.z_int (by decide +kernel) (pa_cons (pv 1) pa_nil)) pe_int))
      (pss_cons (ps_set (i := 7) sc_law_bits.nd rfl (.inl rfl) (pe_op op_mod (pe_callTy call_int1 (by rfl) T.z_int (by decide +kernel) (pa_cons (pv 2) pa_nil)) pe_int))
      (pss_cons (ps_set (i := 8) sc_law_bits.nd rfl (.inl rfl) (pe_dget (hu_of hr) (pe_disp (pps_cons pe_str (pe_op op_mul (pv 6) (pv 7)) (pps_cons pe_str (pe_callB (call_max2 rfl) (by rfl) T.z_max (by decide +kernel) (pa_cons (pv 6) (pa_cons (pv 7) pa_nil))) (pps_cons pe_str (pe_callTy call_int1 (by rfl) T.z_int (by decide +kernel) (pa_cons (pe_cmpR op_ne (pv 6) (pv 7) (nomark _)) pa_nil)) pps_nil))) (by rfl) (by rfl) (fun z => by cases z) (by decide)) (pv 0) (fun _ _ => rfl)))
      (pss_cons (ps_set (i := 3) sc_law_bits.nd rfl (.inl rfl) (pe_op op_add (pv 3) (pe_op op_mul (pv 4) (pv 8))))
      (pss_cons (ps_set (i := 4) sc_law_bits.nd rfl (.inl rfl) (pe_op op_mul (pv 4) pe_int))
      (pss_cons (ps_set (i := 1) sc_law_bits.nd rfl (.inl rfl) (pe_op op_fdivW (pv 1) pe_int))
      (pss_one (ps_set (i := 2) sc_law_bits.nd rfl (.inl rfl) (pe_op op_fdivW (pv 2) pe_int))))))))))
      (pss_one (ps_ret (pv 3)))))))), ?_⟩
    refine ⟨_, rfl, .inl ⟨_, rfl, _, _, rfl, rfl, (by show (0 : Int) < 4294967296; decide), _, rfl, .inl ⟨_, rfl, _, _, rfl, rfl, (by show (0 : Int) < 4294967296; decide), ?_⟩⟩⟩
    refine ⟨32, rfl, by decide, by decide, for_range (n := 32) (fun i σ H' => ∃ (x y t : Int) (y5 y6 y7 y8 : Option V), σ = [some (.str o.s), some (.int x), some (.int y), some (.int t), some (.int (2 ^ i)), y5, y6, y7, y8] ∧ i ≤ 32 ∧ t + 2 ^ i * lb o (32 - i) x y = lb o 32 (a % 4294967296) (b % 4294967296) ∧ Same H H') ⟨_, _, 0, none, none, none, none, rfl, by decide, by show 0 + 1 * lb o 32 _ _ = _; omega, .refl H⟩ ?_ ?_⟩
    · rintro i σ H' hi ⟨x, y, t, y5, y6, y7, y8, rfl, h32, e, sm⟩
      refine ⟨_, rfl, .inl ⟨_, rfl, _, _, rfl, rfl, (by show (0 : Int) < 2; decide), _, rfl, .inl ⟨_, rfl, _, _, rfl, rfl, (by show (0 : Int) < 2; decide), ?_⟩⟩⟩
      have hp : (0 : Int) < 2 ^ i := Int.pow_pos (by decide)
      intro p np
      refine ⟨_, rfl, _, rfl, _, _, rfl, rfl, .inl ⟨by omega, by omega⟩, _, rfl, _, rfl, _, _, rfl, _, rfl, _, rfl, rfl, .inr ⟨_, rfl, ?_⟩⟩
      refine ⟨upd_same, [(Sum.inr "and", _), (Sum.inr "or", _), (Sum.inr "xor", _)], rfl, (by show 3 ≤ 15; decide), ?_⟩
      refine ⟨_, rfl, p, _, rfl, dget (k := Sum.inr o.s) upd_same (bit_at o ho _ _), _, rfl, _, rfl, _, rfl, _, _, rfl, rfl, .inl ⟨?_, ?_⟩, _, _, rfl, rfl, ?_⟩
      · show -(2 ^ 64 : Int) < 2 ^ i
        omega
      · show (2 ^ i : Int) < 2 ^ 64
        exact Int.pow_lt_pow_of_lt (by decide) (by omega)
      refine ⟨_, rfl, _, _, rfl, rfl, .inr ⟨by decide, by decide⟩, _, rfl, _, _, rfl, rfl, wide_div (b := 8) (by decide) (by decide) (by decide) (by decide), _, rfl, _, _, rfl, rfl, wide_div (b := 8) (by decide) (by decide) (by decide) (by decide), ?_⟩
      refine ⟨_, _, _, _, _, _, _, rfl, by omega, ?_, fun c u n => ?_⟩
      · rw [show 32 - i = (32 - (i + 1)) + 1 by omega] at e
        rw [show lb o (32 - (i + 1) + 1) x y = bit o (x % 2) (y % 2) + 2 * lb o (32 - (i + 1)) (x / 2) (y / 2) from rfl] at e
        rw [← e, Int.pow_succ, Int.mul_add, Int.mul_assoc]
        omega
      · have nc : c ≠ p := ne_of_none (sm _ _ n) np
        rw [upd_ne nc, upd_ne nc]
        exact sm _ _ n
    · rintro σ H' ⟨x, y, t, y5, y6, y7, y8, rfl, h32, e, sm⟩
      have e2 : t = lb o 32 (a % 4294967296) (b % 4294967296) := by
        rw [← e]
        show t = t + 2 ^ 32 * 0
        omega
      rw [← e2] at q
      exact ⟨_, rfl, q _ sm⟩
def sp_law_shifted : Sp := fun vs H Q _ => ∃ (o : Op) (a b : Int), vs = [.str o.s, .int a, .int b] ∧ (o = .shl ∨ o = .shr) ∧ W a ∧ Q (.int (act o a b)) H
theorem ok_law_shifted (T : Tx w K mg) : FnOk P w K mg base CX0 1 T.a_law_shifted T.d_law_shifted ["op", "a", "b"] sp_law_shifted := by
  refine T.F_law_shifted.ok sc_law_shifted (fun vs H Q E h => ?_) (fun cdv A outer s H vs Q E hr h => ?_)
  · obtain ⟨o, a, b, rfl, _⟩ := h
    rfl
  · obtain ⟨o, a, b, rfl, ho, wa, q⟩ := h
    refine ⟨_, (pss_cons (ps_for PassesOwn.never rfl (pi_range1 (by rfl) T.z_range (pa_cons (pe_op op_mod (pe_callTy call_int1 (by rfl) T.z_int (by decide +kernel) (pa_cons (pv 2) pa_nil)) pe_int) pa_nil)) (pg_name (i := 3) sc_law_shifted.nd rfl (.inl rfl)) (pss_one (ps_if (pt_cmpR op_eq (pv 0) pe_str (nomark _)) (pss_one (ps_set (i := 1) sc_law_shifted.nd rfl (.inl rfl) (pe_op op_mul (pv 1) pe_int))) (pss_one (ps_set (i := 1) sc_law_shifted.nd rfl (.inl rfl) (pe_op op_fdivW (pv 1) pe_int))))))
      (pss_one (ps_ret (pv 1)))), ?_⟩
    have hb0 : 0 ≤ b % 32 := Int.emod_nonneg _ (by decide)
    have hb1 : b % 32 < 32 := Int.emod_lt_of_pos _ (by decide)
    refine ⟨_, rfl, .inl ⟨_, rfl, _, _, rfl, rfl, (by show (0 : Int) < 32; decide), _, rfl, by show -(2 ^ 62 : Int) ≤ b % 32; omega, by show b % 32 < (2 ^ 62 : Int); omega, for_range (n := (b % 32).toNat) (fun i σ H' => ∃ (x : Int) (y : Option V), σ = [some (.str o.s), some (.int x), some (.int b), y] ∧ i ≤ 31 ∧ x = (if o = .shl then a * 2 ^ i else a / 2 ^ i) ∧ H' = H) ⟨a, none, rfl, by decide, by split <;> simp, rfl⟩ ?_ ?_⟩⟩
    · rintro i σ H' hi ⟨x, y, rfl, h31, e, rfl⟩
      have hp : (0 : Int) < 2 ^ i := Int.pow_pos (by decide)
      refine ⟨_, rfl, rfl, _, rfl, ite2 (fun z => ?_) (fun z => ?_)⟩
      · have eo : o = .shl := by
          rcases ho with rfl | rfl
          · rfl
          · exact absurd z (by decide +kernel)
        subst eo
        refine ⟨_, rfl, _, _, rfl, rfl, .inr ⟨by decide, by decide⟩, _, _, rfl, by omega, ?_, rfl⟩
        rw [e, if_pos rfl, if_pos rfl, Int.pow_succ, Int.mul_assoc]
      · have eo : o = .shr := by
          rcases ho with rfl | rfl
          · exact absurd (by decide +kernel) z
          · rfl
        subst eo
        refine ⟨_, rfl, _, _, rfl, rfl, wide_div (b := 8) (by decide) (by decide) (by decide) (by decide), _, _, rfl, by omega, ?_, rfl⟩
        rw [e, if_neg (by decide), if_neg (by decide), Int.pow_succ, Int.ediv_ediv_of_nonneg (by omega)]
    · rintro σ H' ⟨x, y, rfl, h31, e, rfl⟩
      have e3 : (Builtin.bitAnd b 31).toNat = (b % 32).toNat := by rw [bitAnd_m5]
      have e2 : act o a b = x := by
        rcases ho with rfl | rfl
        · rw [e, if_pos rfl, ← e3]
          rfl
        · rw [e, if_neg (by decide), ← e3]
          rfl
      rw [e2] at q
      exact ⟨_, rfl, q⟩
def sp_law_binary : Sp := fun vs H Q _ => ∃ (o : Op) (a b : Int), vs = [.str o.s, .int a, .int b] ∧ W a ∧ W b ∧ ∀ H', Same H H' → Q (.int (wrap (act o a b))) H'
def isRow : Op → Bool
  | .add | .sub | .mul | .lt | .le | .eq | .ne | .min | .max => true
  | _ => false
def rowVal : Op → Int → Int → Int
  | .add, a, b => a + b
  | .sub, a, b => a - b
  | .mul, a, b => a * b
  | .lt, a, b => if decide (a < b) = true then 1 else 0
  | .le, a, b => if decide (a ≤ b) = true then 1 else 0
  | .eq, a, b => if decide (V.int a = V.int b) = true then 1 else 0
  | .ne, a, b => if (!decide (V.int a = V.int b)) = true then 1 else 0
  | .min, a, b => if b < a then b else a
  | _, a, b => if b > a then b else a
theorem row_eq (o : Op) (h : isRow o = true) (a b : Int) : rowVal o a b = act o a b := by
  cases o <;> first | (cases h; done) | rfl | skip
  · show (if decide (a < b) = true then (1 : Int) else 0) = b1 (a < b)
    unfold b1
    by_cases z : a < b <;> simp [z]
  · show (if decide (a ≤ b) = true then (1 : Int) else 0) = b1 (a ≤ b)
    unfold b1
    by_cases z : a ≤ b <;> simp [z]
  · show (if decide (V.int a = V.int b) = true then (1 : Int) else 0) = b1 (a = b)
    unfold b1
    by_cases z : a = b <;> simp [z]
  · show (if (!decide (V.int a = V.int b)) = true then (1 : Int) else 0) = b1 (a ≠ b)
    unfold b1
    by_cases z : a = b <;> simp [z]
  · show (if b < a then b else a) = (if a < b then a else b)
    split <;> split <;> omega
  · show (if b > a then b else a) = (if b < a then a else b)
    split <;> split <;> omega
def rows6 (a b : Int) : List (Key × V) := [(Sum.inr "add", .int (a + b)), (Sum.inr "sub", .int (a - b)), (Sum.inr "mul", .int (a * b)), (Sum.inr "lt", .int (if decide (a < b) = true then 1 else 0)), (Sum.inr "le", .int (if decide (a ≤ b) = true then 1 else 0)), (Sum.inr "eq", .int (if decide (V.int a = V.int b) = true then 1 else 0))]
def rows9 (a b : Int) : List (Key × V) := putK (putK (putK (mergeK [] (rows6 a b)) (Sum.inr "ne") (.int (if (!decide (V.int a = V.int b)) = true then 1 else 0))) (Sum.inr "min") (.int (if b < a then b else a))) (Sum.inr "max") (.int (if b > a then b else a))
theorem row_at (o : Op) (h : isRow o = true) (a b : Int) : valV (rows9 a b) (Sum.inr o.s) = some (.int (rowVal o a b)) := by
  cases o <;> first | (cases h; done) | kernel_rfl
theorem len7 (a b : Int) (v : V) : (putK (mergeK [] (rows6 a b)) (Sum.inr "ne") v).length = 7 := by kernel_rfl
theorem len8 (a b : Int) (v u : V) : (putK (putK (mergeK [] (rows6 a b)) (Sum.inr "ne") v) (Sum.inr "min") u).length = 8 := by kernel_rfl
theorem inDR (o : Op) : inV (.str o.s) [.str "div", .str "rem"] = (match o with | .div | .rem => true | _ => false) := by
  cases o <;> rfl
theorem inBits (o : Op) : inV (.str o.s) [.str "and", .str "or", .str "xor"] = isBit o := by
  cases o <;> rfl
theorem inSh (o : Op) : inV (.str o.s) [.str "shl", .str "shr"] = (match o with | .shl | .shr => true | _ => false) := by
  cases o <;> rfl
theorem ok_law_binary (T : Tx w K mg) : FnOk P w K mg base CX0 2 T.a_law_binary T.d_law_binary ["op", "a", "b"] sp_law_binary := by
  refine T.F_law_binary.ok sc_law_binary (fun vs H Q E h => ?_) (fun cdv A outer s H vs Q E hr h => ?_)
  · obtain ⟨o, a, b, rfl, _⟩ := h
    rfl
  · obtain ⟨o, a, b, rfl, wa, wb, q⟩ := h
    refine ⟨_, (pss_cons (ps_if (pt_cmpR op_in_seq (pv 0) (pe_tup (pa_cons pe_str (pa_cons pe_str pa_nil))) (by rfl)) (pss_cons (ps_if (pt_cmpR op_eq (pv 2) pe_int (nomark _)) (pss_one (ps_ret pe_int)) pss_nil)
      (pss_cons (ps_set (i := 3) sc_law_binary.nd rfl (.inl rfl) (pe_op op_fdivW (pe_callB call_abs (by rfl) T.z_abs (by decide +kernel) (pa_cons (pv 1) pa_nil)) (pe_callB call_abs (by rfl) T.z_abs (by decide +kernel) (pa_cons (pv 2) pa_nil))))
      (C8.pss_cut (ps_if (pt_cmpR op_lt (pe_op op_mul (pv 1) (pv 2)) pe_int (nomark _)) (pss_one (ps_set (i := 3) sc_law_binary.nd rfl (.inl rfl) (pe_op op_sub pe_int (pv 3)))) pss_nil)
      (C8.pss_cut (ps_if (pt_cmpR op_eq (pv 0) pe_str (nomark _)) (pss_one (ps_set (i := 3) sc_law_binary.nd rfl (.inl rfl) (pe_op op_sub (pv 1) (pe_op op_mul (pv 3) (pv 2))))) pss_nil)
      (pss_one (ps_ret (pe_call (ok_law_wrapped T) (hr.mono (by decide)) (by rfl) T.g_law_wrapped T.F_law_wrapped.kp T.b_law_wrapped .nil pass0 (pa_cons (pv 3) pa_nil)))))))) pss_nil)
      (pss_cons (ps_if (pt_cmpR op_in_seq (pv 0) (pe_tup (pa_cons pe_str (pa_cons pe_str (pa_cons pe_str pa_nil)))) (by rfl)) (pss_one (ps_ret (pe_call (ok_law_wrapped T) (hr.mono (by decide)) (by rfl) T.g_law_wrapped T.F_law_wrapped.kp T.b_law_wrapped .nil pass0 (pa_cons (pe_call (ok_law_bits T) (hr.mono (by decide)) (by rfl) T.g_law_bits T.F_law_bits.kp T.b_law_bits .nil pass0 (pa_cons (pv 0) (pa_cons (pv 1) (pa_cons (pv 2) pa_nil)))) pa_nil)))) pss_nil)
      (pss_cons (ps_if (pt_cmpR op_in_seq (pv 0) (pe_tup (pa_cons pe_str (pa_cons pe_str pa_nil))) (by rfl)) (pss_one (ps_ret (pe_call (ok_law_wrapped T) (hr.mono (by decide)) (by rfl) T.g_law_wrapped T.F_law_wrapped.kp T.b_law_wrapped .nil pass0 (pa_cons (pe_call (ok_law_shifted T) (hr.mono (by decide)) (by rfl) T.g_law_shifted T.F_law_shifted.kp T.b_law_shifted .nil pass0 (pa_cons (pv 0) (pa_cons (pv 1) (pa_cons (pv 2) pa_nil)))) pa_nil)))) pss_nil)
      (pss_cons (ps_set (i := 4) sc_law_binary.nd rfl (.inl rfl) (pe_disp (pps_cons pe_str (pe_op op_add (pv 1) (pv 2)) (pps_cons pe_str (pe_op op_sub (pv 1) (pv 2)) (pps_cons pe_str (pe_op op_mul (pv 1) (pv 2)) (pps_cons pe_str (pe_callTy call_int1 (by rfl) T.z_int (by decide +kernel) (pa_cons (pe_cmpR op_lt (pv 1) (pv 2) (nomark _)) pa_nil)) (pps_cons pe_str (pe_callTy call_int1 (by rfl) T.z_int (by decide +kernel) (pa_cons (pe_cmpR op_le (pv 1) (pv 2) (nomark _)) pa_nil)) (pps_cons pe_str (pe_callTy call_int1 (by rfl) T.z_int (by decide +kernel) (pa_cons (pe_cmpR op_eq (pv 1) (pv 2) (nomark _)) pa_nil)) pps_nil)))))) (by rfl) (by rfl) (fun z => by cases z) (by decide)))
      (pss_cons (ps_dput (hu_of hr) (pv 4) pe_str (pe_callTy call_int1 (by rfl) T.z_int (by decide +kernel) (pa_cons (pe_cmpR op_ne (pv 1) (pv 2) (nomark _)) pa_nil)) rfl)
      (pss_cons (ps_dput (hu_of hr) (pv 4) pe_str (pe_callB (call_min2 rfl) (by rfl) T.z_min (by decide +kernel) (pa_cons (pv 1) (pa_cons (pv 2) pa_nil))) rfl)
      (pss_cons (ps_dput (hu_of hr) (pv 4) pe_str (pe_callB (call_max2 rfl) (by rfl) T.z_max (by decide +kernel) (pa_cons (pv 1) (pa_cons (pv 2) pa_nil))) rfl)
      (pss_one (ps_ret (pe_call (ok_law_wrapped T) (hr.mono (by decide)) (by rfl) T.g_law_wrapped T.F_law_wrapped.kp T.b_law_wrapped .nil pass0 (pa_cons (pe_dget (hu_of hr) (pv 4) (pv 0) (fun _ _ => rfl)) pa_nil))))))))))), ?_⟩
    refine ⟨_, rfl, (by show 2 ≤ sizeLine; decide), fun p np => ⟨p, _, rfl, .inr (SqT.of upd_same), rfl, rfl, _, rfl, ?_⟩⟩
    have s1 := same_new (o := .tup [.str "div", .str "rem"]) np
    refine ite2 (fun z => ?_) (fun z => ?_)
    · have z2 : inV (.str o.s) [.str "div", .str "rem"] = true := z
      rw [inDR] at z2
      have ho : o = .div ∨ o = .rem := by cases o <;> first | exact .inl rfl | exact .inr rfl | cases z2
      refine ⟨_, rfl, rfl, _, rfl, ite2 (fun e => ?_) (fun e => ?_)⟩
      · have hb : b = 0 := V.int.inj (of_decide_eq_true e)
        have e2 : act o a b = 0 := by rcases ho with rfl | rfl <;> exact if_pos hb
        rw [e2] at q
        exact q _ s1
      · have hb : ¬ b = 0 := fun z => e (decide_eq_true (by rw [z]))
        have hw : CDivW (ab a) (ab b) := by
          have h1 : (0 : Int) < ab b := by unfold ab; split <;> omega
          have h2 : (ab b).natAbs < 2 ^ 32 := by unfold W at wb; unfold ab; split <;> omega
          exact wide_div h1 h2 (by decide) (by decide)
        have hab : (-(2 ^ 64) < a ∧ a < 2 ^ 64) := by unfold W at wa; omega
        have hbb : (-(2 ^ 64) < b ∧ b < 2 ^ 64) := by unfold W at wb; omega
        refine ⟨_, rfl, _, rfl, _, rfl, _, rfl, _, _, rfl, rfl, hw, ?_⟩
        refine ⟨fun σ' H' => σ' = [some (.str o.s), some (.int a), some (.int b), some (.int (lquo a b)), none] ∧ Same H H', ?_, ?_⟩
        · refine ⟨_, rfl, _, rfl, _, _, rfl, rfl, .inl hab, _, _, rfl, rfl, _, rfl, ite2 (fun y => ?_) (fun y => ?_)⟩
          · refine ⟨_, rfl, _, _, rfl, rfl, ?_, s1⟩
            show [some (V.str o.s), some (V.int a), some (V.int b), some (V.int (0 - ab a / ab b)), none] = _
            unfold lquo
            rw [if_pos y]
          · refine ⟨?_, s1⟩
            show [some (V.str o.s), some (V.int a), some (V.int b), some (V.int (ab a / ab b)), none] = _
            unfold lquo
            rw [if_neg y]
        · rintro σ' H' ⟨rfl, sa⟩
          refine ⟨fun σ' H' => σ' = [some (.str o.s), some (.int a), some (.int b), some (.int (act o a b)), none] ∧ Same H H', ?_, ?_⟩
          · refine ⟨_, rfl, rfl, _, rfl, ite2 (fun y => ?_) (fun y => ?_)⟩
            · have eo : o = .rem := by
                rcases ho with rfl | rfl
                · exact absurd y (by decide +kernel)
                · rfl
              subst eo
              refine ⟨_, rfl, _, rfl, _, rfl, _, _, rfl, rfl, .inr hbb, _, _, rfl, rfl, ?_, sa⟩
              show [some (V.str Op.rem.s), some (V.int a), some (V.int b), some (V.int (a - lquo a b * b)), none] = [some (V.str Op.rem.s), some (V.int a), some (V.int b), some (V.int (if b = 0 then 0 else a - b * quo a b)), none]
              rw [if_neg hb, quo_eq a b hb, Int.mul_comm]
            · have eo : o = .div := by
                rcases ho with rfl | rfl
                · rfl
                · exact absurd (by decide +kernel) y
              subst eo
              refine ⟨?_, sa⟩
              rw [quo_eq a b hb]
              rfl
          · rintro σ' H' ⟨rfl, sb⟩
            refine ⟨_, rfl, _, rfl, ?_⟩
            rw [lwrap_eq]
            exact q _ sb
    · have z2 : ¬ inV (.str o.s) [.str "div", .str "rem"] = true := z
      rw [inDR] at z2
      refine ⟨_, rfl, (by show 3 ≤ sizeLine; decide), fun p2 np2 => ⟨p2, _, rfl, .inr (SqT.of upd_same), rfl, rfl, _, rfl, ?_⟩⟩
      have s2 := s1.trans (same_new (o := .tup [.str "and", .str "or", .str "xor"]) np2)
      refine ite2 (fun y => ?_) (fun y => ?_)
      · have ho : isBit o = true := by rw [← inBits]; exact y
        refine ⟨_, rfl, _, rfl, _, rfl, o, a, b, rfl, ho, fun H3 s3 => ⟨_, rfl, ?_⟩⟩
        have e : lwrap (lb o 32 (a % 4294967296) (b % 4294967296)) = wrap (act o a b) := by
          cases o <;> first | (cases ho; done) | exact lb_word_and a b | exact lb_word_or a b | exact lb_word_xor a b
        rw [e]
        exact q _ (s2.trans s3)
      · have y2 : ¬ isBit o = true := by rw [← inBits]; exact y
        refine ⟨_, rfl, (by show 2 ≤ sizeLine; decide), fun p3 np3 => ⟨p3, _, rfl, .inr (SqT.of upd_same), rfl, rfl, _, rfl, ?_⟩⟩
        have s3 := s2.trans (same_new (o := .tup [.str "shl", .str "shr"]) np3)
        refine ite2 (fun x => ?_) (fun x => ?_)
        · have x2 : inV (.str o.s) [.str "shl", .str "shr"] = true := x
          rw [inSh] at x2
          have ho : o = .shl ∨ o = .shr := by cases o <;> first | exact .inl rfl | exact .inr rfl | cases x2
          refine ⟨_, rfl, _, rfl, _, rfl, o, a, b, rfl, ho, wa, _, rfl, ?_⟩
          rw [lwrap_eq]
          exact q _ s3
        · have x2 : ¬ inV (.str o.s) [.str "shl", .str "shr"] = true := x
          rw [inSh] at x2
          have ho : isRow o = true := by cases o <;> first | rfl | exact absurd rfl z2 | exact absurd rfl y2 | exact absurd rfl x2
          have hab : (-(2 ^ 64) < a ∧ a < 2 ^ 64) := by unfold W at wa; omega
          intro d nd
          refine ⟨_, rfl, _, rfl, _, _, rfl, rfl, _, rfl, _, rfl, _, _, rfl, rfl, _, rfl, _, rfl, _, _, rfl, rfl, .inl hab, _, rfl, _, rfl, _, _, rfl, rfl, .inr ⟨_, rfl, _, rfl, _, rfl, _, _, rfl, rfl, .inr ⟨_, rfl, _, rfl, _, rfl, rfl, .inr ⟨_, rfl, ?_⟩⟩⟩⟩
          refine ⟨upd_same, rows6 a b, rfl, (by show 6 ≤ 15; decide), ?_⟩
          refine ⟨_, rfl, _, rfl, rfl, .inr ⟨_, rfl, _, rfl, d, _, rfl, DPut.k (k := Sum.inr "ne") upd_same (by show 6 < sizeLine; decide), ?_⟩⟩
          refine ⟨_, rfl, _, rfl, _, _, rfl, _, rfl, d, _, rfl, DPut.k (k := Sum.inr "min") upd_same ?_, ?_⟩
          · rw [len7]
            exact small1000 (by decide)
          refine ⟨_, rfl, _, rfl, _, _, rfl, _, rfl, d, _, rfl, DPut.k (k := Sum.inr "max") upd_same ?_, ?_⟩
          · rw [len8]
            exact small1000 (by decide)
          refine ⟨_, rfl, _, rfl, d, _, rfl, dget (k := Sum.inr o.s) upd_same (row_at o ho a b), _, rfl, ?_⟩
          rw [lwrap_eq, row_eq o ho]
          refine q _ fun c u n => ?_
          have nc : c ≠ d := ne_of_none (s3 _ _ n) nd
          rw [upd_ne nc, upd_ne nc, upd_ne nc, upd_ne nc, upd_ne nc]
          exact s3 _ _ n
def sp_law_unary : Sp := fun vs H Q _ => ∃ (o : Uop) (a : Int), vs = [.str o.s, .int a] ∧ W a ∧ ∀ H', Same H H' → Q (.int (wrap (uact o a))) H'
theorem urow_at (o : Uop) (h : o ≠ .zero) (a : Int) : valV (mergeK [] [((Sum.inr "neg" : Key), V.int (0 - a)), (Sum.inr "not", V.int (0 - a - 1))]) (Sum.inr o.s) = some (.int (uact o a)) := by
  cases o
  · show some (V.int (0 - a)) = some (V.int (-a))
    rw [Int.zero_sub]
  · show some (V.int (0 - a - 1)) = some (V.int (-a - 1))
    rw [Int.zero_sub]
  · exact absurd rfl h
theorem ok_law_unary (T : Tx w K mg) : FnOk P w K mg base CX0 2 T.a_law_unary T.d_law_unary ["op", "a"] sp_law_unary := by
  refine T.F_law_unary.ok sc_law_unary (fun vs H Q E h => ?_) (fun cdv A outer s H vs Q E hr h => ?_)
  · obtain ⟨o, a, rfl, _⟩ := h
    rfl
  · obtain ⟨o, a, rfl, wa, q⟩ := h
    refine ⟨_, (pss_cons (ps_if (pt_cmpR op_eq (pv 0) pe_str (nomark _)) (pss_one (ps_ret (pe_callTy call_int1 (by rfl) T.z_int (by decide +kernel) (pa_cons (pe_cmpR op_eq (pv 1) pe_int (nomark _)) pa_nil)))) pss_nil)
      (pss_one (ps_ret (pe_call (ok_law_wrapped T) (hr.mono (by decide)) (by rfl) T.g_law_wrapped T.F_law_wrapped.kp T.b_law_wrapped .nil pass0 (pa_cons (pe_dget (hu_of hr) (pe_disp (pps_cons pe_str (pe_op op_sub pe_int (pv 1)) (pps_cons pe_str (pe_op op_sub (pe_op op_sub pe_int (pv 1)) pe_int) pps_nil)) (by rfl) (by rfl) (fun z => by cases z) (by decide)) (pv 0) (fun _ _ => rfl)) pa_nil))))), ?_⟩
    refine ⟨_, rfl, rfl, _, rfl, ite2 (fun z => ?_) (fun z => ?_)⟩
    · have eo : o = .zero := by cases o <;> first | rfl | exact absurd z (by decide +kernel)
      subst eo
      refine ⟨_, rfl, rfl, .inr ⟨_, rfl, ?_⟩⟩
      have e2 : wrap (uact .zero a) = if decide (V.int a = V.int 0) = true then 1 else 0 := by
        show wrap (b1 (a = 0)) = _
        unfold b1
        by_cases h : a = 0
        · rw [if_pos h, if_pos (decide_eq_true (by rw [h]))]; rfl
        · rw [if_neg h, if_neg (fun y => h (V.int.inj (of_decide_eq_true y)))]; rfl
      rw [← e2]
      exact q _ (.refl H)
    · have ho : o ≠ .zero := fun e => by
        subst e
        exact z (by decide +kernel)
      intro d nd
      refine ⟨_, rfl, _, _, rfl, rfl, _, rfl, _, _, rfl, rfl, _, _, rfl, rfl, upd_same, [(Sum.inr "neg", _), (Sum.inr "not", _)], rfl, (by show 2 ≤ 15; decide), ?_⟩
      refine ⟨_, rfl, d, _, rfl, dget (k := Sum.inr o.s) upd_same (urow_at o ho a), _, rfl, ?_⟩
      rw [lwrap_eq]
      refine q _ fun c u n => ?_
      have nc : c ≠ d := ne_of_none n nd
      rw [upd_ne nc, upd_ne nc]
      exact n
def opsV : List V := [.str "add", .str "sub", .str "mul", .str "div", .str "rem", .str "and", .str "or", .str "xor", .str "shl", .str "shr", .str "lt", .str "le", .str "eq", .str "ne", .str "min", .str "max"]
def opsL : List Op := [.add, .sub, .mul, .div, .rem, .and, .or, .xor, .shl, .shr, .lt, .le, .eq, .ne, .min, .max]
theorem opsV_eq : opsV = opsL.map fun o => V.str o.s := rfl
def uopsL : List Uop := [.neg, .not, .zero]
def sp_law_ops : Sp := fun vs H Q _ => vs = [] ∧ ∀ p, H p = none → Q (.ref p) (upd H p (.lst opsV))
theorem ok_law_ops (T : Tx w K mg) : FnOk P w K mg base CX0 1 T.a_law_ops T.d_law_ops [] sp_law_ops := by
  refine T.F_law_ops.ok sc_law_ops (fun vs H Q E h => ?_) (fun cdv A outer s H vs Q E hr h => ?_)
  · obtain ⟨rfl, _⟩ := h
    rfl
  · obtain ⟨rfl, q⟩ := h
    refine ⟨_, (pss_one (ps_ret (pe_lst (pa_cons pe_str (pa_cons pe_str (pa_cons pe_str (pa_cons pe_str (pa_cons pe_str (pa_cons pe_str (pa_cons pe_str (pa_cons pe_str (pa_cons pe_str (pa_cons pe_str (pa_cons pe_str (pa_cons pe_str (pa_cons pe_str (pa_cons pe_str (pa_cons pe_str (pa_cons pe_str pa_nil))))))))))))))))))), ?_⟩
    exact ⟨(by show 16 ≤ sizeLine; decide), fun p np => q p np⟩
/-! ### the law -/
def sp_law (K : PySem.W.Frag) : Sp := fun vs H Q _ => ∃ (a : Addr) (ns : List Int), vs = [.ref a] ∧ SqL K H a (ns.map V.int) ∧ ns.length ≤ 63 ∧ ∀ H', Q (.bl true) H'
theorem dpAll_strs {K : PySem.W.Frag} {H : Hp} : ∀ xs : List Str, DpAll K H (xs.map V.str) (xs.map PyData.str)
  | [] => .nil
  | x :: r => .cons (.str x) (dpAll_strs r)
theorem int_no_bool {K : PySem.W.Frag} : PySem.W.kitOne K (.type "int") (.type "bool") = some false := kit_ty (by decide +kernel)
def dOps : PyData := .tuple ((["add", "sub", "mul", "div", "rem", "and", "or", "xor", "shl", "shr", "lt", "le", "eq", "ne", "min", "max"] : List Str).map PyData.str)
def dUn : PyData := .tuple ((["neg", "not", "zero"] : List Str).map PyData.str)
theorem dpOps {K : PySem.W.Frag} {H : Hp} : DpAll K H opsV ((["add", "sub", "mul", "div", "rem", "and", "or", "xor", "shl", "shr", "lt", "le", "eq", "ne", "min", "max"] : List Str).map PyData.str) := dpAll_strs ["add", "sub", "mul", "div", "rem", "and", "or", "xor", "shl", "shr", "lt", "le", "eq", "ne", "min", "max"]
theorem dpUn {K : PySem.W.Frag} {H : Hp} : DpAll K H [V.str "neg", .str "not", .str "zero"] ((["neg", "not", "zero"] : List Str).map PyData.str) := dpAll_strs ["neg", "not", "zero"]
theorem dOps_shaped : SeqAt.shaped dOps = true := by decide +kernel
theorem dUn_shaped : SeqAt.shaped dUn = true := by decide +kernel
theorem dOps_eq : PyData.eqv dOps dOps = true := by decide +kernel
theorem dUn_eq : PyData.eqv dUn dUn = true := by decide +kernel
theorem ok_law (T : Tx w K mg) : FnOk P w K mg base CX0 4 T.a_law T.d_law ["script"] (sp_law K) := by
  refine T.F_law.ok sc_law (fun vs H Q E h => ?_) (fun cdv A outer s H vs Q E hr h => ?_)
  · obtain ⟨a, ns, rfl, _⟩ := h
    rfl
  · obtain ⟨a, ns, rfl, hS, hlen, q⟩ := h
    refine ⟨_, (pss_cons (ps_set (i := 1) sc_law.nd rfl (.inl rfl) (pe_call (ok_law_stream T) (hr.mono (by decide)) (by rfl) T.g_law_stream T.F_law_stream.kp T.b_law_stream .nil pass0 (pa_cons (pv 0) pa_nil)))
      (pss_cons (ps_if (PW.pt (pw_or (pt_cmpR (op_neD hr.units) (pe_gq (by rfl) T.q_BINARY) (pe_callTy call_tuple_of (by rfl) T.z_tuple (by decide +kernel) (pa_cons (pe_call0 (ok_law_ops T) (hr.mono (by decide)) (by rfl) T.g_law_ops T.F_law_ops.kp T.b_law_ops .nil pass0) pa_nil)) (nomark _)) (pw_or1 (pt_cmpR (op_neD hr.units) (pe_gq (by rfl) T.q_UNARY) (pe_tup (pa_cons pe_str (pa_cons pe_str (pa_cons pe_str pa_nil)))) (nomark _))))) (pss_one (ps_ret pe_bl)) pss_nil)
      (pss_cons (ps_for PassesOwn.never rfl (pi_range1 (by rfl) T.z_range (pa_cons pe_int pa_nil)) (pg_name (i := 2) sc_law.nd rfl (.inl rfl)) (pss_cons (ps_set (i := 3) sc_law.nd rfl (.inl rfl) (pe_call (ok_law_word T) (hr.mono (by decide)) (by rfl) T.g_law_word T.F_law_word.kp T.b_law_word .nil pass0 (pa_cons (pv 1) pa_nil)))
      (pss_cons (ps_set (i := 4) sc_law.nd rfl (.inl rfl) (pe_call (ok_law_word T) (hr.mono (by decide)) (by rfl) T.g_law_word T.F_law_word.kp T.b_law_word .nil pass0 (pa_cons (pv 1) pa_nil)))
      (C8.pss_cut (ps_if (pt_cmpR op_eq (pe_call (ok_law_draw T) (hr.mono (by decide)) (by rfl) T.g_law_draw T.F_law_draw.kp T.b_law_draw .nil pass0 (pa_cons (pv 1) (pa_cons pe_int pa_nil))) pe_int (nomark _)) (pss_one (ps_set (i := 4) sc_law.nd rfl (.inl rfl) (pv 3))) pss_nil)
      (pss_cons (ps_for PassesOwn.never rfl (pi_list (pe_call0 (ok_law_ops T) (hr.mono (by decide)) (by rfl) T.g_law_ops T.F_law_ops.kp T.b_law_ops .nil pass0)) (pg_name (i := 5) sc_law.nd rfl (.inl rfl)) (pss_cons (ps_set (i := 6) sc_law.nd rfl (.inl rfl) (pe_call (ok_binary T) (hr.mono (by decide)) (by rfl) T.g_binary T.F_binary.kp T.b_binary .nil pass0 (pa_cons (pv 5) (pa_cons (pv 3) (pa_cons (pv 4) pa_nil)))))
      (pss_one (ps_if (PW.pt (pw_or (pt_cmpR op_ne (pv 6) (pe_call (ok_law_binary T) (hr.mono (by decide)) (by rfl) T.g_law_binary T.F_law_binary.kp T.b_law_binary .nil pass0 (pa_cons (pv 5) (pa_cons (pv 3) (pa_cons (pv 4) pa_nil)))) (nomark _)) (pw_or1 (pt_val (pe_callB call_isi (by rfl) T.z_isinstance (by decide +kernel) (pa_cons (pv 6) (pa_cons (pe_bltn (v := .ty "bool") (u := .type "bool") (by rfl) T.z_bool (by decide +kernel) rfl) pa_nil))))))) (pss_one (ps_ret pe_bl)) pss_nil))))
      (pss_one (ps_for PassesOwn.never rfl (pi_tup (pe_tup (pa_cons pe_str (pa_cons pe_str (pa_cons pe_str pa_nil))))) (pg_name (i := 5) sc_law.nd rfl (.inl rfl)) (pss_cons (ps_set (i := 6) sc_law.nd rfl (.inl rfl) (pe_call (ok_unary T) (hr.mono (by decide)) (by rfl) T.g_unary T.F_unary.kp T.b_unary .nil pass0 (pa_cons (pv 5) (pa_cons (pv 3) pa_nil))))
      (pss_one (ps_if (PW.pt (pw_or (pt_cmpR op_ne (pv 6) (pe_call (ok_law_unary T) (hr.mono (by decide)) (by rfl) T.g_law_unary T.F_law_unary.kp T.b_law_unary .nil pass0 (pa_cons (pv 5) (pa_cons (pv 3) pa_nil))) (nomark _)) (pw_or1 (pt_val (pe_callB call_isi (by rfl) T.z_isinstance (by decide +kernel) (pa_cons (pv 6) (pa_cons (pe_bltn (v := .ty "bool") (u := .type "bool") (by rfl) T.z_bool (by decide +kernel) rfl) pa_nil))))))) (pss_one (ps_ret pe_bl)) pss_nil))))))))))
      (pss_one (ps_ret pe_bl))))), ?_⟩
    refine ⟨_, rfl, a, ns, rfl, hS, hlen, fun H1 p s1 np S1 => ?_⟩
    -- BINARY, UNARY
    refine ⟨rfl, fun l nl => ⟨l, _, rfl, .inl ⟨SqL.of upd_same, fun t nt => ?_⟩⟩⟩
    have s2 : Same H1 (upd (upd H1 l (.lst opsV)) t (.tup opsV)) := (same_new nl).trans (same_new nt)
    refine ⟨dOps, dOps, .tup (.inr T.t_BINARY) dpOps, .tup (SqT.of upd_same) dpOps, dOps_shaped, dOps_shaped, _, rfl, ?_⟩
    rw [dOps_eq]
    refine iteF ⟨by decide, fun t2 nt2 => ?_⟩
    have s3 := s2.trans (same_new (o := .tup [.str "neg", .str "not", .str "zero"]) nt2)
    refine ⟨dUn, dUn, .tup (.inr T.t_UNARY) dpUn, .tup (SqT.of upd_same) dpUn, dUn_shaped, dUn_shaped, _, rfl, ?_⟩
    rw [dUn_eq]
    refine iteF ?_
    refine ⟨3, rfl, by decide, by decide, for_range (n := 3) (fun i σ H' => ∃ (y2 y3 y4 y5 y6 : Option V), σ = [some (.ref a), some (.ref p), y2, y3, y4, y5, y6] ∧ Strm H' p) ⟨none, none, none, none, none, rfl, S1.same s3⟩ ?_ ?_⟩
    · rintro i σ H2 hi ⟨y2, y3, y4, y5, y6, rfl, S2⟩
      refine ⟨_, rfl, p, rfl, S2, fun va H3 wa b3 S3 => ?_⟩
      refine ⟨_, rfl, p, rfl, S3, fun vb H4 wb b4 S4 => ?_⟩
      refine ⟨fun σ' H' => ∃ (x y : Int), σ' = [some (.ref a), some (.ref p), some (.int (0 + (i : Int))), some (.int x), some (.int y), y5, y6] ∧ W x ∧ W y ∧ Strm H' p, ?_, ?_⟩
      · refine ⟨_, rfl, p, _, rfl, S4, by decide, by decide, fun u H5 _ _ b5 S5 => ⟨rfl, _, rfl, ite2 (fun z => ?_) (fun z => ?_)⟩⟩
        · exact ⟨_, rfl, va, va, rfl, wa, wa, S5⟩
        · exact ⟨va, vb, rfl, wa, wb, S5⟩
      · rintro σ' H5 ⟨x, y, rfl, wx, wy, S5⟩
        refine ⟨rfl, fun l nl => ?_⟩
        refine ⟨l, rfl, ⟨_, SqL.of upd_same⟩, for_list (K := K) (a := l) (xs := opsV) (fun j σ H' => ∃ (y5 y6 : Option V), σ = [some (.ref a), some (.ref p), some (.int (0 + (i : Int))), some (.int x), some (.int y), y5, y6] ∧ Strm H' p ∧ H' l = some (.lst opsV)) ⟨y5, y6, rfl, S5.same (same_new nl), upd_same⟩ (fun j σ H' _ ⟨_, _, _, _, h⟩ => SqL.of h) ?_ ?_⟩
        · rintro j v σ H6 hv ⟨y5, y6, rfl, S6, hl⟩
          obtain ⟨o, rfl⟩ : ∃ o : Op, v = V.str o.s := by
            rw [opsV_eq, List.getElem?_map] at hv
            cases e : opsL[j]? with
            | none => rw [e] at hv; cases hv
            | some o => rw [e] at hv; exact ⟨o, (Option.some.inj hv).symm⟩
          refine ⟨_, rfl, _, rfl, _, rfl, o, x, y, rfl, wx, wy, ?_⟩
          refine ⟨_, rfl, _, rfl, _, rfl, _, rfl, o, x, y, rfl, wx, wy, fun H7 s7 => ⟨rfl, _, rfl, iteNS rfl ?_⟩⟩
          refine ⟨_, rfl, _, _, _, _, _, rfl, .ty "bool", .base (.int _), int_no_bool, _, rfl, iteF ?_⟩
          exact ⟨_, _, rfl, S6.same s7, s7 _ _ hl⟩
        · rintro σ H6 ⟨y5, y6, rfl, S6, hl⟩
          refine ⟨by decide, fun t nt => ⟨t, rfl, ⟨_, SqT.of upd_same⟩, for_tup (K := K) (a := t) (xs := [.str "neg", .str "not", .str "zero"]) (fun j σ H' => ∃ (y5 y6 : Option V), σ = [some (.ref a), some (.ref p), some (.int (0 + (i : Int))), some (.int x), some (.int y), y5, y6] ∧ Strm H' p ∧ H' t = some (.tup [.str "neg", .str "not", .str "zero"])) ⟨y5, y6, rfl, S6.same (same_new nt), upd_same⟩ (fun j σ H' _ ⟨_, _, _, _, h⟩ => SqT.of h) ?_ ?_⟩⟩
          · rintro j v σ H7 hv ⟨y5, y6, rfl, S7, hl⟩
            obtain ⟨o, rfl⟩ : ∃ o : Uop, v = V.str o.s := by
              match j, hv with
              | 0, hv => exact ⟨.neg, (Option.some.inj hv).symm⟩
              | 1, hv => exact ⟨.not, (Option.some.inj hv).symm⟩
              | 2, hv => exact ⟨.zero, (Option.some.inj hv).symm⟩
              | j + 3, hv => cases hv
            refine ⟨_, rfl, _, rfl, o, x, rfl, wx, ?_⟩
            refine ⟨_, rfl, _, rfl, _, rfl, o, x, rfl, wx, fun H8 s8 => ⟨rfl, _, rfl, iteNS rfl ?_⟩⟩
            refine ⟨_, rfl, _, _, _, _, _, rfl, .ty "bool", .base (.int _), int_no_bool, _, rfl, iteF ?_⟩
            exact ⟨_, _, rfl, S7.same s8, s8 _ _ hl⟩
          · rintro σ H7 ⟨y5, y6, rfl, S7, hl⟩
            exact ⟨_, _, _, _, _, rfl, S7⟩
    · rintro σ H2 ⟨y2, y3, y4, y5, y6, rfl, S2⟩
      exact q _
end
/-! ### what the top has written, the end -/
theorem all_mk {l : PySem.W.OpenLaw} {w : World} {K : PySem.W.Frag} {h : Heap} {mg : Str → Option Value} {fa : Addr} (X : K.In h) (G : h.Ns mainGlobals mg) (hfa : mg "law" = some (.ref fa))
    {fwrapped : Addr} {odwrapped anwrapped : Option Addr} {slwrapped : Array (Option Value)} {ocwrapped kVwrapped dcwrapped pmwrapped cdwrapped ctwrapped : Value}
    {fsum_of : Addr} {odsum_of ansum_of : Option Addr} {slsum_of : Array (Option Value)} {ocsum_of kVsum_of dcsum_of pmsum_of cdsum_of ctsum_of : Value}
    {fdifference : Addr} {oddifference andifference : Option Addr} {sldifference : Array (Option Value)} {ocdifference kVdifference dcdifference pmdifference cddifference ctdifference : Value}
    {fproduct_of : Addr} {odproduct_of anproduct_of : Option Addr} {slproduct_of : Array (Option Value)} {ocproduct_of kVproduct_of dcproduct_of pmproduct_of cdproduct_of ctproduct_of : Value}
    {fquotient : Addr} {odquotient anquotient : Option Addr} {slquotient : Array (Option Value)} {ocquotient kVquotient dcquotient pmquotient cdquotient ctquotient : Value}
    {fremainder : Addr} {odremainder anremainder : Option Addr} {slremainder : Array (Option Value)} {ocremainder kVremainder dcremainder pmremainder cdremainder ctremainder : Value}
    {fbits_of_both : Addr} {odbits_of_both anbits_of_both : Option Addr} {slbits_of_both : Array (Option Value)} {ocbits_of_both kVbits_of_both dcbits_of_both pmbits_of_both cdbits_of_both ctbits_of_both : Value}
    {fbits_of_any : Addr} {odbits_of_any anbits_of_any : Option Addr} {slbits_of_any : Array (Option Value)} {ocbits_of_any kVbits_of_any dcbits_of_any pmbits_of_any cdbits_of_any ctbits_of_any : Value}
    {fbits_of_one : Addr} {odbits_of_one anbits_of_one : Option Addr} {slbits_of_one : Array (Option Value)} {ocbits_of_one kVbits_of_one dcbits_of_one pmbits_of_one cdbits_of_one ctbits_of_one : Value}
    {fshifted_left : Addr} {odshifted_left anshifted_left : Option Addr} {slshifted_left : Array (Option Value)} {ocshifted_left kVshifted_left dcshifted_left pmshifted_left cdshifted_left ctshifted_left : Value}
    {fshifted_right : Addr} {odshifted_right anshifted_right : Option Addr} {slshifted_right : Array (Option Value)} {ocshifted_right kVshifted_right dcshifted_right pmshifted_right cdshifted_right ctshifted_right : Value}
    {fis_less : Addr} {odis_less anis_less : Option Addr} {slis_less : Array (Option Value)} {ocis_less kVis_less dcis_less pmis_less cdis_less ctis_less : Value}
    {fis_at_most : Addr} {odis_at_most anis_at_most : Option Addr} {slis_at_most : Array (Option Value)} {ocis_at_most kVis_at_most dcis_at_most pmis_at_most cdis_at_most ctis_at_most : Value}
    {fis_equal : Addr} {odis_equal anis_equal : Option Addr} {slis_equal : Array (Option Value)} {ocis_equal kVis_equal dcis_equal pmis_equal cdis_equal ctis_equal : Value}
    {fis_other : Addr} {odis_other anis_other : Option Addr} {slis_other : Array (Option Value)} {ocis_other kVis_other dcis_other pmis_other cdis_other ctis_other : Value}
    {flesser : Addr} {odlesser anlesser : Option Addr} {sllesser : Array (Option Value)} {oclesser kVlesser dclesser pmlesser cdlesser ctlesser : Value}
    {fgreater : Addr} {odgreater angreater : Option Addr} {slgreater : Array (Option Value)} {ocgreater kVgreater dcgreater pmgreater cdgreater ctgreater : Value}
    {fnegative : Addr} {odnegative annegative : Option Addr} {slnegative : Array (Option Value)} {ocnegative kVnegative dcnegative pmnegative cdnegative ctnegative : Value}
    {fturned_bits : Addr} {odturned_bits anturned_bits : Option Addr} {slturned_bits : Array (Option Value)} {octurned_bits kVturned_bits dcturned_bits pmturned_bits cdturned_bits ctturned_bits : Value}
    {fis_zero : Addr} {odis_zero anis_zero : Option Addr} {slis_zero : Array (Option Value)} {ocis_zero kVis_zero dcis_zero pmis_zero cdis_zero ctis_zero : Value}
    {fbinary : Addr} {odbinary anbinary : Option Addr} {slbinary : Array (Option Value)} {ocbinary kVbinary dcbinary pmbinary cdbinary ctbinary : Value}
    {funary : Addr} {odunary anunary : Option Addr} {slunary : Array (Option Value)} {ocunary kVunary dcunary pmunary cdunary ctunary : Value}
    {flaw_stream : Addr} {odlaw_stream anlaw_stream : Option Addr} {sllaw_stream : Array (Option Value)} {oclaw_stream kVlaw_stream dclaw_stream pmlaw_stream cdlaw_stream ctlaw_stream : Value}
    {flaw_draw : Addr} {odlaw_draw anlaw_draw : Option Addr} {sllaw_draw : Array (Option Value)} {oclaw_draw kVlaw_draw dclaw_draw pmlaw_draw cdlaw_draw ctlaw_draw : Value}
    {flaw_word : Addr} {odlaw_word anlaw_word : Option Addr} {sllaw_word : Array (Option Value)} {oclaw_word kVlaw_word dclaw_word pmlaw_word cdlaw_word ctlaw_word : Value}
    {flaw_wrapped : Addr} {odlaw_wrapped anlaw_wrapped : Option Addr} {sllaw_wrapped : Array (Option Value)} {oclaw_wrapped kVlaw_wrapped dclaw_wrapped pmlaw_wrapped cdlaw_wrapped ctlaw_wrapped : Value}
    {flaw_bits : Addr} {odlaw_bits anlaw_bits : Option Addr} {sllaw_bits : Array (Option Value)} {oclaw_bits kVlaw_bits dclaw_bits pmlaw_bits cdlaw_bits ctlaw_bits : Value}
    {flaw_shifted : Addr} {odlaw_shifted anlaw_shifted : Option Addr} {sllaw_shifted : Array (Option Value)} {oclaw_shifted kVlaw_shifted dclaw_shifted pmlaw_shifted cdlaw_shifted ctlaw_shifted : Value}
    {flaw_binary : Addr} {odlaw_binary anlaw_binary : Option Addr} {sllaw_binary : Array (Option Value)} {oclaw_binary kVlaw_binary dclaw_binary pmlaw_binary cdlaw_binary ctlaw_binary : Value}
    {flaw_unary : Addr} {odlaw_unary anlaw_unary : Option Addr} {sllaw_unary : Array (Option Value)} {oclaw_unary kVlaw_unary dclaw_unary pmlaw_unary cdlaw_unary ctlaw_unary : Value}
    {flaw_ops : Addr} {odlaw_ops anlaw_ops : Option Addr} {sllaw_ops : Array (Option Value)} {oclaw_ops kVlaw_ops dclaw_ops pmlaw_ops cdlaw_ops ctlaw_ops : Value}
    {flaw : Addr} {odlaw anlaw : Option Addr} {sllaw : Array (Option Value)} {oclaw kVlaw dclaw pmlaw cdlaw ctlaw : Value}
    {tLEAST : Tok}
    {pBINARY : Addr} {odBINARY : Option Addr} {itsBINARY : Array Value} {nBINARY : Nat} {slBINARY : Array (Option Value)}
    {pUNARY : Addr} {odUNARY : Option Addr} {itsUNARY : Array Value} {nUNARY : Nat} {slUNARY : Array (Option Value)}
    {pBINARY_ACTIONS : Addr} {esBINARY_ACTIONS : Array DictEntry} {nBINARY_ACTIONS : Nat}
    {pUNARY_ACTIONS : Addr} {esUNARY_ACTIONS : Array DictEntry} {nUNARY_ACTIONS : Nat}
    (awrapped : PySem.W.nsIn K mainGlobals "wrapped" = some (some (.ref fwrapped)))
    (lwrapped : K.lookup fwrapped = some ⟨ocwrapped, odwrapped, .func (PySem.W.fnOf "wrapped" "wrapped" (defArgs s_wrapped) (defBody s_wrapped) (defScope s_wrapped) .none kVwrapped dcwrapped pmwrapped anwrapped cdwrapped ctwrapped), slwrapped⟩)
    (cwrapped : PySem.W.codeIn K cdwrapped "wrapped" = true)
    (kwrapped : PySem.W.keepIn K (.ref fwrapped) = true)
    (asum_of : PySem.W.nsIn K mainGlobals "sum_of" = some (some (.ref fsum_of)))
    (lsum_of : K.lookup fsum_of = some ⟨ocsum_of, odsum_of, .func (PySem.W.fnOf "sum_of" "sum_of" (defArgs s_sum_of) (defBody s_sum_of) (defScope s_sum_of) .none kVsum_of dcsum_of pmsum_of ansum_of cdsum_of ctsum_of), slsum_of⟩)
    (csum_of : PySem.W.codeIn K cdsum_of "sum_of" = true)
    (ksum_of : PySem.W.keepIn K (.ref fsum_of) = true)
    (adifference : PySem.W.nsIn K mainGlobals "difference" = some (some (.ref fdifference)))
    (ldifference : K.lookup fdifference = some ⟨ocdifference, oddifference, .func (PySem.W.fnOf "difference" "difference" (defArgs s_difference) (defBody s_difference) (defScope s_difference) .none kVdifference dcdifference pmdifference andifference cddifference ctdifference), sldifference⟩)
    (cdifference : PySem.W.codeIn K cddifference "difference" = true)
    (kdifference : PySem.W.keepIn K (.ref fdifference) = true)
    (aproduct_of : PySem.W.nsIn K mainGlobals "product_of" = some (some (.ref fproduct_of)))
    (lproduct_of : K.lookup fproduct_of = some ⟨ocproduct_of, odproduct_of, .func (PySem.W.fnOf "product_of" "product_of" (defArgs s_product_of) (defBody s_product_of) (defScope s_product_of) .none kVproduct_of dcproduct_of pmproduct_of anproduct_of cdproduct_of ctproduct_of), slproduct_of⟩)
    (cproduct_of : PySem.W.codeIn K cdproduct_of "product_of" = true)
    (kproduct_of : PySem.W.keepIn K (.ref fproduct_of) = true)
    (aquotient : PySem.W.nsIn K mainGlobals "quotient" = some (some (.ref fquotient)))
    (lquotient : K.lookup fquotient = some ⟨ocquotient, odquotient, .func (PySem.W.fnOf "quotient" "quotient" (defArgs s_quotient) (defBody s_quotient) (defScope s_quotient) .none kVquotient dcquotient pmquotient anquotient cdquotient ctquotient), slquotient⟩)
    (cquotient : PySem.W.codeIn K cdquotient "quotient" = true)
    (kquotient : PySem.W.keepIn K (.ref fquotient) = true)
    (aremainder : PySem.W.nsIn K mainGlobals "remainder" = some (some (.ref fremainder)))
    (lremainder : K.lookup fremainder = some ⟨ocremainder, odremainder, .func (PySem.W.fnOf "remainder" "remainder" (defArgs s_remainder) (defBody s_remainder) (defScope s_remainder) .none kVremainder dcremainder pmremainder anremainder cdremainder ctremainder), slremainder⟩)
    (cremainder : PySem.W.codeIn K cdremainder "remainder" = true)
    (kremainder : PySem.W.keepIn K (.ref fremainder) = true)
    (abits_of_both : PySem.W.nsIn K mainGlobals "bits_of_both" = some (some (.ref fbits_of_both)))
    (lbits_of_both : K.lookup fbits_of_both = some ⟨ocbits_of_both, odbits_of_both, .func (PySem.W.fnOf "bits_of_both" "bits_of_both" (defArgs s_bits_of_both) (defBody s_bits_of_both) (defScope s_bits_of_both) .none kVbits_of_both dcbits_of_both pmbits_of_both anbits_of_both cdbits_of_both ctbits_of_both), slbits_of_both⟩)
    (cbits_of_both : PySem.W.codeIn K cdbits_of_both "bits_of_both" = true)
    (kbits_of_both : PySem.W.keepIn K (.ref fbits_of_both) = true)
    (abits_of_any : PySem.W.nsIn K mainGlobals "bits_of_any" = some (some (.ref fbits_of_any)))
    (lbits_of_any : K.lookup fbits_of_any = some ⟨ocbits_of_any, odbits_of_any, .func (PySem.W.fnOf "bits_of_any" "bits_of_any" (defArgs s_bits_of_any) (defBody s_bits_of_any) (defScope s_bits_of_any) .none kVbits_of_any dcbits_of_any pmbits_of_any anbits_of_any cdbits_of_any ctbits_of_any), slbits_of_any⟩)
    (cbits_of_any : PySem.W.codeIn K cdbits_of_any "bits_of_any" = true)
    (kbits_of_any : PySem.W.keepIn K (.ref fbits_of_any) = true)
    (abits_of_one : PySem.W.nsIn K mainGlobals "bits_of_one" = some (some (.ref fbits_of_one)))
    (lbits_of_one : K.lookup fbits_of_one = some ⟨ocbits_of_one, odbits_of_one, .func (PySem.W.fnOf "bits_of_one" "bits_of_one" (defArgs s_bits_of_one) (defBody s_bits_of_one) (defScope s_bits_of_one) .none kVbits_of_one dcbits_of_one pmbits_of_one anbits_of_one cdbits_of_one ctbits_of_one), slbits_of_one⟩)
    (cbits_of_one : PySem.W.codeIn K cdbits_of_one "bits_of_one" = true)
    (kbits_of_one : PySem.W.keepIn K (.ref fbits_of_one) = true)
    (ashifted_left : PySem.W.nsIn K mainGlobals "shifted_left" = some (some (.ref fshifted_left)))
    (lshifted_left : K.lookup fshifted_left = some ⟨ocshifted_left, odshifted_left, .func (PySem.W.fnOf "shifted_left" "shifted_left" (defArgs s_shifted_left) (defBody s_shifted_left) (defScope s_shifted_left) .none kVshifted_left dcshifted_left pmshifted_left anshifted_left cdshifted_left ctshifted_left), slshifted_left⟩)
    (cshifted_left : PySem.W.codeIn K cdshifted_left "shifted_left" = true)
    (kshifted_left : PySem.W.keepIn K (.ref fshifted_left) = true)
    (ashifted_right : PySem.W.nsIn K mainGlobals "shifted_right" = some (some (.ref fshifted_right)))
    (lshifted_right : K.lookup fshifted_right = some ⟨ocshifted_right, odshifted_right, .func (PySem.W.fnOf "shifted_right" "shifted_right" (defArgs s_shifted_right) (defBody s_shifted_right) (defScope s_shifted_right) .none kVshifted_right dcshifted_right pmshifted_right anshifted_right cdshifted_right ctshifted_right), slshifted_right⟩)
    (cshifted_right : PySem.W.codeIn K cdshifted_right "shifted_right" = true)
    (kshifted_right : PySem.W.keepIn K (.ref fshifted_right) = true)
    (ais_less : PySem.W.nsIn K mainGlobals "is_less" = some (some (.ref fis_less)))
    (lis_less : K.lookup fis_less = some ⟨ocis_less, odis_less, .func (PySem.W.fnOf "is_less" "is_less" (defArgs s_is_less) (defBody s_is_less) (defScope s_is_less) .none kVis_less dcis_less pmis_less anis_less cdis_less ctis_less), slis_less⟩)
    (cis_less : PySem.W.codeIn K cdis_less "is_less" = true)
    (kis_less : PySem.W.keepIn K (.ref fis_less) = true)
    (ais_at_most : PySem.W.nsIn K mainGlobals "is_at_most" = some (some (.ref fis_at_most)))
    (lis_at_most : K.lookup fis_at_most = some ⟨ocis_at_most, odis_at_most, .func (PySem.W.fnOf "is_at_most" "is_at_most" (defArgs s_is_at_most) (defBody s_is_at_most) (defScope s_is_at_most) .none kVis_at_most dcis_at_most pmis_at_most anis_at_most cdis_at_most ctis_at_most), slis_at_most⟩)
    (cis_at_most : PySem.W.codeIn K cdis_at_most "is_at_most" = true)
    (kis_at_most : PySem.W.keepIn K (.ref fis_at_most) = true)
    (ais_equal : PySem.W.nsIn K mainGlobals "is_equal" = some (some (.ref fis_equal)))
    (lis_equal : K.lookup fis_equal = some ⟨ocis_equal, odis_equal, .func (PySem.W.fnOf "is_equal" "is_equal" (defArgs s_is_equal) (defBody s_is_equal) (defScope s_is_equal) .none kVis_equal dcis_equal pmis_equal anis_equal cdis_equal ctis_equal), slis_equal⟩)
    (cis_equal : PySem.W.codeIn K cdis_equal "is_equal" = true)
    (kis_equal : PySem.W.keepIn K (.ref fis_equal) = true)
    (ais_other : PySem.W.nsIn K mainGlobals "is_other" = some (some (.ref fis_other)))
    (lis_other : K.lookup fis_other = some ⟨ocis_other, odis_other, .func (PySem.W.fnOf "is_other" "is_other" (defArgs s_is_other) (defBody s_is_other) (defScope s_is_other) .none kVis_other dcis_other pmis_other anis_other cdis_other ctis_other), slis_other⟩)
    (cis_other : PySem.W.codeIn K cdis_other "is_other" = true)
    (kis_other : PySem.W.keepIn K (.ref fis_other) = true)
    (alesser : PySem.W.nsIn K mainGlobals "lesser" = some (some (.ref flesser)))
    (llesser : K.lookup flesser = some ⟨oclesser, odlesser, .func (PySem.W.fnOf "lesser" "lesser" (defArgs s_lesser) (defBody s_lesser) (defScope s_lesser) .none kVlesser dclesser pmlesser anlesser cdlesser ctlesser), sllesser⟩)
    (clesser : PySem.W.codeIn K cdlesser "lesser" = true)
    (klesser : PySem.W.keepIn K (.ref flesser) = true)
    (agreater : PySem.W.nsIn K mainGlobals "greater" = some (some (.ref fgreater)))
    (lgreater : K.lookup fgreater = some ⟨ocgreater, odgreater, .func (PySem.W.fnOf "greater" "greater" (defArgs s_greater) (defBody s_greater) (defScope s_greater) .none kVgreater dcgreater pmgreater angreater cdgreater ctgreater), slgreater⟩)
    (cgreater : PySem.W.codeIn K cdgreater "greater" = true)
    (kgreater : PySem.W.keepIn K (.ref fgreater) = true)
    (anegative : PySem.W.nsIn K mainGlobals "negative" = some (some (.ref fnegative)))
    (lnegative : K.lookup fnegative = some ⟨ocnegative, odnegative, .func (PySem.W.fnOf "negative" "negative" (defArgs s_negative) (defBody s_negative) (defScope s_negative) .none kVnegative dcnegative pmnegative annegative cdnegative ctnegative), slnegative⟩)
    (cnegative : PySem.W.codeIn K cdnegative "negative" = true)
    (knegative : PySem.W.keepIn K (.ref fnegative) = true)
    (aturned_bits : PySem.W.nsIn K mainGlobals "turned_bits" = some (some (.ref fturned_bits)))
    (lturned_bits : K.lookup fturned_bits = some ⟨octurned_bits, odturned_bits, .func (PySem.W.fnOf "turned_bits" "turned_bits" (defArgs s_turned_bits) (defBody s_turned_bits) (defScope s_turned_bits) .none kVturned_bits dcturned_bits pmturned_bits anturned_bits cdturned_bits ctturned_bits), slturned_bits⟩)
    (cturned_bits : PySem.W.codeIn K cdturned_bits "turned_bits" = true)
    (kturned_bits : PySem.W.keepIn K (.ref fturned_bits) = true)
    (ais_zero : PySem.W.nsIn K mainGlobals "is_zero" = some (some (.ref fis_zero)))
    (lis_zero : K.lookup fis_zero = some ⟨ocis_zero, odis_zero, .func (PySem.W.fnOf "is_zero" "is_zero" (defArgs s_is_zero) (defBody s_is_zero) (defScope s_is_zero) .none kVis_zero dcis_zero pmis_zero anis_zero cdis_zero ctis_zero), slis_zero⟩)
    (cis_zero : PySem.W.codeIn K cdis_zero "is_zero" = true)
    (kis_zero : PySem.W.keepIn K (.ref fis_zero) = true)
    (abinary : PySem.W.nsIn K mainGlobals "binary" = some (some (.ref fbinary)))
    (lbinary : K.lookup fbinary = some ⟨ocbinary, odbinary, .func (PySem.W.fnOf "binary" "binary" (defArgs s_binary) (defBody s_binary) (defScope s_binary) .none kVbinary dcbinary pmbinary anbinary cdbinary ctbinary), slbinary⟩)
    (cbinary : PySem.W.codeIn K cdbinary "binary" = true)
    (kbinary : PySem.W.keepIn K (.ref fbinary) = true)
    (aunary : PySem.W.nsIn K mainGlobals "unary" = some (some (.ref funary)))
    (lunary : K.lookup funary = some ⟨ocunary, odunary, .func (PySem.W.fnOf "unary" "unary" (defArgs s_unary) (defBody s_unary) (defScope s_unary) .none kVunary dcunary pmunary anunary cdunary ctunary), slunary⟩)
    (cunary : PySem.W.codeIn K cdunary "unary" = true)
    (kunary : PySem.W.keepIn K (.ref funary) = true)
    (alaw_stream : PySem.W.nsIn K mainGlobals "_law_stream" = some (some (.ref flaw_stream)))
    (llaw_stream : K.lookup flaw_stream = some ⟨oclaw_stream, odlaw_stream, .func (PySem.W.fnOf "_law_stream" "_law_stream" (defArgs s_law_stream) (defBody s_law_stream) (defScope s_law_stream) .none kVlaw_stream dclaw_stream pmlaw_stream anlaw_stream cdlaw_stream ctlaw_stream), sllaw_stream⟩)
    (claw_stream : PySem.W.codeIn K cdlaw_stream "_law_stream" = true)
    (klaw_stream : PySem.W.keepIn K (.ref flaw_stream) = true)
    (alaw_draw : PySem.W.nsIn K mainGlobals "_law_draw" = some (some (.ref flaw_draw)))
    (llaw_draw : K.lookup flaw_draw = some ⟨oclaw_draw, odlaw_draw, .func (PySem.W.fnOf "_law_draw" "_law_draw" (defArgs s_law_draw) (defBody s_law_draw) (defScope s_law_draw) .none kVlaw_draw dclaw_draw pmlaw_draw anlaw_draw cdlaw_draw ctlaw_draw), sllaw_draw⟩)
    (claw_draw : PySem.W.codeIn K cdlaw_draw "_law_draw" = true)
    (klaw_draw : PySem.W.keepIn K (.ref flaw_draw) = true)
    (alaw_word : PySem.W.nsIn K mainGlobals "_law_word" = some (some (.ref flaw_word)))
    (llaw_word : K.lookup flaw_word = some ⟨oclaw_word, odlaw_word, .func (PySem.W.fnOf "_law_word" "_law_word" (defArgs s_law_word) (defBody s_law_word) (defScope s_law_word) .none kVlaw_word dclaw_word pmlaw_word anlaw_word cdlaw_word ctlaw_word), sllaw_word⟩)
    (claw_word : PySem.W.codeIn K cdlaw_word "_law_word" = true)
    (klaw_word : PySem.W.keepIn K (.ref flaw_word) = true)
    (alaw_wrapped : PySem.W.nsIn K mainGlobals "_law_wrapped" = some (some (.ref flaw_wrapped)))
    (llaw_wrapped : K.lookup flaw_wrapped = some ⟨oclaw_wrapped, odlaw_wrapped, .func (PySem.W.fnOf "_law_wrapped" "_law_wrapped" (defArgs s_law_wrapped) (defBody s_law_wrapped) (defScope s_law_wrapped) .none kVlaw_wrapped dclaw_wrapped pmlaw_wrapped anlaw_wrapped cdlaw_wrapped ctlaw_wrapped), sllaw_wrapped⟩)
    (claw_wrapped : PySem.W.codeIn K cdlaw_wrapped "_law_wrapped" = true)
    (klaw_wrapped : PySem.W.keepIn K (.ref flaw_wrapped) = true)
    (alaw_bits : PySem.W.nsIn K mainGlobals "_law_bits" = some (some (.ref flaw_bits)))
    (llaw_bits : K.lookup flaw_bits = some ⟨oclaw_bits, odlaw_bits, .func (PySem.W.fnOf "_law_bits" "_law_bits" (defArgs s_law_bits) (defBody s_law_bits) (defScope s_law_bits) .none kVlaw_bits dclaw_bits pmlaw_bits anlaw_bits cdlaw_bits ctlaw_bits), sllaw_bits⟩)
    (claw_bits : PySem.W.codeIn K cdlaw_bits "_law_bits" = true)
    (klaw_bits : PySem.W.keepIn K (.ref flaw_bits) = true)
    (alaw_shifted : PySem.W.nsIn K mainGlobals "_law_shifted" = some (some (.ref flaw_shifted)))
    (llaw_shifted : K.lookup flaw_shifted = some ⟨oclaw_shifted, odlaw_shifted, .func (PySem.W.fnOf "_law_shifted" "_law_shifted" (defArgs s_law_shifted) (defBody s_law_shifted) (defScope s_law_shifted) .none kVlaw_shifted dclaw_shifted pmlaw_shifted anlaw_shifted cdlaw_shifted ctlaw_shifted), sllaw_shifted⟩)
    (claw_shifted : PySem.W.codeIn K cdlaw_shifted "_law_shifted" = true)
    (klaw_shifted : PySem.W.keepIn K (.ref flaw_shifted) = true)
    (alaw_binary : PySem.W.nsIn K mainGlobals "_law_binary" = some (some (.ref flaw_binary)))
    (llaw_binary : K.lookup flaw_binary = some ⟨oclaw_binary, odlaw_binary, .func (PySem.W.fnOf "_law_binary" "_law_binary" (defArgs s_law_binary) (defBody s_law_binary) (defScope s_law_binary) .none kVlaw_binary dclaw_binary pmlaw_binary anlaw_binary cdlaw_binary ctlaw_binary), sllaw_binary⟩)
    (claw_binary : PySem.W.codeIn K cdlaw_binary "_law_binary" = true)
    (klaw_binary : PySem.W.keepIn K (.ref flaw_binary) = true)
    (alaw_unary : PySem.W.nsIn K mainGlobals "_law_unary" = some (some (.ref flaw_unary)))
    (llaw_unary : K.lookup flaw_unary = some ⟨oclaw_unary, odlaw_unary, .func (PySem.W.fnOf "_law_unary" "_law_unary" (defArgs s_law_unary) (defBody s_law_unary) (defScope s_law_unary) .none kVlaw_unary dclaw_unary pmlaw_unary anlaw_unary cdlaw_unary ctlaw_unary), sllaw_unary⟩)
    (claw_unary : PySem.W.codeIn K cdlaw_unary "_law_unary" = true)
    (klaw_unary : PySem.W.keepIn K (.ref flaw_unary) = true)
    (alaw_ops : PySem.W.nsIn K mainGlobals "_law_ops" = some (some (.ref flaw_ops)))
    (llaw_ops : K.lookup flaw_ops = some ⟨oclaw_ops, odlaw_ops, .func (PySem.W.fnOf "_law_ops" "_law_ops" (defArgs s_law_ops) (defBody s_law_ops) (defScope s_law_ops) .none kVlaw_ops dclaw_ops pmlaw_ops anlaw_ops cdlaw_ops ctlaw_ops), sllaw_ops⟩)
    (claw_ops : PySem.W.codeIn K cdlaw_ops "_law_ops" = true)
    (klaw_ops : PySem.W.keepIn K (.ref flaw_ops) = true)
    (alaw : PySem.W.nsIn K mainGlobals "law" = some (some (.ref flaw)))
    (llaw : K.lookup flaw = some ⟨oclaw, odlaw, .func (PySem.W.fnOf "law" "law" (defArgs s_law) (defBody s_law) (defScope s_law) .none kVlaw dclaw pmlaw anlaw cdlaw ctlaw), sllaw⟩)
    (claw : PySem.W.codeIn K cdlaw "law" = true)
    (klaw : PySem.W.keepIn K (.ref flaw) = true)
    (zabs : PySem.W.nsIn K mainGlobals "abs" = some none)
    (zbool : PySem.W.nsIn K mainGlobals "bool" = some none)
    (zint : PySem.W.nsIn K mainGlobals "int" = some none)
    (zisinstance : PySem.W.nsIn K mainGlobals "isinstance" = some none)
    (zlen : PySem.W.nsIn K mainGlobals "len" = some none)
    (zlist : PySem.W.nsIn K mainGlobals "list" = some none)
    (zmax : PySem.W.nsIn K mainGlobals "max" = some none)
    (zmin : PySem.W.nsIn K mainGlobals "min" = some none)
    (zrange : PySem.W.nsIn K mainGlobals "range" = some none)
    (ztuple : PySem.W.nsIn K mainGlobals "tuple" = some none)
    (iLEAST : PySem.W.nsIn K mainGlobals "LEAST" = some (some (.int (-2147483648) tLEAST)))
    (aBINARY : PySem.W.nsIn K mainGlobals "BINARY" = some (some (.ref pBINARY)))
    (lBINARY : K.lookup pBINARY = some ⟨.type "tuple", odBINARY, .seq itsBINARY nBINARY, slBINARY⟩)
    (mBINARY : itsBINARY.size ≤ sizeLine)
    (vBINARY : Vals ([.str "add", .str "sub", .str "mul", .str "div", .str "rem", .str "and", .str "or", .str "xor", .str "shl", .str "shr", .str "lt", .str "le", .str "eq", .str "ne", .str "min", .str "max"]) itsBINARY.toList)
    (aUNARY : PySem.W.nsIn K mainGlobals "UNARY" = some (some (.ref pUNARY)))
    (lUNARY : K.lookup pUNARY = some ⟨.type "tuple", odUNARY, .seq itsUNARY nUNARY, slUNARY⟩)
    (mUNARY : itsUNARY.size ≤ sizeLine)
    (vUNARY : Vals ([.str "neg", .str "not", .str "zero"]) itsUNARY.toList)
    (aBINARY_ACTIONS : PySem.W.nsIn K mainGlobals "BINARY_ACTIONS" = some (some (.ref pBINARY_ACTIONS)))
    (lBINARY_ACTIONS : K.lookup pBINARY_ACTIONS = some ⟨.type "dict", none, .dict esBINARY_ACTIONS nBINARY_ACTIONS, #[]⟩)
    (vBINARY_ACTIONS : PySem.W.KeysLit w.params esBINARY_ACTIONS.toList)
    (eBINARY_ACTIONS_add : PySem.W.nsIn K pBINARY_ACTIONS "add" = some (some (.ref fsum_of)))
    (eBINARY_ACTIONS_sub : PySem.W.nsIn K pBINARY_ACTIONS "sub" = some (some (.ref fdifference)))
    (eBINARY_ACTIONS_mul : PySem.W.nsIn K pBINARY_ACTIONS "mul" = some (some (.ref fproduct_of)))
    (eBINARY_ACTIONS_div : PySem.W.nsIn K pBINARY_ACTIONS "div" = some (some (.ref fquotient)))
    (eBINARY_ACTIONS_rem : PySem.W.nsIn K pBINARY_ACTIONS "rem" = some (some (.ref fremainder)))
    (eBINARY_ACTIONS_and : PySem.W.nsIn K pBINARY_ACTIONS "and" = some (some (.ref fbits_of_both)))
    (eBINARY_ACTIONS_or : PySem.W.nsIn K pBINARY_ACTIONS "or" = some (some (.ref fbits_of_any)))
    (eBINARY_ACTIONS_xor : PySem.W.nsIn K pBINARY_ACTIONS "xor" = some (some (.ref fbits_of_one)))
    (eBINARY_ACTIONS_shl : PySem.W.nsIn K pBINARY_ACTIONS "shl" = some (some (.ref fshifted_left)))
    (eBINARY_ACTIONS_shr : PySem.W.nsIn K pBINARY_ACTIONS "shr" = some (some (.ref fshifted_right)))
    (eBINARY_ACTIONS_lt : PySem.W.nsIn K pBINARY_ACTIONS "lt" = some (some (.ref fis_less)))
    (eBINARY_ACTIONS_le : PySem.W.nsIn K pBINARY_ACTIONS "le" = some (some (.ref fis_at_most)))
    (eBINARY_ACTIONS_eq : PySem.W.nsIn K pBINARY_ACTIONS "eq" = some (some (.ref fis_equal)))
    (eBINARY_ACTIONS_ne : PySem.W.nsIn K pBINARY_ACTIONS "ne" = some (some (.ref fis_other)))
    (eBINARY_ACTIONS_min : PySem.W.nsIn K pBINARY_ACTIONS "min" = some (some (.ref flesser)))
    (eBINARY_ACTIONS_max : PySem.W.nsIn K pBINARY_ACTIONS "max" = some (some (.ref fgreater)))
    (aUNARY_ACTIONS : PySem.W.nsIn K mainGlobals "UNARY_ACTIONS" = some (some (.ref pUNARY_ACTIONS)))
    (lUNARY_ACTIONS : K.lookup pUNARY_ACTIONS = some ⟨.type "dict", none, .dict esUNARY_ACTIONS nUNARY_ACTIONS, #[]⟩)
    (vUNARY_ACTIONS : PySem.W.KeysLit w.params esUNARY_ACTIONS.toList)
    (eUNARY_ACTIONS_neg : PySem.W.nsIn K pUNARY_ACTIONS "neg" = some (some (.ref fnegative)))
    (eUNARY_ACTIONS_not : PySem.W.nsIn K pUNARY_ACTIONS "not" = some (some (.ref fturned_bits)))
    (eUNARY_ACTIONS_zero : PySem.W.nsIn K pUNARY_ACTIONS "zero" = some (some (.ref fis_zero))) :
    ∃ fd : FuncData, (∀ (s : Shared) (v : Value), BindsTo s fd ⟨[v], []⟩ [("script", v)]) ∧ ∀ base : Heap, K.In base → base.Ns mainGlobals mg → FnOk l.prog w K mg base CX0 4 fa fd ["script"] (sp_law K) := by
  have e := hfa.symm.trans (PySem.W.mg_of X G alaw)
  cases e
  let T : Tx w K mg := {
    a_wrapped := fwrapped,
    d_wrapped := _,
    F_wrapped := fun_mk (st := s_wrapped) lwrapped cwrapped kwrapped,
    b_wrapped := (fun_mk (st := s_wrapped) lwrapped cwrapped kwrapped).binds (ps := ["number"]) fun _ _ _ _ _ _ us hl => match us, hl with | [_], _ => rfl,
    g_wrapped := PySem.W.mg_of X G awrapped,
    a_sum_of := fsum_of,
    d_sum_of := _,
    F_sum_of := fun_mk (st := s_sum_of) lsum_of csum_of ksum_of,
    b_sum_of := (fun_mk (st := s_sum_of) lsum_of csum_of ksum_of).binds (ps := ["a", "b"]) fun _ _ _ _ _ _ us hl => match us, hl with | [_, _], _ => rfl,
    g_sum_of := PySem.W.mg_of X G asum_of,
    a_difference := fdifference,
    d_difference := _,
    F_difference := fun_mk (st := s_difference) ldifference cdifference kdifference,
    b_difference := (fun_mk (st := s_difference) ldifference cdifference kdifference).binds (ps := ["a", "b"]) fun _ _ _ _ _ _ us hl => match us, hl with | [_, _], _ => rfl,
    g_difference := PySem.W.mg_of X G adifference,
    a_product_of := fproduct_of,
    d_product_of := _,
    F_product_of := fun_mk (st := s_product_of) lproduct_of cproduct_of kproduct_of,
    b_product_of := (fun_mk (st := s_product_of) lproduct_of cproduct_of kproduct_of).binds (ps := ["a", "b"]) fun _ _ _ _ _ _ us hl => match us, hl with | [_, _], _ => rfl,
    g_product_of := PySem.W.mg_of X G aproduct_of,
    a_quotient := fquotient,
    d_quotient := _,
    F_quotient := fun_mk (st := s_quotient) lquotient cquotient kquotient,
    b_quotient := (fun_mk (st := s_quotient) lquotient cquotient kquotient).binds (ps := ["a", "b"]) fun _ _ _ _ _ _ us hl => match us, hl with | [_, _], _ => rfl,
    g_quotient := PySem.W.mg_of X G aquotient,
    a_remainder := fremainder,
    d_remainder := _,
    F_remainder := fun_mk (st := s_remainder) lremainder cremainder kremainder,
    b_remainder := (fun_mk (st := s_remainder) lremainder cremainder kremainder).binds (ps := ["a", "b"]) fun _ _ _ _ _ _ us hl => match us, hl with | [_, _], _ => rfl,
    g_remainder := PySem.W.mg_of X G aremainder,
    a_bits_of_both := fbits_of_both,
    d_bits_of_both := _,
    F_bits_of_both := fun_mk (st := s_bits_of_both) lbits_of_both cbits_of_both kbits_of_both,
    b_bits_of_both := (fun_mk (st := s_bits_of_both) lbits_of_both cbits_of_both kbits_of_both).binds (ps := ["a", "b"]) fun _ _ _ _ _ _ us hl => match us, hl with | [_, _], _ => rfl,
    g_bits_of_both := PySem.W.mg_of X G abits_of_both,
    a_bits_of_any := fbits_of_any,
    d_bits_of_any := _,
    F_bits_of_any := fun_mk (st := s_bits_of_any) lbits_of_any cbits_of_any kbits_of_any,
    b_bits_of_any := (fun_mk (st := s_bits_of_any) lbits_of_any cbits_of_any kbits_of_any).binds (ps := ["a", "b"]) fun _ _ _ _ _ _ us hl => match us, hl with | [_, _], _ => rfl,
    g_bits_of_any := PySem.W.mg_of X G abits_of_any,
    a_bits_of_one := fbits_of_one,
    d_bits_of_one := _,
    F_bits_of_one := fun_mk (st := s_bits_of_one) lbits_of_one cbits_of_one kbits_of_one,
    b_bits_of_one := (fun_mk (st := s_bits_of_one) lbits_of_one cbits_of_one kbits_of_one).binds (ps := ["a", "b"]) fun _ _ _ _ _ _ us hl => match us, hl with | [_, _], _ => rfl,
    g_bits_of_one := PySem.W.mg_of X G abits_of_one,
    a_shifted_left := fshifted_left,
    d_shifted_left := _,
    F_shifted_left := fun_mk (st := s_shifted_left) lshifted_left cshifted_left kshifted_left,
    b_shifted_left := (fun_mk (st := s_shifted_left) lshifted_left cshifted_left kshifted_left).binds (ps := ["a", "b"]) fun _ _ _ _ _ _ us hl => match us, hl with | [_, _], _ => rfl,
    g_shifted_left := PySem.W.mg_of X G ashifted_left,
    a_shifted_right := fshifted_right,
    d_shifted_right := _,
    F_shifted_right := fun_mk (st := s_shifted_right) lshifted_right cshifted_right kshifted_right,
    b_shifted_right := (fun_mk (st := s_shifted_right) lshifted_right cshifted_right kshifted_right).binds (ps := ["a", "b"]) fun _ _ _ _ _ _ us hl => match us, hl with | [_, _], _ => rfl,
    g_shifted_right := PySem.W.mg_of X G ashifted_right,
    a_is_less := fis_less,
    d_is_less := _,
    F_is_less := fun_mk (st := s_is_less) lis_less cis_less kis_less,
    b_is_less := (fun_mk (st := s_is_less) lis_less cis_less kis_less).binds (ps := ["a", "b"]) fun _ _ _ _ _ _ us hl => match us, hl with | [_, _], _ => rfl,
    g_is_less := PySem.W.mg_of X G ais_less,
    a_is_at_most := fis_at_most,
    d_is_at_most := _,
    F_is_at_most := fun_mk (st := s_is_at_most) lis_at_most cis_at_most kis_at_most,
    b_is_at_most := (fun_mk (st := s_is_at_most) lis_at_most cis_at_most kis_at_most).binds (ps := ["a", "b"]) fun _ _ _ _ _ _ us hl => match us, hl with | [_, _], _ => rfl,
    g_is_at_most := PySem.W.mg_of X G ais_at_most,
    a_is_equal := fis_equal,
    d_is_equal := _,
    F_is_equal := fun_mk (st := s_is_equal) lis_equal cis_equal kis_equal,
    b_is_equal := (fun_mk (st := s_is_equal) lis_equal cis_equal kis_equal).binds (ps := ["a", "b"]) fun _ _ _ _ _ _ us hl => match us, hl with | [_, _], _ => rfl,
    g_is_equal := PySem.W.mg_of X G ais_equal,
    a_is_other := fis_other,
    d_is_other := _,
    F_is_other := fun_mk (st := s_is_other) lis_other cis_other kis_other,
    b_is_other := (fun_mk (st := s_is_other) lis_other cis_other kis_other).binds (ps := ["a", "b"]) fun _ _ _ _ _ _ us hl => match us, hl with | [_, _], _ => rfl,
    g_is_other := PySem.W.mg_of X G ais_other,
    a_lesser := flesser,
    d_lesser := _,
    F_lesser := fun_mk (st := s_lesser) llesser clesser klesser,
    b_lesser := (fun_mk (st := s_lesser) llesser clesser klesser).binds (ps := ["a", "b"]) fun _ _ _ _ _ _ us hl => match us, hl with | [_, _], _ => rfl,
    g_lesser := PySem.W.mg_of X G alesser,
    a_greater := fgreater,
    d_greater := _,
    F_greater := fun_mk (st := s_greater) lgreater cgreater kgreater,
    b_greater := (fun_mk (st := s_greater) lgreater cgreater kgreater).binds (ps := ["a", "b"]) fun _ _ _ _ _ _ us hl => match us, hl with | [_, _], _ => rfl,
    g_greater := PySem.W.mg_of X G agreater,
    a_negative := fnegative,
    d_negative := _,
    F_negative := fun_mk (st := s_negative) lnegative cnegative knegative,
    b_negative := (fun_mk (st := s_negative) lnegative cnegative knegative).binds (ps := ["a"]) fun _ _ _ _ _ _ us hl => match us, hl with | [_], _ => rfl,
    g_negative := PySem.W.mg_of X G anegative,
    a_turned_bits := fturned_bits,
    d_turned_bits := _,
    F_turned_bits := fun_mk (st := s_turned_bits) lturned_bits cturned_bits kturned_bits,
    b_turned_bits := (fun_mk (st := s_turned_bits) lturned_bits cturned_bits kturned_bits).binds (ps := ["a"]) fun _ _ _ _ _ _ us hl => match us, hl with | [_], _ => rfl,
    g_turned_bits := PySem.W.mg_of X G aturned_bits,
    a_is_zero := fis_zero,
    d_is_zero := _,
    F_is_zero := fun_mk (st := s_is_zero) lis_zero cis_zero kis_zero,
    b_is_zero := (fun_mk (st := s_is_zero) lis_zero cis_zero kis_zero).binds (ps := ["a"]) fun _ _ _ _ _ _ us hl => match us, hl with | [_], _ => rfl,
    g_is_zero := PySem.W.mg_of X G ais_zero,
    a_binary := fbinary,
    d_binary := _,
    F_binary := fun_mk (st := s_binary) lbinary cbinary kbinary,
    b_binary := (fun_mk (st := s_binary) lbinary cbinary kbinary).binds (ps := ["op", "a", "b"]) fun _ _ _ _ _ _ us hl => match us, hl with | [_, _, _], _ => rfl,
    g_binary := PySem.W.mg_of X G abinary,
    a_unary := funary,
    d_unary := _,
    F_unary := fun_mk (st := s_unary) lunary cunary kunary,
    b_unary := (fun_mk (st := s_unary) lunary cunary kunary).binds (ps := ["op", "a"]) fun _ _ _ _ _ _ us hl => match us, hl with | [_, _], _ => rfl,
    g_unary := PySem.W.mg_of X G aunary,
    a_law_stream := flaw_stream,
    d_law_stream := _,
    F_law_stream := fun_mk (st := s_law_stream) llaw_stream claw_stream klaw_stream,
    b_law_stream := (fun_mk (st := s_law_stream) llaw_stream claw_stream klaw_stream).binds (ps := ["script"]) fun _ _ _ _ _ _ us hl => match us, hl with | [_], _ => rfl,
    g_law_stream := PySem.W.mg_of X G alaw_stream,
    a_law_draw := flaw_draw,
    d_law_draw := _,
    F_law_draw := fun_mk (st := s_law_draw) llaw_draw claw_draw klaw_draw,
    b_law_draw := (fun_mk (st := s_law_draw) llaw_draw claw_draw klaw_draw).binds (ps := ["stream", "many"]) fun _ _ _ _ _ _ us hl => match us, hl with | [_, _], _ => rfl,
    g_law_draw := PySem.W.mg_of X G alaw_draw,
    a_law_word := flaw_word,
    d_law_word := _,
    F_law_word := fun_mk (st := s_law_word) llaw_word claw_word klaw_word,
    b_law_word := (fun_mk (st := s_law_word) llaw_word claw_word klaw_word).binds (ps := ["stream"]) fun _ _ _ _ _ _ us hl => match us, hl with | [_], _ => rfl,
    g_law_word := PySem.W.mg_of X G alaw_word,
    a_law_wrapped := flaw_wrapped,
    d_law_wrapped := _,
    F_law_wrapped := fun_mk (st := s_law_wrapped) llaw_wrapped claw_wrapped klaw_wrapped,
    b_law_wrapped := (fun_mk (st := s_law_wrapped) llaw_wrapped claw_wrapped klaw_wrapped).binds (ps := ["number"]) fun _ _ _ _ _ _ us hl => match us, hl with | [_], _ => rfl,
    g_law_wrapped := PySem.W.mg_of X G alaw_wrapped,
    a_law_bits := flaw_bits,
    d_law_bits := _,
    F_law_bits := fun_mk (st := s_law_bits) llaw_bits claw_bits klaw_bits,
    b_law_bits := (fun_mk (st := s_law_bits) llaw_bits claw_bits klaw_bits).binds (ps := ["op", "a", "b"]) fun _ _ _ _ _ _ us hl => match us, hl with | [_, _, _], _ => rfl,
    g_law_bits := PySem.W.mg_of X G alaw_bits,
    a_law_shifted := flaw_shifted,
    d_law_shifted := _,
    F_law_shifted := fun_mk (st := s_law_shifted) llaw_shifted claw_shifted klaw_shifted,
    b_law_shifted := (fun_mk (st := s_law_shifted) llaw_shifted claw_shifted klaw_shifted).binds (ps := ["op", "a", "b"]) fun _ _ _ _ _ _ us hl => match us, hl with | [_, _, _], _ => rfl,
    g_law_shifted := PySem.W.mg_of X G alaw_shifted,
    a_law_binary := flaw_binary,
    d_law_binary := _,
    F_law_binary := fun_mk (st := s_law_binary) llaw_binary claw_binary klaw_binary,
    b_law_binary := (fun_mk (st := s_law_binary) llaw_binary claw_binary klaw_binary).binds (ps := ["op", "a", "b"]) fun _ _ _ _ _ _ us hl => match us, hl with | [_, _, _], _ => rfl,
    g_law_binary := PySem.W.mg_of X G alaw_binary,
    a_law_unary := flaw_unary,
    d_law_unary := _,
    F_law_unary := fun_mk (st := s_law_unary) llaw_unary claw_unary klaw_unary,
    b_law_unary := (fun_mk (st := s_law_unary) llaw_unary claw_unary klaw_unary).binds (ps := ["op", "a"]) fun _ _ _ _ _ _ us hl => match us, hl with | [_, _], _ => rfl,
    g_law_unary := PySem.W.mg_of X G alaw_unary,
    a_law_ops := flaw_ops,
    d_law_ops := _,
    F_law_ops := fun_mk (st := s_law_ops) llaw_ops claw_ops klaw_ops,
    b_law_ops := (fun_mk (st := s_law_ops) llaw_ops claw_ops klaw_ops).binds (ps := []) fun _ _ _ _ _ _ us hl => match us, hl with | [], _ => rfl,
    g_law_ops := PySem.W.mg_of X G alaw_ops,
    a_law := fa,
    d_law := _,
    F_law := fun_mk (st := s_law) llaw claw klaw,
    g_law := PySem.W.mg_of X G alaw,
    z_abs := PySem.W.mg_none_of X G zabs,
    z_bool := PySem.W.mg_none_of X G zbool,
    z_int := PySem.W.mg_none_of X G zint,
    z_isinstance := PySem.W.mg_none_of X G zisinstance,
    z_len := PySem.W.mg_none_of X G zlen,
    z_list := PySem.W.mg_none_of X G zlist,
    z_max := PySem.W.mg_none_of X G zmax,
    z_min := PySem.W.mg_none_of X G zmin,
    z_range := PySem.W.mg_none_of X G zrange,
    z_tuple := PySem.W.mg_none_of X G ztuple,
    q_LEAST := ⟨_, PySem.W.mg_of X G iLEAST, ⟨_, rfl⟩⟩,
    a_BINARY := pBINARY,
    q_BINARY := ⟨_, PySem.W.mg_of X G aBINARY, rfl⟩,
    t_BINARY := ⟨_, itsBINARY, nBINARY, lBINARY, rfl, rfl, mBINARY, vBINARY⟩,
    a_UNARY := pUNARY,
    q_UNARY := ⟨_, PySem.W.mg_of X G aUNARY, rfl⟩,
    t_UNARY := ⟨_, itsUNARY, nUNARY, lUNARY, rfl, rfl, mUNARY, vUNARY⟩,
    a_BINARY_ACTIONS := pBINARY_ACTIONS,
    q_BINARY_ACTIONS := ⟨_, PySem.W.mg_of X G aBINARY_ACTIONS, rfl⟩,
    k_BINARY_ACTIONS_add := ⟨_, _, _, lBINARY_ACTIONS, vBINARY_ACTIONS, eBINARY_ACTIONS_add, rfl⟩,
    k_BINARY_ACTIONS_sub := ⟨_, _, _, lBINARY_ACTIONS, vBINARY_ACTIONS, eBINARY_ACTIONS_sub, rfl⟩,
    k_BINARY_ACTIONS_mul := ⟨_, _, _, lBINARY_ACTIONS, vBINARY_ACTIONS, eBINARY_ACTIONS_mul, rfl⟩,
    k_BINARY_ACTIONS_div := ⟨_, _, _, lBINARY_ACTIONS, vBINARY_ACTIONS, eBINARY_ACTIONS_div, rfl⟩,
    k_BINARY_ACTIONS_rem := ⟨_, _, _, lBINARY_ACTIONS, vBINARY_ACTIONS, eBINARY_ACTIONS_rem, rfl⟩,
    k_BINARY_ACTIONS_and := ⟨_, _, _, lBINARY_ACTIONS, vBINARY_ACTIONS, eBINARY_ACTIONS_and, rfl⟩,
    k_BINARY_ACTIONS_or := ⟨_, _, _, lBINARY_ACTIONS, vBINARY_ACTIONS, eBINARY_ACTIONS_or, rfl⟩,
    k_BINARY_ACTIONS_xor := ⟨_, _, _, lBINARY_ACTIONS, vBINARY_ACTIONS, eBINARY_ACTIONS_xor, rfl⟩,
    k_BINARY_ACTIONS_shl := ⟨_, _, _, lBINARY_ACTIONS, vBINARY_ACTIONS, eBINARY_ACTIONS_shl, rfl⟩,
    k_BINARY_ACTIONS_shr := ⟨_, _, _, lBINARY_ACTIONS, vBINARY_ACTIONS, eBINARY_ACTIONS_shr, rfl⟩,
    k_BINARY_ACTIONS_lt := ⟨_, _, _, lBINARY_ACTIONS, vBINARY_ACTIONS, eBINARY_ACTIONS_lt, rfl⟩,
    k_BINARY_ACTIONS_le := ⟨_, _, _, lBINARY_ACTIONS, vBINARY_ACTIONS, eBINARY_ACTIONS_le, rfl⟩,
    k_BINARY_ACTIONS_eq := ⟨_, _, _, lBINARY_ACTIONS, vBINARY_ACTIONS, eBINARY_ACTIONS_eq, rfl⟩,
    k_BINARY_ACTIONS_ne := ⟨_, _, _, lBINARY_ACTIONS, vBINARY_ACTIONS, eBINARY_ACTIONS_ne, rfl⟩,
    k_BINARY_ACTIONS_min := ⟨_, _, _, lBINARY_ACTIONS, vBINARY_ACTIONS, eBINARY_ACTIONS_min, rfl⟩,
    k_BINARY_ACTIONS_max := ⟨_, _, _, lBINARY_ACTIONS, vBINARY_ACTIONS, eBINARY_ACTIONS_max, rfl⟩,
    a_UNARY_ACTIONS := pUNARY_ACTIONS,
    q_UNARY_ACTIONS := ⟨_, PySem.W.mg_of X G aUNARY_ACTIONS, rfl⟩,
    k_UNARY_ACTIONS_neg := ⟨_, _, _, lUNARY_ACTIONS, vUNARY_ACTIONS, eUNARY_ACTIONS_neg, rfl⟩,
    k_UNARY_ACTIONS_not := ⟨_, _, _, lUNARY_ACTIONS, vUNARY_ACTIONS, eUNARY_ACTIONS_not, rfl⟩,
    k_UNARY_ACTIONS_zero := ⟨_, _, _, lUNARY_ACTIONS, vUNARY_ACTIONS, eUNARY_ACTIONS_zero, rfl⟩ }
  exact ⟨_, fun s v => .of_eq rfl, fun base _ _ => ok_law T⟩
end D1
open PySem PySem.W PyProof.Rows
set_option maxRecDepth 100000 in
set_option maxHeartbeats 0 in
theorem PySem.Challenge.cw_drawloom_k01_operators_holds : PySem.Challenge.rw_drawloom_k01_operators.Holds := by
  w_on; o_law; k_head; (case hw => w_witness2)
  k_fill
  refine L2.walk_of (l := PySem.Challenge.rw_drawloom_k01_operators) (n := 63) (k := 4) (x := "script") (CX := fun _ => L2.CX0) (sp := fun w => D1.sp_law _) rfl (by decide) rfl ⟨rfl, by decide, by decide⟩ (fun w h Y => PySem.W.kIn_of Y) ?F (fun _ _ a ns hl _ hS => ⟨a, ns, rfl, hS, hl, fun _ => rfl⟩) (fun _ _ _ _ _ h => h)
  case F =>
    intro w mg fa h KX G hmg
    refine' D1.all_mk KX G hmg ?awrapped ?lwrapped ?cwrapped ?kwrapped ?asum_of ?lsum_of ?csum_of ?ksum_of ?adifference ?ldifference ?cdifference ?kdifference ?aproduct_of ?lproduct_of ?cproduct_of ?kproduct_of ?aquotient ?lquotient ?cquotient ?kquotient ?aremainder ?lremainder ?cremainder ?kremainder ?abits_of_both ?lbits_of_both ?cbits_of_both ?kbits_of_both ?abits_of_any ?lbits_of_any ?cbits_of_any ?kbits_of_any ?abits_of_one ?lbits_of_one ?cbits_of_one ?kbits_of_one ?ashifted_left ?lshifted_left ?cshifted_left ?kshifted_left ?ashifted_right ?lshifted_right ?cshifted_right ?kshifted_right ?ais_less ?lis_less ?cis_less ?kis_less ?ais_at_most ?lis_at_most ?cis_at_most ?kis_at_most ?ais_equal ?lis_equal ?cis_equal ?kis_equal ?ais_other ?lis_other ?cis_other ?kis_other ?alesser ?llesser ?clesser ?klesser ?agreater ?lgreater ?cgreater ?kgreater ?anegative ?lnegative ?cnegative ?knegative ?aturned_bits ?lturned_bits ?cturned_bits ?kturned_bits ?ais_zero ?lis_zero ?cis_zero ?kis_zero ?abinary ?lbinary ?cbinary ?kbinary ?aunary ?lunary ?cunary ?kunary ?alaw_stream ?llaw_stream ?claw_stream ?klaw_stream ?alaw_draw ?llaw_draw ?claw_draw ?klaw_draw ?alaw_word ?llaw_word ?claw_word ?klaw_word ?alaw_wrapped ?llaw_wrapped ?claw_wrapped ?klaw_wrapped ?alaw_bits ?llaw_bits ?claw_bits ?klaw_bits ?alaw_shifted ?llaw_shifted ?claw_shifted ?klaw_shifted ?alaw_binary ?llaw_binary ?claw_binary ?klaw_binary ?alaw_unary ?llaw_unary ?claw_unary ?klaw_unary ?alaw_ops ?llaw_ops ?claw_ops ?klaw_ops ?alaw ?llaw ?claw ?klaw ?zabs ?zbool ?zint ?zisinstance ?zlen ?zlist ?zmax ?zmin ?zrange ?ztuple ?iLEAST ?aBINARY ?lBINARY ?mBINARY ?vBINARY ?aUNARY ?lUNARY ?mUNARY ?vUNARY ?aBINARY_ACTIONS ?lBINARY_ACTIONS ?vBINARY_ACTIONS ?eBINARY_ACTIONS_add ?eBINARY_ACTIONS_sub ?eBINARY_ACTIONS_mul ?eBINARY_ACTIONS_div ?eBINARY_ACTIONS_rem ?eBINARY_ACTIONS_and ?eBINARY_ACTIONS_or ?eBINARY_ACTIONS_xor ?eBINARY_ACTIONS_shl ?eBINARY_ACTIONS_shr ?eBINARY_ACTIONS_lt ?eBINARY_ACTIONS_le ?eBINARY_ACTIONS_eq ?eBINARY_ACTIONS_ne ?eBINARY_ACTIONS_min ?eBINARY_ACTIONS_max ?aUNARY_ACTIONS ?lUNARY_ACTIONS ?vUNARY_ACTIONS ?eUNARY_ACTIONS_neg ?eUNARY_ACTIONS_not ?eUNARY_ACTIONS_zero
    (case awrapped => k_is)
    (case lwrapped => k_is)
    (case cwrapped => k_is)
    (case kwrapped => k_is)
    (case asum_of => k_is)
    (case lsum_of => k_is)
    (case csum_of => k_is)
    (case ksum_of => k_is)
    (case adifference => k_is)
    (case ldifference => k_is)
    (case cdifference => k_is)
    (case kdifference => k_is)
    (case aproduct_of => k_is)
    (case lproduct_of => k_is)
    (case cproduct_of => k_is)
    (case kproduct_of => k_is)
    (case aquotient => k_is)
    (case lquotient => k_is)
    (case cquotient => k_is)
    (case kquotient => k_is)
    (case aremainder => k_is)
    (case lremainder => k_is)
    (case cremainder => k_is)
    (case kremainder => k_is)
    (case abits_of_both => k_is)
    (case lbits_of_both => k_is)
    (case cbits_of_both => k_is)
    (case kbits_of_both => k_is)
    (case abits_of_any => k_is)
    (case lbits_of_any => k_is)
    (case cbits_of_any => k_is)
    (case kbits_of_any => k_is)
    (case abits_of_one => k_is)
    (case lbits_of_one => k_is)
    (case cbits_of_one => k_is)
    (case kbits_of_one => k_is)
    (case ashifted_left => k_is)
    (case lshifted_left => k_is)
    (case cshifted_left => k_is)
    (case kshifted_left => k_is)
    (case ashifted_right => k_is)
    (case lshifted_right => k_is)
    (case cshifted_right => k_is)
    (case kshifted_right => k_is)
    (case ais_less => k_is)
    (case lis_less => k_is)
    (case cis_less => k_is)
    (case kis_less => k_is)
    (case ais_at_most => k_is)
    (case lis_at_most => k_is)
    (case cis_at_most => k_is)
    (case kis_at_most => k_is)
    (case ais_equal => k_is)
    (case lis_equal => k_is)
    (case cis_equal => k_is)
    (case kis_equal => k_is)
    (case ais_other => k_is)
    (case lis_other => k_is)
    (case cis_other => k_is)
    (case kis_other => k_is)
    (case alesser => k_is)
    (case llesser => k_is)
    (case clesser => k_is)
    (case klesser => k_is)
    (case agreater => k_is)
    (case lgreater => k_is)
    (case cgreater => k_is)
    (case kgreater => k_is)
    (case anegative => k_is)
    (case lnegative => k_is)
    (case cnegative => k_is)
    (case knegative => k_is)
    (case aturned_bits => k_is)
    (case lturned_bits => k_is)
    (case cturned_bits => k_is)
    (case kturned_bits => k_is)
    (case ais_zero => k_is)
    (case lis_zero => k_is)
    (case cis_zero => k_is)
    (case kis_zero => k_is)
    (case abinary => k_is)
    (case lbinary => k_is)
    (case cbinary => k_is)
    (case kbinary => k_is)
    (case aunary => k_is)
    (case lunary => k_is)
    (case cunary => k_is)
    (case kunary => k_is)
    (case alaw_stream => k_is)
    (case llaw_stream => k_is)
    (case claw_stream => k_is)
    (case klaw_stream => k_is)
    (case alaw_draw => k_is)
    (case llaw_draw => k_is)
    (case claw_draw => k_is)
    (case klaw_draw => k_is)
    (case alaw_word => k_is)
    (case llaw_word => k_is)
    (case claw_word => k_is)
    (case klaw_word => k_is)
    (case alaw_wrapped => k_is)
    (case llaw_wrapped => k_is)
    (case claw_wrapped => k_is)
    (case klaw_wrapped => k_is)
    (case alaw_bits => k_is)
    (case llaw_bits => k_is)
    (case claw_bits => k_is)
    (case klaw_bits => k_is)
    (case alaw_shifted => k_is)
    (case llaw_shifted => k_is)
    (case claw_shifted => k_is)
    (case klaw_shifted => k_is)
    (case alaw_binary => k_is)
    (case llaw_binary => k_is)
    (case claw_binary => k_is)
    (case klaw_binary => k_is)
    (case alaw_unary => k_is)
    (case llaw_unary => k_is)
    (case claw_unary => k_is)
    (case klaw_unary => k_is)
    (case alaw_ops => k_is)
    (case llaw_ops => k_is)
    (case claw_ops => k_is)
    (case klaw_ops => k_is)
    (case alaw => k_is)
    (case llaw => k_is)
    (case claw => k_is)
    (case klaw => k_is)
    (case zabs => k_is)
    (case zbool => k_is)
    (case zint => k_is)
    (case zisinstance => k_is)
    (case zlen => k_is)
    (case zlist => k_is)
    (case zmax => k_is)
    (case zmin => k_is)
    (case zrange => k_is)
    (case ztuple => k_is)
    (case iLEAST => k_is)
    (case aBINARY => k_is)
    (case lBINARY => k_is)
    (case mBINARY => exact (by rw [sizeLine_eq]; decide))
    (case vBINARY => exact by repeat (first | exact .nil | refine .cons ⟨_, rfl⟩ ?_))
    (case aUNARY => k_is)
    (case lUNARY => k_is)
    (case mUNARY => exact (by rw [sizeLine_eq]; decide))
    (case vUNARY => exact by repeat (first | exact .nil | refine .cons ⟨_, rfl⟩ ?_))
    (case aBINARY_ACTIONS => k_is)
    (case lBINARY_ACTIONS => k_is)
    (case vBINARY_ACTIONS => k_keys)
    (case eBINARY_ACTIONS_add => k_is)
    (case eBINARY_ACTIONS_sub => k_is)
    (case eBINARY_ACTIONS_mul => k_is)
    (case eBINARY_ACTIONS_div => k_is)
    (case eBINARY_ACTIONS_rem => k_is)
    (case eBINARY_ACTIONS_and => k_is)
    (case eBINARY_ACTIONS_or => k_is)
    (case eBINARY_ACTIONS_xor => k_is)
    (case eBINARY_ACTIONS_shl => k_is)
    (case eBINARY_ACTIONS_shr => k_is)
    (case eBINARY_ACTIONS_lt => k_is)
    (case eBINARY_ACTIONS_le => k_is)
    (case eBINARY_ACTIONS_eq => k_is)
    (case eBINARY_ACTIONS_ne => k_is)
    (case eBINARY_ACTIONS_min => k_is)
    (case eBINARY_ACTIONS_max => k_is)
    (case aUNARY_ACTIONS => k_is)
    (case lUNARY_ACTIONS => k_is)
    (case vUNARY_ACTIONS => k_keys)
    (case eUNARY_ACTIONS_neg => k_is)
    (case eUNARY_ACTIONS_not => k_is)
    (case eUNARY_ACTIONS_zero => k_is)
#print axioms PySem.Challenge.cw_drawloom_k01_operators_holds
