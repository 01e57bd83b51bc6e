import PyProof.Rows.All
import Wide.All
import OpenK.AllK
import Wide.FinOn
import HandS.ForMost
import HandS.Wide
import HandS.CallLocal
import HandS.IsInst
import HandS.More
import HandS.Codes
import KE.KBits
import KE.KEqSeq
import PySem.Challenge.RW_drawloom_k02_wrapping_and_folding
set_option Elab.async false
set_option linter.all false
set_option maxRecDepth 100000
/-! Wrapping and folding: the program's values and the law's, def by def. -/
namespace D2
open PySem PySem.Spec PyProof.Rows L2
/-! ### the text -/
def topS (i : Nat) : Stmt := PySem.Challenge.pw_drawloom_k02_wrapping_and_folding.main.body.getD i (.Pass ⟨0, 0, 0, 0⟩)
abbrev s_wrapped : Stmt := topS 3
theorem sc_wrapped : FnScope ["number"] ["number"] (defScope s_wrapped) := ⟨rfl, rfl, rfl, by decide +kernel, rfl, by decide +kernel, by decide +kernel⟩
abbrev s_sum_of : Stmt := topS 4
theorem sc_sum_of : FnScope ["a", "b"] ["a", "b"] (defScope s_sum_of) := ⟨rfl, rfl, rfl, by decide +kernel, rfl, by decide +kernel, by decide +kernel⟩
abbrev s_difference : Stmt := topS 5
theorem sc_difference : FnScope ["a", "b"] ["a", "b"] (defScope s_difference) := ⟨rfl, rfl, rfl, by decide +kernel, rfl, by decide +kernel, by decide +kernel⟩
abbrev s_product_of : Stmt := topS 6
theorem sc_product_of : FnScope ["a", "b"] ["a", "b"] (defScope s_product_of) := ⟨rfl, rfl, rfl, by decide +kernel, rfl, by decide +kernel, by decide +kernel⟩
abbrev s_quotient : Stmt := topS 7
theorem sc_quotient : FnScope ["a", "b", "size"] ["a", "b"] (defScope s_quotient) := ⟨rfl, rfl, rfl, by decide +kernel, rfl, by decide +kernel, by decide +kernel⟩
abbrev s_remainder : Stmt := topS 8
theorem sc_remainder : FnScope ["a", "b"] ["a", "b"] (defScope s_remainder) := ⟨rfl, rfl, rfl, by decide +kernel, rfl, by decide +kernel, by decide +kernel⟩
abbrev s_bits_of_both : Stmt := topS 9
theorem sc_bits_of_both : FnScope ["a", "b"] ["a", "b"] (defScope s_bits_of_both) := ⟨rfl, rfl, rfl, by decide +kernel, rfl, by decide +kernel, by decide +kernel⟩
abbrev s_bits_of_any : Stmt := topS 10
theorem sc_bits_of_any : FnScope ["a", "b"] ["a", "b"] (defScope s_bits_of_any) := ⟨rfl, rfl, rfl, by decide +kernel, rfl, by decide +kernel, by decide +kernel⟩
abbrev s_bits_of_one : Stmt := topS 11
theorem sc_bits_of_one : FnScope ["a", "b"] ["a", "b"] (defScope s_bits_of_one) := ⟨rfl, rfl, rfl, by decide +kernel, rfl, by decide +kernel, by decide +kernel⟩
abbrev s_shifted_left : Stmt := topS 12
theorem sc_shifted_left : FnScope ["a", "b"] ["a", "b"] (defScope s_shifted_left) := ⟨rfl, rfl, rfl, by decide +kernel, rfl, by decide +kernel, by decide +kernel⟩
abbrev s_shifted_right : Stmt := topS 13
theorem sc_shifted_right : FnScope ["a", "b"] ["a", "b"] (defScope s_shifted_right) := ⟨rfl, rfl, rfl, by decide +kernel, rfl, by decide +kernel, by decide +kernel⟩
abbrev s_is_less : Stmt := topS 14
theorem sc_is_less : FnScope ["a", "b"] ["a", "b"] (defScope s_is_less) := ⟨rfl, rfl, rfl, by decide +kernel, rfl, by decide +kernel, by decide +kernel⟩
abbrev s_is_at_most : Stmt := topS 15
theorem sc_is_at_most : FnScope ["a", "b"] ["a", "b"] (defScope s_is_at_most) := ⟨rfl, rfl, rfl, by decide +kernel, rfl, by decide +kernel, by decide +kernel⟩
abbrev s_is_equal : Stmt := topS 16
theorem sc_is_equal : FnScope ["a", "b"] ["a", "b"] (defScope s_is_equal) := ⟨rfl, rfl, rfl, by decide +kernel, rfl, by decide +kernel, by decide +kernel⟩
abbrev s_is_other : Stmt := topS 17
theorem sc_is_other : FnScope ["a", "b"] ["a", "b"] (defScope s_is_other) := ⟨rfl, rfl, rfl, by decide +kernel, rfl, by decide +kernel, by decide +kernel⟩
abbrev s_lesser : Stmt := topS 18
theorem sc_lesser : FnScope ["a", "b"] ["a", "b"] (defScope s_lesser) := ⟨rfl, rfl, rfl, by decide +kernel, rfl, by decide +kernel, by decide +kernel⟩
abbrev s_greater : Stmt := topS 19
theorem sc_greater : FnScope ["a", "b"] ["a", "b"] (defScope s_greater) := ⟨rfl, rfl, rfl, by decide +kernel, rfl, by decide +kernel, by decide +kernel⟩
abbrev s_binary : Stmt := topS 22
theorem sc_binary : FnScope ["op", "a", "b", "action"] ["op", "a", "b"] (defScope s_binary) := ⟨rfl, rfl, rfl, by decide +kernel, rfl, by decide +kernel, by decide +kernel⟩
abbrev s_neutral : Stmt := topS 23
theorem sc_neutral : FnScope ["op"] ["op"] (defScope s_neutral) := ⟨rfl, rfl, rfl, by decide +kernel, rfl, by decide +kernel, by decide +kernel⟩
abbrev s_fold : Stmt := topS 24
theorem sc_fold : FnScope ["op", "words", "total", "word"] ["op", "words"] (defScope s_fold) := ⟨rfl, rfl, rfl, by decide +kernel, rfl, by decide +kernel, by decide +kernel⟩
abbrev s_law_stream : Stmt := topS 26
theorem sc_law_stream : FnScope ["script", "mixed", "cell"] ["script"] (defScope s_law_stream) := ⟨rfl, rfl, rfl, by decide +kernel, rfl, by decide +kernel, by decide +kernel⟩
abbrev s_law_draw : Stmt := topS 27
theorem sc_law_draw : FnScope ["stream", "many", "value"] ["stream", "many"] (defScope s_law_draw) := ⟨rfl, rfl, rfl, by decide +kernel, rfl, by decide +kernel, by decide +kernel⟩
abbrev s_law_word : Stmt := topS 28
theorem sc_law_word : FnScope ["stream", "rows"] ["stream"] (defScope s_law_word) := ⟨rfl, rfl, rfl, by decide +kernel, rfl, by decide +kernel, by decide +kernel⟩
abbrev s_law_wrapped : Stmt := topS 29
theorem sc_law_wrapped : FnScope ["number"] ["number"] (defScope s_law_wrapped) := ⟨rfl, rfl, rfl, by decide +kernel, rfl, by decide +kernel, by decide +kernel⟩
abbrev s_law_bits : Stmt := topS 30
theorem sc_law_bits : FnScope ["op", "a", "b", "total", "place", "k", "one", "two", "chosen"] ["op", "a", "b"] (defScope s_law_bits) := ⟨rfl, rfl, rfl, by decide +kernel, rfl, by decide +kernel, by decide +kernel⟩
abbrev s_law_shifted : Stmt := topS 31
theorem sc_law_shifted : FnScope ["op", "a", "b", "k"] ["op", "a", "b"] (defScope s_law_shifted) := ⟨rfl, rfl, rfl, by decide +kernel, rfl, by decide +kernel, by decide +kernel⟩
abbrev s_law_binary : Stmt := topS 32
theorem sc_law_binary : FnScope ["op", "a", "b", "found", "rows"] ["op", "a", "b"] (defScope s_law_binary) := ⟨rfl, rfl, rfl, by decide +kernel, rfl, by decide +kernel, by decide +kernel⟩
abbrev s_law : Stmt := topS 34
theorem sc_law : FnScope ["script", "stream", "number", "k", "words", "turned", "at", "op", "least", "due", "word", "given"] ["script"] (defScope s_law) := ⟨rfl, rfl, rfl, by decide +kernel, rfl, by decide +kernel, by decide +kernel⟩
/-! ### the mathematics of words -/
inductive Op where | add | sub | mul | div | rem | and | or | xor | shl | shr | lt | le | eq | ne | min | max
  deriving DecidableEq
def Op.s : Op → Str
  | .add => "add" | .sub => "sub" | .mul => "mul" | .div => "div" | .rem => "rem" | .and => "and" | .or => "or" | .xor => "xor" | .shl => "shl" | .shr => "shr"
  | .lt => "lt" | .le => "le" | .eq => "eq" | .ne => "ne" | .min => "min" | .max => "max"
inductive Uop where | neg | not | zero
def Uop.s : Uop → Str
  | .neg => "neg" | .not => "not" | .zero => "zero"
def W (a : Int) : Prop := -2147483648 ≤ a ∧ a ≤ 2147483647
def ab (i : Int) : Int := if i < 0 then -i else i
def wrap (n : Int) : Int := (n - (-2147483648)) % 4294967296 + (-2147483648)
def quo (a b : Int) : Int := if b = 0 then 0 else if decide (a < 0) = decide (b < 0) then ab a / ab b else -(ab a / ab b)
def b1 (p : Prop) [Decidable p] : Int := if p then 1 else 0
def act : Op → Int → Int → Int
  | .add, a, b => a + b
  | .sub, a, b => a - b
  | .mul, a, b => a * b
  | .div, a, b => quo a b
  | .rem, a, b => if b = 0 then 0 else a - b * quo a b
  | .and, a, b => Builtin.bitAnd a b
  | .or, a, b => Builtin.bitOr a b
  | .xor, a, b => Builtin.bitXor a b
  | .shl, a, b => a * 2 ^ (Builtin.bitAnd b 31).toNat
  | .shr, a, b => a / 2 ^ (Builtin.bitAnd b 31).toNat
  | .lt, a, b => b1 (a < b)
  | .le, a, b => b1 (a ≤ b)
  | .eq, a, b => b1 (a = b)
  | .ne, a, b => b1 (a ≠ b)
  | .min, a, b => if a < b then a else b
  | .max, a, b => if b < a then a else b
def uact : Uop → Int → Int
  | .neg, a => -a
  | .not, a => Builtin.bitNot a
  | .zero, a => b1 (a = 0)
/-- the law's own -/
def lwrap (n : Int) : Int := n % 4294967296 - 4294967296 * (if decide (2147483647 < n % 4294967296) = true then 1 else 0)
theorem lwrap_eq (n : Int) : lwrap n = wrap n := by
  unfold lwrap wrap
  by_cases h : 2147483647 < n % 4294967296
  · rw [if_pos (decide_eq_true h)]; omega
  · rw [if_neg (by simpa using h)]; omega
theorem lwrap_mod (n : Int) : lwrap (n % 4294967296) = lwrap n := by
  unfold lwrap
  rw [Int.emod_emod_of_dvd n (Int.dvd_refl _)]
theorem wrap_W (n : Int) : W (wrap n) := by
  unfold wrap W
  omega
/-- bit by bit -/
def bit : Op → Int → Int → Int
  | .and, x, y => x * y
  | .or, x, y => if y > x then y else x
  | _, x, y => if (!decide (V.int x = V.int y)) = true then 1 else 0
def lb (o : Op) : Nat → Int → Int → Int
  | 0, _, _ => 0
  | n + 1, a, b => bit o (a % 2) (b % 2) + 2 * lb o n (a / 2) (b / 2)
theorem halves_mod (x : Int) (n : Nat) : x % 2 ^ (n + 1) = 2 * (x / 2 % 2 ^ n) + x % 2 := by
  have hp : (0 : Int) < 2 ^ n := Int.pow_pos (by decide)
  have e : (2 : Int) ^ (n + 1) = 2 * 2 ^ n := by rw [Int.pow_succ, Int.mul_comm]
  rw [e, Int.emod_def x (2 * 2 ^ n), Int.emod_def (x / 2) (2 ^ n), ← Int.ediv_ediv_of_nonneg (by decide : (0 : Int) ≤ 2)]
  have h := Int.emod_add_mul_ediv x 2
  rw [Int.mul_sub, Int.mul_assoc]
  omega
theorem lb_mod (o : Op) : ∀ (n : Nat) (a b : Int), lb o n (a % 2 ^ n) (b % 2 ^ n) = lb o n a b
  | 0, _, _ => rfl
  | n + 1, a, b => by
    have hp : (0 : Int) < 2 ^ n := Int.pow_pos (by decide)
    have e1 : ∀ x : Int, x % 2 ^ (n + 1) % 2 = x % 2 := fun x => by rw [halves_mod]; omega
    have e2 : ∀ x : Int, x % 2 ^ (n + 1) / 2 = x / 2 % 2 ^ n := fun x => by rw [halves_mod]; omega
    unfold lb
    rw [e1, e1, e2, e2, lb_mod o n]
theorem lb_and : ∀ (n : Nat) (a b : Int), lb .and n a b = Builtin.bitAnd a b % 2 ^ n
  | 0, a, b => by show (0 : Int) = _ % 1; omega
  | n + 1, a, b => by
    unfold lb
    rw [lb_and n, halves_mod (Builtin.bitAnd a b) n]
    have h := PySem.W.kbt_halves a b
    have ha : a % 2 = 0 ∨ a % 2 = 1 := by omega
    have hb : b % 2 = 0 ∨ b % 2 = 1 := by omega
    have e : Builtin.bitAnd a b / 2 = Builtin.bitAnd (a / 2) (b / 2) := by
      rw [h]; split <;> omega
    have e2 : Builtin.bitAnd a b % 2 = (a % 2) * (b % 2) := by
      rw [h]
      rcases ha with ha | ha <;> rcases hb with hb | hb <;> rw [ha, hb] <;> simp <;> omega
    rw [e, e2]
    show a % 2 * (b % 2) + _ = _
    omega
theorem lb_lin : ∀ (n : Nat) (a b : Int), ∃ k j : Int, lb .or n a b = a % 2 ^ n + b % 2 ^ n - lb .and n a b ∧ lb .xor n a b = a % 2 ^ n + b % 2 ^ n - 2 * lb .and n a b
  | 0, a, b => ⟨0, 0, by show (0 : Int) = a % 1 + b % 1 - 0; omega, by show (0 : Int) = a % 1 + b % 1 - 2 * 0; omega⟩
  | n + 1, a, b => by
    obtain ⟨_, _, h1, h2⟩ := lb_lin n (a / 2) (b / 2)
    refine ⟨0, 0, ?_, ?_⟩
    · unfold lb
      rw [h1, halves_mod a, halves_mod b]
      have ha : a % 2 = 0 ∨ a % 2 = 1 := by omega
      have hb : b % 2 = 0 ∨ b % 2 = 1 := by omega
      have e : bit .or (a % 2) (b % 2) = a % 2 + b % 2 - bit .and (a % 2) (b % 2) := by
        rcases ha with ha | ha <;> rcases hb with hb | hb <;> rw [ha, hb] <;> rfl
      omega
    · unfold lb
      rw [h2, halves_mod a, halves_mod b]
      have ha : a % 2 = 0 ∨ a % 2 = 1 := by omega
      have hb : b % 2 = 0 ∨ b % 2 = 1 := by omega
      have e : bit .xor (a % 2) (b % 2) = a % 2 + b % 2 - 2 * bit .and (a % 2) (b % 2) := by
        rcases ha with ha | ha <;> rcases hb with hb | hb <;> rw [ha, hb] <;> rfl
      omega
theorem wrap_congr {x y : Int} (h : x % 4294967296 = y % 4294967296) : wrap x = wrap y := by
  unfold wrap; omega
theorem lb_word_and (a b : Int) : lwrap (lb .and 32 (a % 4294967296) (b % 4294967296)) = wrap (Builtin.bitAnd a b) := by
  have h := lb_mod .and 32 a b
  rw [show ((2 : Int) ^ 32) = 4294967296 by decide] at h
  have g := lb_and 32 a b
  rw [show ((2 : Int) ^ 32) = 4294967296 by decide] at g
  rw [h, g, lwrap_eq]
  exact wrap_congr (by omega)
theorem lb_word_or (a b : Int) : lwrap (lb .or 32 (a % 4294967296) (b % 4294967296)) = wrap (Builtin.bitOr a b) := by
  have h := lb_mod .or 32 a b
  rw [show ((2 : Int) ^ 32) = 4294967296 by decide] at h
  have g := lb_and 32 a b
  obtain ⟨_, _, l1, _⟩ := lb_lin 32 a b
  rw [show ((2 : Int) ^ 32) = 4294967296 by decide] at g l1
  rw [h, l1, g, lwrap_eq, PyProof.Rows.bitOr_and]
  exact wrap_congr (by omega)
theorem lb_word_xor (a b : Int) : lwrap (lb .xor 32 (a % 4294967296) (b % 4294967296)) = wrap (Builtin.bitXor a b) := by
  have h := lb_mod .xor 32 a b
  rw [show ((2 : Int) ^ 32) = 4294967296 by decide] at h
  have g := lb_and 32 a b
  obtain ⟨_, _, _, l2⟩ := lb_lin 32 a b
  rw [show ((2 : Int) ^ 32) = 4294967296 by decide] at g l2
  rw [h, l2, g, lwrap_eq, PyProof.Rows.bitXor_and]
  exact wrap_congr (by omega)
/-- the law's value of an operator -/
def lquo (a b : Int) : Int := if decide (a * b < 0) = true then 0 - ab a / ab b else ab a / ab b
theorem quo_eq (a b : Int) (h : ¬ b = 0) : lquo a b = quo a b := by
  unfold lquo quo
  rw [if_neg h]
  by_cases ha : a < 0
  · by_cases hb : b < 0
    · have q : ¬ a * b < 0 := Int.not_lt.mpr (Int.mul_nonneg_of_nonpos_of_nonpos (by omega) (by omega))
      rw [if_neg (by simpa using q), if_pos (by simp [ha, hb])]
    · have q : a * b < 0 := Int.mul_neg_of_neg_of_pos ha (by omega)
      rw [if_pos (by simpa using q), if_neg (by simp [ha, hb])]
      omega
  · by_cases hb : b < 0
    · by_cases h0 : a = 0
      · subst h0
        rw [if_neg (by simp), if_neg (by simp [hb])]
        show (0 : Int) / ab b = -((0 : Int) / ab b)
        rw [Int.zero_ediv]; rfl
      · have q : a * b < 0 := Int.mul_neg_of_pos_of_neg (by omega) hb
        rw [if_pos (by simpa using q), if_neg (by simp [ha, hb])]
        omega
    · have q : ¬ a * b < 0 := Int.not_lt.mpr (Int.mul_nonneg (by omega) (by omega))
      rw [if_neg (by simpa using q), if_pos (by simp [ha, hb])]


/-! ### folding -/
def foldsL : List Op := [.add, .min, .max, .and, .or, .xor]
def folds : Op → Bool
  | .add | .min | .max | .and | .or | .xor => true
  | _ => false
def neut : Op → Int
  | .min => 2147483647
  | .max => -2147483648
  | .and => -1
  | _ => 0
def opf (o : Op) (d x : Int) : Int := wrap (act o d x)
theorem opf_W (o : Op) (d x : Int) : W (opf o d x) := wrap_W _
def foldW (o : Op) (d : Int) (ws : List Int) : Int := ws.foldl (opf o) d
theorem foldW_W (o : Op) : ∀ (ws : List Int) (d : Int), W d → W (foldW o d ws)
  | [], d, h => h
  | x :: r, d, h => foldW_W o r _ (opf_W o d x)
theorem wrap_id {x : Int} (h : W x) : wrap x = x := by
  unfold W at h; unfold wrap; omega
theorem wrap_min {d x : Int} (hd : W d) (hx : W x) : opf .min d x = if d < x then d else x := by
  unfold opf
  show wrap (if d < x then d else x) = _
  split
  · exact wrap_id hd
  · exact wrap_id hx
theorem wrap_max {d x : Int} (hd : W d) (hx : W x) : opf .max d x = if x < d then d else x := by
  unfold opf
  show wrap (if x < d then d else x) = _
  split
  · exact wrap_id hd
  · exact wrap_id hx
theorem bit_01 (o : Op) (x y : Int) (hx : x = 0 ∨ x = 1) (hy : y = 0 ∨ y = 1) : bit o x y = 0 ∨ bit o x y = 1 := by
  rcases hx with rfl | rfl <;> rcases hy with rfl | rfl <;> cases o <;> decide +kernel
theorem bit_rc (o : Op) (z x y : Int) (hz : z = 0 ∨ z = 1) (hx : x = 0 ∨ x = 1) (hy : y = 0 ∨ y = 1) (ho : o = .and ∨ o = .or ∨ o = .xor) : bit o (bit o z x) y = bit o (bit o z y) x := by
  rcases ho with rfl | rfl | rfl <;> rcases hz with rfl | rfl <;> rcases hx with rfl | rfl <;> rcases hy with rfl | rfl <;> decide +kernel
theorem m2 (x : Int) : x % 2 = 0 ∨ x % 2 = 1 := by omega
theorem lb_rc (o : Op) (ho : o = .and ∨ o = .or ∨ o = .xor) : ∀ (n : Nat) (z x y : Int), lb o n (lb o n z x) y = lb o n (lb o n z y) x
  | 0, _, _, _ => rfl
  | n + 1, z, x, y => by
    have key : ∀ u v : Int, lb o (n + 1) (lb o (n + 1) z u) v = bit o (bit o (z % 2) (u % 2)) (v % 2) + 2 * lb o n (lb o n (z / 2) (u / 2)) (v / 2) := fun u v => by
      have e : lb o (n + 1) z u = bit o (z % 2) (u % 2) + 2 * lb o n (z / 2) (u / 2) := rfl
      have h := bit_01 o (z % 2) (u % 2) (m2 z) (m2 u)
      have e1 : lb o (n + 1) z u % 2 = bit o (z % 2) (u % 2) := by rw [e]; omega
      have e2 : lb o (n + 1) z u / 2 = lb o n (z / 2) (u / 2) := by rw [e]; omega
      show bit o (lb o (n + 1) z u % 2) (v % 2) + 2 * lb o n (lb o (n + 1) z u / 2) (v / 2) = _
      rw [e1, e2]
    rw [key, key, bit_rc o _ _ _ (m2 z) (m2 x) (m2 y) ho, lb_rc o ho n]
theorem lb_word (o : Op) (ho : o = .and ∨ o = .or ∨ o = .xor) (a b : Int) : lwrap (lb o 32 a b) = opf o a b := by
  have h := lb_mod o 32 a b
  rw [show ((2 : Int) ^ 32) = 4294967296 by decide] at h
  rw [← h]
  rcases ho with rfl | rfl | rfl
  · exact lb_word_and a b
  · exact lb_word_or a b
  · exact lb_word_xor a b
theorem lb_lwrap (o : Op) (a b : Int) : lb o 32 (lwrap a) b = lb o 32 a b := by
  rw [← lb_mod o 32 (lwrap a) b, ← lb_mod o 32 a b]
  congr 1
  rw [lwrap_eq, show ((2 : Int) ^ 32) = 4294967296 by decide]
  unfold wrap
  omega
theorem opf_rc (o : Op) (h : folds o = true) (d x y : Int) (hd : W d) (hx : W x) (hy : W y) : opf o (opf o d x) y = opf o (opf o d y) x := by
  have bits : ∀ o : Op, (o = .and ∨ o = .or ∨ o = .xor) → opf o (opf o d x) y = opf o (opf o d y) x := fun o ho => by
    rw [← lb_word o ho d x, ← lb_word o ho d y, ← lb_word o ho _ y, ← lb_word o ho _ x, lb_lwrap, lb_lwrap, lb_rc o ho]
  cases o with
  | add =>
    show wrap (wrap (d + x) + y) = wrap (wrap (d + y) + x)
    exact wrap_congr (by unfold wrap; omega)
  | min =>
    rw [wrap_min (opf_W _ _ _) hy, wrap_min (opf_W _ _ _) hx, wrap_min hd hx, wrap_min hd hy]
    (repeat' split) <;> omega
  | max =>
    rw [wrap_max (opf_W _ _ _) hy, wrap_max (opf_W _ _ _) hx, wrap_max hd hx, wrap_max hd hy]
    (repeat' split) <;> omega
  | and => exact bits .and (.inl rfl)
  | or => exact bits .or (.inr (.inl rfl))
  | xor => exact bits .xor (.inr (.inr rfl))
  | sub => cases h
  | mul => cases h
  | div => cases h
  | rem => cases h
  | shl => cases h
  | shr => cases h
  | lt => cases h
  | le => cases h
  | eq => cases h
  | ne => cases h
theorem foldW_perm (o : Op) (h : folds o = true) {us ws : List Int} (p : us.Perm ws) : ∀ d : Int, W d → (∀ w ∈ us, W w) → foldW o d us = foldW o d ws := by
  induction p with
  | nil => intro d _ _; rfl
  | cons x _ ih => intro d hd hw; exact ih _ (opf_W o d x) fun w hm => hw w (List.mem_cons_of_mem _ hm)
  | swap x y l =>
    intro d hd hw
    show foldW o (opf o (opf o d y) x) l = foldW o (opf o (opf o d x) y) l
    rw [opf_rc o h d y x hd (hw y (by simp)) (hw x (by simp))]
  | trans p1 p2 i1 i2 =>
    intro d hd hw
    rw [i1 d hd hw]
    exact i2 d hd fun w hm => hw w (p1.mem_iff.mpr hm)
theorem bitAnd_m1r (x : Int) : Builtin.bitAnd x (-1) = x := by
  unfold Builtin.bitAnd
  by_cases h : 0 ≤ x
  · rw [decide_eq_true h, decide_eq_false (by decide : ¬ (0 : Int) ≤ -1)]
    show x - ((x.toNat &&& (0 : Nat) : Nat) : Int) = x
    rw [Nat.and_zero]; omega
  · rw [decide_eq_false h, decide_eq_false (by decide : ¬ (0 : Int) ≤ -1)]
    show Builtin.bitNot (((Builtin.bitNot x).toNat ||| (0 : Nat) : Nat) : Int) = x
    rw [Nat.or_zero]
    unfold Builtin.bitNot
    omega
theorem opf_comm (o : Op) (h : folds o = true) (a b : Int) : opf o a b = opf o b a := by
  unfold opf
  cases o <;> first | (cases h; done) | skip
  · show wrap (a + b) = wrap (b + a)
    rw [Int.add_comm]
  · show wrap (Builtin.bitAnd a b) = wrap (Builtin.bitAnd b a)
    rw [PyProof.Rows.bitAnd_comm]
  · show wrap (Builtin.bitOr a b) = wrap (Builtin.bitOr b a)
    rw [PyProof.Rows.bitOr_comm]
  · show wrap (Builtin.bitXor a b) = wrap (Builtin.bitXor b a)
    rw [PyProof.Rows.bitXor_and, PyProof.Rows.bitXor_and, PyProof.Rows.bitAnd_comm, Int.add_comm]
  · show wrap (if a < b then a else b) = wrap (if b < a then b else a)
    congr 1; split <;> split <;> omega
  · show wrap (if b < a then a else b) = wrap (if a < b then b else a)
    congr 1; split <;> split <;> omega
theorem neut_W (o : Op) : W (neut o) := by cases o <;> unfold W neut <;> decide
theorem opf_neut (o : Op) (h : folds o = true) {x : Int} (hx : W x) : opf o x (neut o) = x := by
  have key : act o x (neut o) = x := by
    unfold W at hx
    cases o <;> first | (cases h; done) | skip
    · show x + 0 = x
      omega
    · exact bitAnd_m1r x
    · show Builtin.bitOr x 0 = x
      rw [PyProof.Rows.bitOr_and, PyProof.Rows.bitAnd_zero]; omega
    · exact PyProof.Rows.bitXor_zero x
    · show (if x < 2147483647 then x else 2147483647) = x
      split <;> omega
    · show (if (-2147483648 : Int) < x then x else -2147483648) = x
      split <;> omega
  unfold opf
  rw [key, wrap_id hx]
theorem opf_neut' (o : Op) (h : folds o = true) {x : Int} (hx : W x) : opf o (neut o) x = x := by
  rw [opf_comm o h, opf_neut o h hx]
/-! ### what the top has written -/
theorem pe_gq {X : Cx} {x : Str} {v : V} {pos : Pos} (hg : Gl X x) (h : ∃ u, X.mg x = some u ∧ RelV v u) (hd : (x == ("__debug__" : Str)) = false := by decide) : PE X (.Name x pos) (tC v) := by
  obtain ⟨u, hm, r⟩ := h
  exact pe_glob hg hm r hd
structure Tx (w : World) (K : PySem.W.Frag) (mg : Str → Option Value) where
  a_wrapped : Addr
  d_wrapped : FuncData
  F_wrapped : Fun K "wrapped" "wrapped" s_wrapped a_wrapped d_wrapped
  b_wrapped : Binds K d_wrapped ["number"] []
  g_wrapped : mg "wrapped" = some (.ref a_wrapped)
  a_sum_of : Addr
  d_sum_of : FuncData
  F_sum_of : Fun K "sum_of" "sum_of" s_sum_of a_sum_of d_sum_of
  b_sum_of : Binds K d_sum_of ["a", "b"] []
  g_sum_of : mg "sum_of" = some (.ref a_sum_of)
  a_difference : Addr
  d_difference : FuncData
  F_difference : Fun K "difference" "difference" s_difference a_difference d_difference
  b_difference : Binds K d_difference ["a", "b"] []
  g_difference : mg "difference" = some (.ref a_difference)
  a_product_of : Addr
  d_product_of : FuncData
  F_product_of : Fun K "product_of" "product_of" s_product_of a_product_of d_product_of
  b_product_of : Binds K d_product_of ["a", "b"] []
  g_product_of : mg "product_of" = some (.ref a_product_of)
  a_quotient : Addr
  d_quotient : FuncData
  F_quotient : Fun K "quotient" "quotient" s_quotient a_quotient d_quotient
  b_quotient : Binds K d_quotient ["a", "b"] []
  g_quotient : mg "quotient" = some (.ref a_quotient)
  a_remainder : Addr
  d_remainder : FuncData
  F_remainder : Fun K "remainder" "remainder" s_remainder a_remainder d_remainder
  b_remainder : Binds K d_remainder ["a", "b"] []
  g_remainder : mg "remainder" = some (.ref a_remainder)
  a_bits_of_both : Addr
  d_bits_of_both : FuncData
  F_bits_of_both : Fun K "bits_of_both" "bits_of_both" s_bits_of_both a_bits_of_both d_bits_of_both
  b_bits_of_both : Binds K d_bits_of_both ["a", "b"] []
  g_bits_of_both : mg "bits_of_both" = some (.ref a_bits_of_both)
  a_bits_of_any : Addr
  d_bits_of_any : FuncData
  F_bits_of_any : Fun K "bits_of_any" "bits_of_any" s_bits_of_any a_bits_of_any d_bits_of_any
  b_bits_of_any : Binds K d_bits_of_any ["a", "b"] []
  g_bits_of_any : mg "bits_of_any" = some (.ref a_bits_of_any)
  a_bits_of_one : Addr
  d_bits_of_one : FuncData
  F_bits_of_one : Fun K "bits_of_one" "bits_of_one" s_bits_of_one a_bits_of_one d_bits_of_one
  b_bits_of_one : Binds K d_bits_of_one ["a", "b"] []
  g_bits_of_one : mg "bits_of_one" = some (.ref a_bits_of_one)
  a_shifted_left : Addr
  d_shifted_left : FuncData
  F_shifted_left : Fun K "shifted_left" "shifted_left" s_shifted_left a_shifted_left d_shifted_left
  b_shifted_left : Binds K d_shifted_left ["a", "b"] []
  g_shifted_left : mg "shifted_left" = some (.ref a_shifted_left)
  a_shifted_right : Addr
  d_shifted_right : FuncData
  F_shifted_right : Fun K "shifted_right" "shifted_right" s_shifted_right a_shifted_right d_shifted_right
  b_shifted_right : Binds K d_shifted_right ["a", "b"] []
  g_shifted_right : mg "shifted_right" = some (.ref a_shifted_right)
  a_is_less : Addr
  d_is_less : FuncData
  F_is_less : Fun K "is_less" "is_less" s_is_less a_is_less d_is_less
  b_is_less : Binds K d_is_less ["a", "b"] []
  g_is_less : mg "is_less" = some (.ref a_is_less)
  a_is_at_most : Addr
  d_is_at_most : FuncData
  F_is_at_most : Fun K "is_at_most" "is_at_most" s_is_at_most a_is_at_most d_is_at_most
  b_is_at_most : Binds K d_is_at_most ["a", "b"] []
  g_is_at_most : mg "is_at_most" = some (.ref a_is_at_most)
  a_is_equal : Addr
  d_is_equal : FuncData
  F_is_equal : Fun K "is_equal" "is_equal" s_is_equal a_is_equal d_is_equal
  b_is_equal : Binds K d_is_equal ["a", "b"] []
  g_is_equal : mg "is_equal" = some (.ref a_is_equal)
  a_is_other : Addr
  d_is_other : FuncData
  F_is_other : Fun K "is_other" "is_other" s_is_other a_is_other d_is_other
  b_is_other : Binds K d_is_other ["a", "b"] []
  g_is_other : mg "is_other" = some (.ref a_is_other)
  a_lesser : Addr
  d_lesser : FuncData
  F_lesser : Fun K "lesser" "lesser" s_lesser a_lesser d_lesser
  b_lesser : Binds K d_lesser ["a", "b"] []
  g_lesser : mg "lesser" = some (.ref a_lesser)
  a_greater : Addr
  d_greater : FuncData
  F_greater : Fun K "greater" "greater" s_greater a_greater d_greater
  b_greater : Binds K d_greater ["a", "b"] []
  g_greater : mg "greater" = some (.ref a_greater)
  a_binary : Addr
  d_binary : FuncData
  F_binary : Fun K "binary" "binary" s_binary a_binary d_binary
  b_binary : Binds K d_binary ["op", "a", "b"] []
  g_binary : mg "binary" = some (.ref a_binary)
  a_neutral : Addr
  d_neutral : FuncData
  F_neutral : Fun K "neutral" "neutral" s_neutral a_neutral d_neutral
  b_neutral : Binds K d_neutral ["op"] []
  g_neutral : mg "neutral" = some (.ref a_neutral)
  a_fold : Addr
  d_fold : FuncData
  F_fold : Fun K "fold" "fold" s_fold a_fold d_fold
  b_fold : Binds K d_fold ["op", "words"] []
  g_fold : mg "fold" = some (.ref a_fold)
  a_law_stream : Addr
  d_law_stream : FuncData
  F_law_stream : Fun K "_law_stream" "_law_stream" s_law_stream a_law_stream d_law_stream
  b_law_stream : Binds K d_law_stream ["script"] []
  g_law_stream : mg "_law_stream" = some (.ref a_law_stream)
  a_law_draw : Addr
  d_law_draw : FuncData
  F_law_draw : Fun K "_law_draw" "_law_draw" s_law_draw a_law_draw d_law_draw
  b_law_draw : Binds K d_law_draw ["stream", "many"] []
  g_law_draw : mg "_law_draw" = some (.ref a_law_draw)
  a_law_word : Addr
  d_law_word : FuncData
  F_law_word : Fun K "_law_word" "_law_word" s_law_word a_law_word d_law_word
  b_law_word : Binds K d_law_word ["stream"] []
  g_law_word : mg "_law_word" = some (.ref a_law_word)
  a_law_wrapped : Addr
  d_law_wrapped : FuncData
  F_law_wrapped : Fun K "_law_wrapped" "_law_wrapped" s_law_wrapped a_law_wrapped d_law_wrapped
  b_law_wrapped : Binds K d_law_wrapped ["number"] []
  g_law_wrapped : mg "_law_wrapped" = some (.ref a_law_wrapped)
  a_law_bits : Addr
  d_law_bits : FuncData
  F_law_bits : Fun K "_law_bits" "_law_bits" s_law_bits a_law_bits d_law_bits
  b_law_bits : Binds K d_law_bits ["op", "a", "b"] []
  g_law_bits : mg "_law_bits" = some (.ref a_law_bits)
  a_law_shifted : Addr
  d_law_shifted : FuncData
  F_law_shifted : Fun K "_law_shifted" "_law_shifted" s_law_shifted a_law_shifted d_law_shifted
  b_law_shifted : Binds K d_law_shifted ["op", "a", "b"] []
  g_law_shifted : mg "_law_shifted" = some (.ref a_law_shifted)
  a_law_binary : Addr
  d_law_binary : FuncData
  F_law_binary : Fun K "_law_binary" "_law_binary" s_law_binary a_law_binary d_law_binary
  b_law_binary : Binds K d_law_binary ["op", "a", "b"] []
  g_law_binary : mg "_law_binary" = some (.ref a_law_binary)
  a_law : Addr
  d_law : FuncData
  F_law : Fun K "law" "law" s_law a_law d_law
  g_law : mg "law" = some (.ref a_law)
  z_abs : mg "abs" = none
  z_any : mg "any" = none
  z_int : mg "int" = none
  z_len : mg "len" = none
  z_list : mg "list" = none
  z_max : mg "max" = none
  z_min : mg "min" = none
  z_range : mg "range" = none
  q_LEAST : ∃ u, mg "LEAST" = some u ∧ RelV (.int (-2147483648)) u
  a_FOLDING : Addr
  q_FOLDING : ∃ u, mg "FOLDING" = some u ∧ RelV (.ref a_FOLDING) u
  t_FOLDING : ∃ (o : Obj) (its : Array Value) (n : Nat), K.lookup a_FOLDING = some o ∧ o.cls = .type "tuple" ∧ o.data = .seq its n ∧ its.size ≤ sizeLine ∧ Vals ([.str "add", .str "min", .str "max", .str "and", .str "or", .str "xor"]) its.toList
  a_NEUTRAL : Addr
  q_NEUTRAL : ∃ u, mg "NEUTRAL" = some u ∧ RelV (.ref a_NEUTRAL) u
  k_NEUTRAL_add : KDct K w a_NEUTRAL "add" (.int (0))
  k_NEUTRAL_min : KDct K w a_NEUTRAL "min" (.int (2147483647))
  k_NEUTRAL_max : KDct K w a_NEUTRAL "max" (.int (-2147483648))
  k_NEUTRAL_and : KDct K w a_NEUTRAL "and" (.int (-1))
  k_NEUTRAL_or : KDct K w a_NEUTRAL "or" (.int (0))
  k_NEUTRAL_xor : KDct K w a_NEUTRAL "xor" (.int (0))
  a_BINARY_ACTIONS : Addr
  q_BINARY_ACTIONS : ∃ u, mg "BINARY_ACTIONS" = some u ∧ RelV (.ref a_BINARY_ACTIONS) u
  k_BINARY_ACTIONS_add : KDct K w a_BINARY_ACTIONS "add" (.ref a_sum_of)
  k_BINARY_ACTIONS_sub : KDct K w a_BINARY_ACTIONS "sub" (.ref a_difference)
  k_BINARY_ACTIONS_mul : KDct K w a_BINARY_ACTIONS "mul" (.ref a_product_of)
  k_BINARY_ACTIONS_div : KDct K w a_BINARY_ACTIONS "div" (.ref a_quotient)
  k_BINARY_ACTIONS_rem : KDct K w a_BINARY_ACTIONS "rem" (.ref a_remainder)
  k_BINARY_ACTIONS_and : KDct K w a_BINARY_ACTIONS "and" (.ref a_bits_of_both)
  k_BINARY_ACTIONS_or : KDct K w a_BINARY_ACTIONS "or" (.ref a_bits_of_any)
  k_BINARY_ACTIONS_xor : KDct K w a_BINARY_ACTIONS "xor" (.ref a_bits_of_one)
  k_BINARY_ACTIONS_shl : KDct K w a_BINARY_ACTIONS "shl" (.ref a_shifted_left)
  k_BINARY_ACTIONS_shr : KDct K w a_BINARY_ACTIONS "shr" (.ref a_shifted_right)
  k_BINARY_ACTIONS_lt : KDct K w a_BINARY_ACTIONS "lt" (.ref a_is_less)
  k_BINARY_ACTIONS_le : KDct K w a_BINARY_ACTIONS "le" (.ref a_is_at_most)
  k_BINARY_ACTIONS_eq : KDct K w a_BINARY_ACTIONS "eq" (.ref a_is_equal)
  k_BINARY_ACTIONS_ne : KDct K w a_BINARY_ACTIONS "ne" (.ref a_is_other)
  k_BINARY_ACTIONS_min : KDct K w a_BINARY_ACTIONS "min" (.ref a_lesser)
  k_BINARY_ACTIONS_max : KDct K w a_BINARY_ACTIONS "max" (.ref a_greater)

/-! ### promises -/
def sp1 (g : Int → Int) : Sp := fun vs H Q _ => ∃ n : Int, vs = [.int n] ∧ Q (.int (g n)) H
def spAct (o : Op) : Sp := fun vs H Q _ => ∃ a b : Int, vs = [.int a, .int b] ∧ W a ∧ W b ∧ Q (.int (act o a b)) H
def spU (o : Uop) : Sp := fun vs H Q _ => ∃ a : Int, vs = [.int a] ∧ W a ∧ Q (.int (uact o a)) H
def spBinary : Sp := fun vs H Q _ => ∃ (o : Op) (a b : Int), vs = [.str o.s, .int a, .int b] ∧ W a ∧ W b ∧ Q (.int (wrap (act o a b))) H
-- 
def spUnary : Sp := fun vs H Q _ => ∃ (o : Uop) (a : Int), vs = [.str o.s, .int a] ∧ W a ∧ Q (.int (wrap (uact o a))) H
section
variable {P : Program} {w : World} {K : PySem.W.Frag} {mg : Str → Option Value} {base : Heap}
theorem ok_wrapped (T : Tx w K mg) : FnOk P w K mg base CX0 1 T.a_wrapped T.d_wrapped ["number"] (sp1 wrap) := by
  refine T.F_wrapped.ok sc_wrapped (fun vs H Q E h => ?_) (fun cdv A outer s H vs Q E hr h => ?_)
  · obtain ⟨n, rfl, _⟩ := h
    rfl
  · obtain ⟨n, rfl, q⟩ := h
    refine ⟨_, (pss_one (ps_ret (pe_op op_add (pe_op op_mod (pe_op op_sub (pv 0) (pe_gq (by rfl) T.q_LEAST)) (pe_op op_pow pe_int pe_int)) (pe_gq (by rfl) T.q_LEAST)))), ?_⟩
    exact ⟨_, rfl, _, _, rfl, rfl, _, _, rfl, rfl, ⟨by decide, by decide, by decide⟩, _, _, rfl, rfl, by show (0 : Int) < 2 ^ (32 : Int).toNat; decide, _, _, rfl, rfl, q⟩
theorem ok_sum_of (T : Tx w K mg) : FnOk P w K mg base CX0 1 T.a_sum_of T.d_sum_of ["a", "b"] (spAct .add) := by
  refine T.F_sum_of.ok sc_sum_of (fun vs H Q E h => ?_) (fun cdv A outer s H vs Q E hr h => ?_)
  · obtain ⟨a, b, rfl, _⟩ := h
    rfl
  · obtain ⟨a, b, rfl, wa, wb, q⟩ := h
    refine ⟨_, (pss_one (ps_ret (pe_op op_add (pv 0) (pv 1)))), ?_⟩
    exact ⟨_, rfl, _, rfl, _, _, rfl, rfl, q⟩
theorem ok_difference (T : Tx w K mg) : FnOk P w K mg base CX0 1 T.a_difference T.d_difference ["a", "b"] (spAct .sub) := by
  refine T.F_difference.ok sc_difference (fun vs H Q E h => ?_) (fun cdv A outer s H vs Q E hr h => ?_)
  · obtain ⟨a, b, rfl, _⟩ := h
    rfl
  · obtain ⟨a, b, rfl, wa, wb, q⟩ := h
    refine ⟨_, (pss_one (ps_ret (pe_op op_sub (pv 0) (pv 1)))), ?_⟩
    exact ⟨_, rfl, _, rfl, _, _, rfl, rfl, q⟩
theorem ok_product_of (T : Tx w K mg) : FnOk P w K mg base CX0 1 T.a_product_of T.d_product_of ["a", "b"] (spAct .mul) := by
  refine T.F_product_of.ok sc_product_of (fun vs H Q E h => ?_) (fun cdv A outer s H vs Q E hr h => ?_)
  · obtain ⟨a, b, rfl, _⟩ := h
    rfl
  · obtain ⟨a, b, rfl, wa, wb, q⟩ := h
    refine ⟨_, (pss_one (ps_ret (pe_op op_mul (pv 0) (pv 1)))), ?_⟩
    exact ⟨_, rfl, _, rfl, _, _, rfl, rfl, .inl ⟨by unfold W at wa; omega, by unfold W at wa; omega⟩, q⟩
theorem ok_bits_of_both (T : Tx w K mg) : FnOk P w K mg base CX0 1 T.a_bits_of_both T.d_bits_of_both ["a", "b"] (spAct .and) := by
  refine T.F_bits_of_both.ok sc_bits_of_both (fun vs H Q E h => ?_) (fun cdv A outer s H vs Q E hr h => ?_)
  · obtain ⟨a, b, rfl, _⟩ := h
    rfl
  · obtain ⟨a, b, rfl, wa, wb, q⟩ := h
    refine ⟨_, (pss_one (ps_ret (pe_op op_and (pv 0) (pv 1)))), ?_⟩
    exact ⟨_, rfl, _, rfl, _, _, rfl, rfl, q⟩
theorem ok_bits_of_any (T : Tx w K mg) : FnOk P w K mg base CX0 1 T.a_bits_of_any T.d_bits_of_any ["a", "b"] (spAct .or) := by
  refine T.F_bits_of_any.ok sc_bits_of_any (fun vs H Q E h => ?_) (fun cdv A outer s H vs Q E hr h => ?_)
  · obtain ⟨a, b, rfl, _⟩ := h
    rfl
  · obtain ⟨a, b, rfl, wa, wb, q⟩ := h
    refine ⟨_, (pss_one (ps_ret (pe_op op_or (pv 0) (pv 1)))), ?_⟩
    exact ⟨_, rfl, _, rfl, _, _, rfl, rfl, q⟩
theorem ok_bits_of_one (T : Tx w K mg) : FnOk P w K mg base CX0 1 T.a_bits_of_one T.d_bits_of_one ["a", "b"] (spAct .xor) := by
  refine T.F_bits_of_one.ok sc_bits_of_one (fun vs H Q E h => ?_) (fun cdv A outer s H vs Q E hr h => ?_)
  · obtain ⟨a, b, rfl, _⟩ := h
    rfl
  · obtain ⟨a, b, rfl, wa, wb, q⟩ := h
    refine ⟨_, (pss_one (ps_ret (pe_op op_xor (pv 0) (pv 1)))), ?_⟩
    exact ⟨_, rfl, _, rfl, _, _, rfl, rfl, q⟩
theorem ok_shifted_left (T : Tx w K mg) : FnOk P w K mg base CX0 1 T.a_shifted_left T.d_shifted_left ["a", "b"] (spAct .shl) := by
  refine T.F_shifted_left.ok sc_shifted_left (fun vs H Q E h => ?_) (fun cdv A outer s H vs Q E hr h => ?_)
  · obtain ⟨a, b, rfl, _⟩ := h
    rfl
  · obtain ⟨a, b, rfl, wa, wb, q⟩ := h
    refine ⟨_, (pss_one (ps_ret (pe_op op_shl (pv 0) (pe_op op_and (pv 1) pe_int)))), ?_⟩
    have e := bitAnd_m5 b
    exact ⟨_, rfl, _, rfl, _, _, rfl, rfl, _, _, rfl, rfl, ⟨by rw [e]; omega, by rw [e]; omega, by unfold W at wa; omega⟩, q⟩
theorem ok_shifted_right (T : Tx w K mg) : FnOk P w K mg base CX0 1 T.a_shifted_right T.d_shifted_right ["a", "b"] (spAct .shr) := by
  refine T.F_shifted_right.ok sc_shifted_right (fun vs H Q E h => ?_) (fun cdv A outer s H vs Q E hr h => ?_)
  · obtain ⟨a, b, rfl, _⟩ := h
    rfl
  · obtain ⟨a, b, rfl, wa, wb, q⟩ := h
    refine ⟨_, (pss_one (ps_ret (pe_op op_shr (pv 0) (pe_op op_and (pv 1) pe_int)))), ?_⟩
    have e := bitAnd_m5 b
    exact ⟨_, rfl, _, rfl, _, _, rfl, rfl, _, _, rfl, rfl, by show 0 ≤ Builtin.bitAnd b 31; rw [e]; omega, q⟩
theorem ok_is_less (T : Tx w K mg) : FnOk P w K mg base CX0 1 T.a_is_less T.d_is_less ["a", "b"] (spAct .lt) := by
  refine T.F_is_less.ok sc_is_less (fun vs H Q E h => ?_) (fun cdv A outer s H vs Q E hr h => ?_)
  · obtain ⟨a, b, rfl, _⟩ := h
    rfl
  · obtain ⟨a, b, rfl, wa, wb, q⟩ := h
    refine ⟨_, (pss_one (ps_ret (pe_ifExp (pt_cmpR op_lt (pv 0) (pv 1) (nomark _)) pe_int pe_int))), ?_⟩
    refine ⟨_, rfl, _, rfl, _, _, rfl, rfl, _, rfl, ite2 (fun e => ?_) (fun e => ?_)⟩
    · have hc : a < b := of_decide_eq_true e
      have e2 : act .lt a b = 1 := if_pos hc
      rw [e2] at q
      exact q
    · have hc : ¬ (a < b) := fun z => e (decide_eq_true z)
      have e2 : act .lt a b = 0 := if_neg hc
      rw [e2] at q
      exact q
theorem ok_is_at_most (T : Tx w K mg) : FnOk P w K mg base CX0 1 T.a_is_at_most T.d_is_at_most ["a", "b"] (spAct .le) := by
  refine T.F_is_at_most.ok sc_is_at_most (fun vs H Q E h => ?_) (fun cdv A outer s H vs Q E hr h => ?_)
  · obtain ⟨a, b, rfl, _⟩ := h
    rfl
  · obtain ⟨a, b, rfl, wa, wb, q⟩ := h
    refine ⟨_, (pss_one (ps_ret (pe_ifExp (pt_cmpR op_le (pv 0) (pv 1) (nomark _)) pe_int pe_int))), ?_⟩
    refine ⟨_, rfl, _, rfl, _, _, rfl, rfl, _, rfl, ite2 (fun e => ?_) (fun e => ?_)⟩
    · have hc : a ≤ b := of_decide_eq_true e
      have e2 : act .le a b = 1 := if_pos hc
      rw [e2] at q
      exact q
    · have hc : ¬ (a ≤ b) := fun z => e (decide_eq_true z)
      have e2 : act .le a b = 0 := if_neg hc
      rw [e2] at q
      exact q
theorem ok_is_equal (T : Tx w K mg) : FnOk P w K mg base CX0 1 T.a_is_equal T.d_is_equal ["a", "b"] (spAct .eq) := by
  refine T.F_is_equal.ok sc_is_equal (fun vs H Q E h => ?_) (fun cdv A outer s H vs Q E hr h => ?_)
  · obtain ⟨a, b, rfl, _⟩ := h
    rfl
  · obtain ⟨a, b, rfl, wa, wb, q⟩ := h
    refine ⟨_, (pss_one (ps_ret (pe_ifExp (pt_cmpR op_eq (pv 0) (pv 1) (nomark _)) pe_int pe_int))), ?_⟩
    refine ⟨_, rfl, _, rfl, rfl, _, rfl, ite2 (fun e => ?_) (fun e => ?_)⟩
    · have hc : a = b := V.int.inj (of_decide_eq_true e)
      have e2 : act .eq a b = 1 := if_pos hc
      rw [e2] at q
      exact q
    · have hc : ¬ (a = b) := fun z => e (decide_eq_true (by rw [z]))
      have e2 : act .eq a b = 0 := if_neg hc
      rw [e2] at q
      exact q
theorem ok_is_other (T : Tx w K mg) : FnOk P w K mg base CX0 1 T.a_is_other T.d_is_other ["a", "b"] (spAct .ne) := by
  refine T.F_is_other.ok sc_is_other (fun vs H Q E h => ?_) (fun cdv A outer s H vs Q E hr h => ?_)
  · obtain ⟨a, b, rfl, _⟩ := h
    rfl
  · obtain ⟨a, b, rfl, wa, wb, q⟩ := h
    refine ⟨_, (pss_one (ps_ret (pe_ifExp (pt_cmpR op_ne (pv 0) (pv 1) (nomark _)) pe_int pe_int))), ?_⟩
    refine ⟨_, rfl, _, rfl, rfl, _, rfl, ite2 (fun e => ?_) (fun e => ?_)⟩
    · have hc : a ≠ b := fun z => by subst z; simp at e
      have e2 : act .ne a b = 1 := if_pos hc
      rw [e2] at q
      exact q
    · have hc : ¬ (a ≠ b) := fun z => e (by simpa using z)
      have e2 : act .ne a b = 0 := if_neg hc
      rw [e2] at q
      exact q
theorem ok_lesser (T : Tx w K mg) : FnOk P w K mg base CX0 1 T.a_lesser T.d_lesser ["a", "b"] (spAct .min) := by
  refine T.F_lesser.ok sc_lesser (fun vs H Q E h => ?_) (fun cdv A outer s H vs Q E hr h => ?_)
  · obtain ⟨a, b, rfl, _⟩ := h
    rfl
  · obtain ⟨a, b, rfl, wa, wb, q⟩ := h
    refine ⟨_, (pss_one (ps_ret (pe_ifExp (pt_cmpR op_lt (pv 0) (pv 1) (nomark _)) (pv 0) (pv 1)))), ?_⟩
    refine ⟨_, rfl, _, rfl, _, _, rfl, rfl, _, rfl, ite2 (fun e => ?_) (fun e => ?_)⟩
    · have e2 : act .min a b = a := if_pos (of_decide_eq_true e)
      rw [e2] at q
      exact ⟨_, rfl, q⟩
    · have e2 : act .min a b = b := if_neg fun z => e (decide_eq_true z)
      rw [e2] at q
      exact ⟨_, rfl, q⟩
theorem ok_greater (T : Tx w K mg) : FnOk P w K mg base CX0 1 T.a_greater T.d_greater ["a", "b"] (spAct .max) := by
  refine T.F_greater.ok sc_greater (fun vs H Q E h => ?_) (fun cdv A outer s H vs Q E hr h => ?_)
  · obtain ⟨a, b, rfl, _⟩ := h
    rfl
  · obtain ⟨a, b, rfl, wa, wb, q⟩ := h
    refine ⟨_, (pss_one (ps_ret (pe_ifExp (pt_cmpR op_gt (pv 0) (pv 1) (nomark _)) (pv 0) (pv 1)))), ?_⟩
    refine ⟨_, rfl, _, rfl, _, _, rfl, rfl, _, rfl, ite2 (fun e => ?_) (fun e => ?_)⟩
    · have e2 : act .max a b = a := if_pos (of_decide_eq_true e)
      rw [e2] at q
      exact ⟨_, rfl, q⟩
    · have e2 : act .max a b = b := if_neg fun z => e (decide_eq_true z)
      rw [e2] at q
      exact ⟨_, rfl, q⟩
theorem ok_quotient (T : Tx w K mg) : FnOk P w K mg base CX0 1 T.a_quotient T.d_quotient ["a", "b"] (spAct .div) := by
  refine T.F_quotient.ok sc_quotient (fun vs H Q E h => ?_) (fun cdv A outer s H vs Q E hr h => ?_)
  · obtain ⟨a, b, rfl, _⟩ := h
    rfl
  · obtain ⟨a, b, rfl, wa, wb, q⟩ := h
    refine ⟨_, (pss_cons (ps_if (pt_cmpR op_eq (pv 1) pe_int (nomark _)) (pss_one (ps_ret pe_int)) pss_nil)
      (pss_cons (ps_set (i := 2) sc_quotient.nd rfl (.inl rfl) (pe_op op_fdivW (pe_callB call_abs (by rfl) T.z_abs (by decide +kernel) (pa_cons (pv 0) pa_nil)) (pe_callB call_abs (by rfl) T.z_abs (by decide +kernel) (pa_cons (pv 1) pa_nil))))
      (pss_one (ps_ret (pe_ifExp (pt_cmpR op_eq (pe_cmpR op_lt (pv 0) pe_int (nomark _)) (pe_cmpR op_lt (pv 1) pe_int (nomark _)) (nomark _)) (pv 2) (pe_un un_neg (pv 2))))))), ?_⟩
    refine ⟨_, rfl, rfl, _, rfl, ite2 (fun e => ?_) (fun e => ?_)⟩
    · have hb : b = 0 := V.int.inj (of_decide_eq_true e)
      have e2 : act .div a b = 0 := if_pos hb
      rw [e2] at q
      exact q
    · have hb : ¬ b = 0 := fun z => e (decide_eq_true (by rw [z]))
      have e2 : act .div a b = if decide (a < 0) = decide (b < 0) then ab a / ab b else -(ab a / ab b) := if_neg hb
      rw [e2] at q
      refine ⟨_, rfl, _, rfl, _, rfl, _, rfl, _, _, rfl, rfl, ?_, ?_⟩
      · have h1 : (0 : Int) < ab b := by unfold ab; split <;> omega
        have h2 : (ab b).natAbs < 2 ^ 32 := by unfold W at wb; unfold ab; split <;> omega
        exact wide_div h1 h2 (by decide) (by decide)
      · refine ⟨_, rfl, _, _, rfl, rfl, _, rfl, _, _, rfl, rfl, rfl, _, rfl, ite2 (fun z => ?_) (fun z => ?_)⟩
        · rw [if_pos (V.bl.inj (of_decide_eq_true z))] at q
          exact ⟨_, rfl, q⟩
        · rw [if_neg fun y => z (decide_eq_true (congrArg V.bl y))] at q
          exact ⟨_, rfl, _, rfl, q⟩
theorem ok_remainder (T : Tx w K mg) : FnOk P w K mg base CX0 2 T.a_remainder T.d_remainder ["a", "b"] (spAct .rem) := by
  refine T.F_remainder.ok sc_remainder (fun vs H Q E h => ?_) (fun cdv A outer s H vs Q E hr h => ?_)
  · obtain ⟨a, b, rfl, _⟩ := h
    rfl
  · obtain ⟨a, b, rfl, wa, wb, q⟩ := h
    refine ⟨_, (pss_one (ps_ret (pe_ifExp (pt_cmpR op_eq (pv 1) pe_int (nomark _)) pe_int (pe_op op_sub (pv 0) (pe_op op_mul (pv 1) (pe_call (ok_quotient T) (hr.mono (by decide)) (by rfl) T.g_quotient T.F_quotient.kp T.b_quotient .nil pass0 (pa_cons (pv 0) (pa_cons (pv 1) pa_nil)))))))), ?_⟩
    refine ⟨_, rfl, rfl, _, rfl, ite2 (fun e => ?_) (fun e => ?_)⟩
    · have hb : b = 0 := V.int.inj (of_decide_eq_true e)
      have e2 : act .rem a b = 0 := if_pos hb
      rw [e2] at q
      exact q
    · have hb : ¬ b = 0 := fun z => e (decide_eq_true (by rw [z]))
      have e2 : act .rem a b = a - b * quo a b := if_neg hb
      rw [e2] at q
      exact ⟨_, rfl, _, rfl, _, rfl, _, rfl, _, _, rfl, wa, wb, _, _, rfl, rfl, .inl ⟨by unfold W at wb; omega, by unfold W at wb; omega⟩, _, _, rfl, rfl, q⟩
/-- the action of an operator: where the table holds it, and what it promises -/
theorem act_at (T : Tx w K mg) : ∀ o : Op, ∃ f : Addr, KDct K w T.a_BINARY_ACTIONS o.s (.ref f) ∧ Held P w K mg base 2 f (spAct o)
  | .add => ⟨_, T.k_BINARY_ACTIONS_add, ⟨_, _, (ok_sum_of T).mono (by decide), T.F_sum_of.kp, T.b_sum_of⟩⟩
  | .sub => ⟨_, T.k_BINARY_ACTIONS_sub, ⟨_, _, (ok_difference T).mono (by decide), T.F_difference.kp, T.b_difference⟩⟩
  | .mul => ⟨_, T.k_BINARY_ACTIONS_mul, ⟨_, _, (ok_product_of T).mono (by decide), T.F_product_of.kp, T.b_product_of⟩⟩
  | .div => ⟨_, T.k_BINARY_ACTIONS_div, ⟨_, _, (ok_quotient T).mono (by decide), T.F_quotient.kp, T.b_quotient⟩⟩
  | .rem => ⟨_, T.k_BINARY_ACTIONS_rem, ⟨_, _, ok_remainder T, T.F_remainder.kp, T.b_remainder⟩⟩
  | .and => ⟨_, T.k_BINARY_ACTIONS_and, ⟨_, _, (ok_bits_of_both T).mono (by decide), T.F_bits_of_both.kp, T.b_bits_of_both⟩⟩
  | .or => ⟨_, T.k_BINARY_ACTIONS_or, ⟨_, _, (ok_bits_of_any T).mono (by decide), T.F_bits_of_any.kp, T.b_bits_of_any⟩⟩
  | .xor => ⟨_, T.k_BINARY_ACTIONS_xor, ⟨_, _, (ok_bits_of_one T).mono (by decide), T.F_bits_of_one.kp, T.b_bits_of_one⟩⟩
  | .shl => ⟨_, T.k_BINARY_ACTIONS_shl, ⟨_, _, (ok_shifted_left T).mono (by decide), T.F_shifted_left.kp, T.b_shifted_left⟩⟩
  | .shr => ⟨_, T.k_BINARY_ACTIONS_shr, ⟨_, _, (ok_shifted_right T).mono (by decide), T.F_shifted_right.kp, T.b_shifted_right⟩⟩
  | .lt => ⟨_, T.k_BINARY_ACTIONS_lt, ⟨_, _, (ok_is_less T).mono (by decide), T.F_is_less.kp, T.b_is_less⟩⟩
  | .le => ⟨_, T.k_BINARY_ACTIONS_le, ⟨_, _, (ok_is_at_most T).mono (by decide), T.F_is_at_most.kp, T.b_is_at_most⟩⟩
  | .eq => ⟨_, T.k_BINARY_ACTIONS_eq, ⟨_, _, (ok_is_equal T).mono (by decide), T.F_is_equal.kp, T.b_is_equal⟩⟩
  | .ne => ⟨_, T.k_BINARY_ACTIONS_ne, ⟨_, _, (ok_is_other T).mono (by decide), T.F_is_other.kp, T.b_is_other⟩⟩
  | .min => ⟨_, T.k_BINARY_ACTIONS_min, ⟨_, _, (ok_lesser T).mono (by decide), T.F_lesser.kp, T.b_lesser⟩⟩
  | .max => ⟨_, T.k_BINARY_ACTIONS_max, ⟨_, _, (ok_greater T).mono (by decide), T.F_greater.kp, T.b_greater⟩⟩
theorem ok_binary (T : Tx w K mg) : FnOk P w K mg base CX0 3 T.a_binary T.d_binary ["op", "a", "b"] spBinary := by
  refine T.F_binary.ok sc_binary (fun vs H Q E h => ?_) (fun cdv A outer s H vs Q E hr h => ?_)
  · obtain ⟨o, a, b, rfl, _⟩ := h
    rfl
  · obtain ⟨o, a, b, rfl, wa, wb, q⟩ := h
    obtain ⟨f, kd, hf⟩ := act_at (P := P) (base := base) T o
    have A0 : ∀ (x : Addr) (sp : Sp), (if x = f then some (spAct o) else none) = some sp → Held P w K mg base 2 x sp := fun x sp e => by
      by_cases z : x = f
      · rw [if_pos z] at e
        cases e
        rw [z]
        exact hf
      · rw [if_neg z] at e
        cases e
    refine ⟨_, (pss_cons (ps_set (i := 3) sc_binary.nd rfl (.inl rfl) (pe_ix ix_kdict (pe_gq (by rfl) T.q_BINARY_ACTIONS) (pv 0) (fun _ _ => rfl)))
      (pss_one (ps_ret (pe_call (ok_wrapped T) (hr.mono (by decide)) (by rfl) T.g_wrapped T.F_wrapped.kp T.b_wrapped .nil pass0 (pa_cons (pe_callA (i := 3) A0 hr rfl (.inl rfl) (pa_cons (pv 1) (pa_cons (pv 2) pa_nil))) pa_nil))))), ?_⟩
    exact ⟨_, rfl, _, _, _, rfl, rfl, kd, f, spAct o, rfl, if_pos rfl, _, rfl, _, rfl, a, b, rfl, wa, wb, _, rfl, q⟩

/-! ### the law's stream of draws -/
/-- at p: a stream; which numbers it gives is left open -/
def Strm (q : Addr) (H : Hp) (p : Addr) : Prop := ∃ (cur pos mixed : Int) (ns : List Int), H p = some (.lst [.ref q, .int cur, .int pos, .int mixed]) ∧ H q = some (.lst (ns.map V.int)) ∧
  0 ≤ cur ∧ 0 ≤ pos ∧ pos ≤ ns.length ∧ ns.length ≤ 63 ∧ 0 ≤ mixed ∧ mixed < 2147483647
def But (p : Addr) (H H' : Hp) : Prop := ∀ b o, b ≠ p → H b = some o → H' b = some o
theorem But.refl {p : Addr} {H : Hp} : But p H H := fun _ _ _ h => h
theorem But.trans {p : Addr} {H H1 H2 : Hp} (a : But p H H1) (b : But p H1 H2) : But p H H2 := fun c o n h => b c o n (a c o n h)
theorem But.same {p : Addr} {H H1 H2 : Hp} (a : But p H H1) (b : Same H1 H2) : But p H H2 := fun c o n h => b c o (a c o n h)
theorem But.upd {p : Addr} {H H1 : Hp} {o : HO} (a : But p H H1) : But p H (L2.upd H1 p o) := fun c u n h => by rw [upd_ne n]; exact a c u n h
theorem same_new {H : Hp} {p : Addr} {o : HO} (h : H p = none) : Same H (upd H p o) := fun b x e => by
  rw [upd_ne (ne_of_none e h)]
  exact e
theorem Strm.same {q : Addr} {H H' : Hp} {p : Addr} (s : Strm q H p) (h : Same H H') : Strm q H' p := by
  obtain ⟨cur, pos, mixed, ns, e1, e2, r⟩ := s
  exact ⟨cur, pos, mixed, ns, h _ _ e1, h _ _ e2, r⟩
theorem Strm.upd {q : Addr} {H : Hp} {p D : Addr} {o : HO} (s : Strm q H p) (np : D ≠ p) (nq : D ≠ q) : Strm q (upd H D o) p := by
  obtain ⟨cur, pos, mixed, ns, e1, e2, r⟩ := s
  exact ⟨cur, pos, mixed, ns, by rw [upd_ne np.symm]; exact e1, by rw [upd_ne nq.symm]; exact e2, r⟩
theorem Strm.nep {q : Addr} {H : Hp} {p D : Addr} (s : Strm q H p) (h : H D = none) : D ≠ p := fun e => by
  obtain ⟨cur, pos, mixed, ns, e1, _⟩ := s
  rw [e, e1] at h
  cases h
theorem Strm.neq {q : Addr} {H : Hp} {p D : Addr} (s : Strm q H p) (h : H D = none) : D ≠ q := fun e => by
  obtain ⟨cur, pos, mixed, ns, _, e2, _⟩ := s
  rw [e, e2] at h
  cases h
theorem Strm.pq {q : Addr} {H : Hp} {p : Addr} (s : Strm q H p) : q ≠ p := fun z => by
  obtain ⟨cur, pos, mixed, ns, e1, e2, _⟩ := s
  rw [z, e1] at e2
  cases ns with
  | nil => cases e2
  | cons x r => cases e2
def sp_law_stream (K : PySem.W.Frag) : Sp := fun vs H Q _ => ∃ (a : Addr) (ns : List Int), vs = [.ref a] ∧ SqL K H a (ns.map V.int) ∧ ns.length ≤ 63 ∧ ∀ H' p q, Same H H' → H p = none → H q = none → Strm q H' p → Q (.ref p) H'
def sp_law_draw : Sp := fun vs H Q _ => ∃ (p q : Addr) (many : Int), vs = [.ref p, .int many] ∧ Strm q H p ∧ 0 < many ∧ many < 2 ^ 100 ∧ ∀ (v : Int) H', 0 ≤ v → v < many → But p H H' → Strm q H' p → Q (.int v) H'
theorem ok_law_stream (T : Tx w K mg) : FnOk P w K mg base CX0 1 T.a_law_stream T.d_law_stream ["script"] (sp_law_stream K) := by
  refine T.F_law_stream.ok sc_law_stream (fun vs H Q E h => ?_) (fun cdv A outer s H vs Q E hr h => ?_)
  · obtain ⟨a, ns, rfl, _⟩ := h
    rfl
  · obtain ⟨a, ns, rfl, hS, hlen, q⟩ := h
    refine ⟨_, (pss_cons (ps_set (i := 1) sc_law_stream.nd rfl (.inl rfl) pe_int)
      (pss_cons (ps_for PassesOwn.never rfl (pi_list (pv 0)) (pg_name (i := 2) sc_law_stream.nd rfl (.inl rfl)) (pss_one (ps_set (i := 1) sc_law_stream.nd rfl (.inl rfl) (pe_op op_mod (pe_callTy call_int1 (by rfl) T.z_int (by decide +kernel) (pa_cons (pe_op op_add (pe_op op_add (pe_op op_mul (pv 1) pe_int) (pe_op op_mod (pe_callTy call_int1 (by rfl) T.z_int (by decide +kernel) (pa_cons (pv 2) pa_nil)) pe_int)) pe_int) pa_nil)) pe_int))))
      (pss_one (ps_ret (pe_lst (pa_cons (pe_callTy call_list_of (by rfl) T.z_list (by decide +kernel) (pa_cons (pv 0) pa_nil)) (pa_cons pe_int (pa_cons pe_int (pa_cons (pv 1) pa_nil))))))))), ?_⟩
    refine ⟨_, rfl, a, rfl, ⟨_, hS⟩, for_list (K := K) (a := a) (xs := ns.map V.int) (fun i σ H' => ∃ (m : Int) (c : Option V), σ = [some (.ref a), some (.int m), c] ∧ 0 ≤ m ∧ m < 2147483647 ∧ H' = H) ⟨17, none, rfl, by decide, by decide, rfl⟩ (fun i σ H' _ ⟨_, _, _, _, _, e⟩ => by rw [e]; exact hS) ?_ ?_⟩
    · rintro i x σ H' hx ⟨m, c, rfl, h0, h1, rfl⟩
      obtain ⟨n, rfl⟩ : ∃ n, x = V.int n := by
        rw [List.getElem?_map] at hx
        cases e : ns[i]? with
        | none => rw [e] at hx; cases hx
        | some u => rw [e] at hx; exact ⟨u, (Option.some.inj hx).symm⟩
      refine ⟨_, rfl, _, _, rfl, rfl, .inl ⟨by omega, by omega⟩, _, rfl, .inl ⟨_, rfl, _, _, rfl, rfl, (by show (0 : Int) < 65521; decide), _, _, rfl, rfl, _, _, rfl, rfl, .inl ⟨_, rfl, _, _, rfl, rfl, (by show (0 : Int) < 2147483647; decide), ?_⟩⟩⟩
      exact ⟨_, _, rfl, Int.emod_nonneg _ (by decide), Int.emod_lt_of_pos _ (by decide), rfl⟩
    · rintro σ H' ⟨m, c, rfl, h0, h1, rfl⟩
      refine ⟨_, rfl, a, _, rfl, .inl hS, fun l nl => ⟨_, rfl, (by show 4 ≤ sizeLine; decide), fun p np => ?_⟩⟩
      have npl : p ≠ l := fun e => by rw [e, upd_same] at np; cases np
      have np0 : H' p = none := by rw [upd_ne npl] at np; exact np
      refine q _ p l ((same_new nl).trans (same_new np)) np0 nl ⟨0, 0, m, ns, upd_same, ?_, by decide, by decide, by omega, hlen, h0, h1⟩
      rw [upd_ne npl.symm, upd_same]
theorem ok_law_draw (T : Tx w K mg) : FnOk P w K mg base CX0 1 T.a_law_draw T.d_law_draw ["stream", "many"] sp_law_draw := by
  refine T.F_law_draw.ok sc_law_draw (fun vs H Q E h => ?_) (fun cdv A outer s H vs Q E hr h => ?_)
  · obtain ⟨p, q, many, rfl, _⟩ := h
    rfl
  · obtain ⟨p, q, many, rfl, hS, hm0, hm1, k⟩ := h
    refine ⟨_, (C8.pss_cut (ps_if (PW.pt (pw_and (pt_cmpR op_eq (pe_ix ix_list (pv 0) pe_int (fun _ _ => rfl)) pe_int (nomark _)) (pw_and1 (pt_cmpR op_lt (pe_ix ix_list (pv 0) pe_int (fun _ _ => rfl)) (pe_callB call_len_seq (by rfl) T.z_len (by decide +kernel) (pa_cons (pe_ix ix_list (pv 0) pe_int (fun _ _ => rfl)) pa_nil)) (nomark _))))) (pss_cons (ps_asg (pe_callB call_abs (by rfl) T.z_abs (by decide +kernel) (pa_cons (pe_callTy call_int1 (by rfl) T.z_int (by decide +kernel) (pa_cons (pe_ix ix_list (pe_ix ix_list (pv 0) pe_int (fun _ _ => rfl)) (pe_ix ix_list (pv 0) pe_int (fun _ _ => rfl)) (fun _ _ => rfl)) pa_nil)) pa_nil)) (pg_sub (pv 0) pe_int set_list))
      (pss_one (ps_asg (pe_op op_add (pe_ix ix_list (pv 0) pe_int (fun _ _ => rfl)) pe_int) (pg_sub (pv 0) pe_int set_list)))) pss_nil)
      (pss_cons (ps_if (pt_cmpR op_eq (pe_ix ix_list (pv 0) pe_int (fun _ _ => rfl)) pe_int (nomark _)) (pss_cons (ps_asg (pe_op op_mod (pe_callTy call_int1 (by rfl) T.z_int (by decide +kernel) (pa_cons (pe_op op_add (pe_op op_mul (pe_ix ix_list (pv 0) pe_int (fun _ _ => rfl)) pe_int) pe_int) pa_nil)) pe_int) (pg_sub (pv 0) pe_int set_list))
      (pss_one (ps_ret (pe_op op_mod (pe_callTy call_int1 (by rfl) T.z_int (by decide +kernel) (pa_cons (pe_op op_fdivW (pe_ix ix_list (pv 0) pe_int (fun _ _ => rfl)) pe_int) pa_nil)) (pv 1))))) pss_nil)
      (pss_cons (ps_set (i := 2) sc_law_draw.nd rfl (.inl rfl) (pe_op op_mod (pe_callTy call_int1 (by rfl) T.z_int (by decide +kernel) (pa_cons (pe_ix ix_list (pv 0) pe_int (fun _ _ => rfl)) pa_nil)) (pv 1)))
      (pss_cons (ps_asg (pe_op op_fdivW (pe_ix ix_list (pv 0) pe_int (fun _ _ => rfl)) (pv 1)) (pg_sub (pv 0) pe_int set_list))
      (pss_one (ps_ret (pv 2))))))), ?_⟩
    refine ⟨fun σ' H' => σ' = [some (.ref p), some (.int many), none] ∧ But p H H' ∧ Strm q H' p, ?_, ?_⟩
    · have hS0 := hS
      obtain ⟨cur, pos, mixed, ns, e1, e2, c0, p0, p1, l63, m0, m1⟩ := hS
      have nqp : q ≠ p := hS0.pq
      refine ⟨_, rfl, p, _, 1, _, rfl, rfl, SqL.of e1, rfl, rfl, _, rfl, ite2 (fun z1 => ?_) (fun z1 => iteF ⟨rfl, .refl, hS0⟩)⟩
      refine ⟨_, rfl, p, _, 2, _, rfl, rfl, SqL.of e1, rfl, _, rfl, p, _, 0, _, rfl, rfl, SqL.of e1, rfl, q, _, rfl, .inl (SqL.of e2), _, _, rfl, rfl, _, rfl, ite2 (fun z2 => ?_) (fun z2 => ⟨rfl, .refl, hS0⟩)⟩
      have hlt : pos < ns.length := by
        have z3 := of_decide_eq_true z2
        rw [List.length_map] at z3
        exact z3
      obtain ⟨j, rfl⟩ : ∃ j : Nat, pos = (j : Int) := ⟨pos.toNat, by omega⟩
      have hj : j < ns.length := by omega
      have g : (ns.map V.int)[j]? = some (.int ns[j]) := by
        rw [List.getElem?_map, List.getElem?_eq_getElem hj]
        rfl
      refine ⟨_, rfl, p, _, 0, _, rfl, rfl, SqL.of e1, rfl, _, rfl, p, _, 2, _, rfl, rfl, SqL.of e1, rfl, q, _, _, _, rfl, rfl, SqL.of e2, atI_nat g, .inl ⟨_, rfl, _, rfl, ?_⟩⟩
      refine ⟨_, rfl, p, _, 1, 1, rfl, rfl, e1, rfl, ?_⟩
      refine ⟨_, rfl, p, _, 2, _, rfl, rfl, SqL.of upd_same, rfl, _, _, rfl, rfl, _, rfl, p, _, 2, 2, rfl, rfl, upd_same, rfl, ?_⟩
      refine ⟨rfl, But.upd (But.upd .refl), (if ns[j] < 0 then -ns[j] else ns[j]), (j : Int) + 1, mixed, ns, upd_same, ?_, by split <;> omega, by omega, by omega, l63, m0, m1⟩
      rw [upd_ne nqp, upd_ne nqp]
      exact e2
    · rintro σ' H' ⟨rfl, hB, hS2⟩
      have nqp : q ≠ p := hS2.pq
      obtain ⟨cur, pos, mixed, ns, e1, e2, c0, p0, p1, l63, m0, m1⟩ := hS2
      refine ⟨_, rfl, p, _, 1, _, rfl, rfl, SqL.of e1, rfl, rfl, _, rfl, ite2 (fun z1 => ?_) (fun z1 => ?_)⟩
      · refine ⟨_, rfl, p, _, 3, _, rfl, rfl, SqL.of e1, rfl, _, _, rfl, rfl, .inl ⟨by omega, by omega⟩, _, _, rfl, rfl, .inl ⟨_, rfl, _, _, rfl, rfl, (by show (0 : Int) < 2147483647; decide), ?_⟩⟩
        refine ⟨_, rfl, p, _, 3, 3, rfl, rfl, e1, rfl, ?_⟩
        refine ⟨_, rfl, p, _, 3, _, rfl, rfl, SqL.of upd_same, rfl, _, _, rfl, rfl, wide_div (b := 8) (by decide) (by decide) (by decide) (by decide), .inl ⟨_, rfl, _, rfl, _, _, rfl, rfl, hm0, ?_⟩⟩
        refine k _ _ (Int.emod_nonneg _ (by omega)) (Int.emod_lt_of_pos _ hm0) (But.upd hB) ⟨cur, pos, _, ns, upd_same, by rw [upd_ne nqp]; exact e2, c0, p0, p1, l63, Int.emod_nonneg _ (by decide), Int.emod_lt_of_pos _ (by decide)⟩
      · refine ⟨_, rfl, p, _, 1, _, rfl, rfl, SqL.of e1, rfl, .inl ⟨_, rfl, _, rfl, _, _, rfl, rfl, hm0, ?_⟩⟩
        have hw : CDivW cur many := wide_div (b := 100) hm0 (by omega) (by decide) (by decide)
        refine ⟨_, rfl, p, _, 1, _, rfl, rfl, SqL.of e1, rfl, _, rfl, _, _, rfl, rfl, hw, _, rfl, p, _, 1, 1, rfl, rfl, e1, rfl, _, rfl, ?_⟩
        exact k _ _ (Int.emod_nonneg _ (by omega)) (Int.emod_lt_of_pos _ hm0) (But.upd hB) ⟨_, pos, _, ns, upd_same, by rw [upd_ne nqp]; exact e2, Int.ediv_nonneg c0 (by omega), p0, p1, l63, m0, m1⟩

def sp_law_word : Sp := fun vs H Q _ => ∃ p q : Addr, vs = [.ref p] ∧ Strm q H p ∧ ∀ (v : Int) H', W v → But p H H' → Strm q H' p → Q (.int v) H'
theorem rows_at {v : Int} (h0 : 0 ≤ v) (h1 : v < 16) : ∃ x, atI [V.int 0, .int 1, .int (-1), .int 2, .int 5, .int 31, .int 32, .int 33, .int (-32), .int (2 ^ (31 : Int).toNat - 1), .int (-(2 ^ (31 : Int).toNat)), .int (2 ^ (31 : Int).toNat - 2), .int (1 - 2 ^ (31 : Int).toNat), .int 65535, .int 65536, .int (-65536)] v = some (.int x) ∧ W x := by
  obtain ⟨n, rfl⟩ : ∃ n : Nat, v = (n : Int) := ⟨v.toNat, by omega⟩
  have hn : n < 16 := by omega
  match n, hn with
  | 0, _ => exact ⟨_, rfl, by unfold W; decide⟩
  | 1, _ => exact ⟨_, rfl, by unfold W; decide⟩
  | 2, _ => exact ⟨_, rfl, by unfold W; decide⟩
  | 3, _ => exact ⟨_, rfl, by unfold W; decide⟩
  | 4, _ => exact ⟨_, rfl, by unfold W; decide⟩
  | 5, _ => exact ⟨_, rfl, by unfold W; decide⟩
  | 6, _ => exact ⟨_, rfl, by unfold W; decide⟩
  | 7, _ => exact ⟨_, rfl, by unfold W; decide⟩
  | 8, _ => exact ⟨_, rfl, by unfold W; decide⟩
  | 9, _ => exact ⟨_, rfl, by unfold W; decide⟩
  | 10, _ => exact ⟨_, rfl, by unfold W; decide⟩
  | 11, _ => exact ⟨_, rfl, by unfold W; decide⟩
  | 12, _ => exact ⟨_, rfl, by unfold W; decide⟩
  | 13, _ => exact ⟨_, rfl, by unfold W; decide⟩
  | 14, _ => exact ⟨_, rfl, by unfold W; decide⟩
  | 15, _ => exact ⟨_, rfl, by unfold W; decide⟩
  | n + 16, h => omega
theorem ok_law_word (T : Tx w K mg) : FnOk P w K mg base CX0 2 T.a_law_word T.d_law_word ["stream"] sp_law_word := by
  refine T.F_law_word.ok sc_law_word (fun vs H Q E h => ?_) (fun cdv A outer s H vs Q E hr h => ?_)
  · obtain ⟨p, q, rfl, _⟩ := h
    rfl
  · obtain ⟨p, q, rfl, hS, k⟩ := h
    refine ⟨_, (pss_cons (ps_set (i := 1) sc_law_word.nd rfl (.inl rfl) (pe_lst (pa_cons pe_int (pa_cons pe_int (pa_cons (pe_un un_neg pe_int) (pa_cons pe_int (pa_cons pe_int (pa_cons pe_int (pa_cons pe_int (pa_cons pe_int (pa_cons (pe_un un_neg pe_int) (pa_cons (pe_op op_sub (pe_op op_pow pe_int pe_int) pe_int) (pa_cons (pe_un un_neg (pe_op op_pow pe_int pe_int)) (pa_cons (pe_op op_sub (pe_op op_pow pe_int pe_int) pe_int) (pa_cons (pe_op op_sub pe_int (pe_op op_pow pe_int pe_int)) (pa_cons pe_int (pa_cons pe_int (pa_cons (pe_un un_neg pe_int) pa_nil))))))))))))))))))
      (pss_cons (ps_if (pt_cmpR op_eq (pe_call (ok_law_draw T) (hr.mono (by decide)) (by rfl) T.g_law_draw T.F_law_draw.kp T.b_law_draw .nil pass0 (pa_cons (pv 0) (pa_cons pe_int pa_nil))) pe_int (nomark _)) (pss_one (ps_ret (pe_op op_sub (pe_call (ok_law_draw T) (hr.mono (by decide)) (by rfl) T.g_law_draw T.F_law_draw.kp T.b_law_draw .nil pass0 (pa_cons (pv 0) (pa_cons (pe_op op_pow pe_int pe_int) pa_nil))) (pe_op op_pow pe_int pe_int)))) pss_nil)
      (pss_one (ps_ret (pe_ix ix_list (pv 1) (pe_call (ok_law_draw T) (hr.mono (by decide)) (by rfl) T.g_law_draw T.F_law_draw.kp T.b_law_draw .nil pass0 (pa_cons (pv 0) (pa_cons (pe_callB call_len_seq (by rfl) T.z_len (by decide +kernel) (pa_cons (pv 1) pa_nil)) pa_nil))) (fun _ _ => rfl)))))), ?_⟩
    have cp : CPow 2 31 := ⟨by decide, by decide, by decide⟩
    refine ⟨_, rfl, _, rfl, _, _, rfl, rfl, cp, _, _, rfl, rfl, _, _, rfl, rfl, cp, _, rfl, _, _, rfl, rfl, cp, _, _, rfl, rfl, _, _, rfl, rfl, cp, _, _, rfl, rfl, _, rfl, (by show 16 ≤ sizeLine; decide), fun l nl => ?_⟩
    refine ⟨_, rfl, p, q, 3, rfl, hS.same (same_new nl), by decide, by decide, fun v H1 v0 v1 b1 s1 => ?_⟩
    have npl : l ≠ p := hS.nep nl
    have hl : H1 l = _ := b1 _ _ npl upd_same
    have bb : But p H H1 := fun b o n e => b1 b o n (by rw [upd_ne (ne_of_none e nl)]; exact e)
    refine ⟨rfl, _, rfl, ite2 (fun z => ?_) (fun z => ?_)⟩
    · refine ⟨_, rfl, _, _, rfl, rfl, ⟨by decide, by decide, by decide⟩, p, q, _, rfl, s1, by decide, by decide, fun u H2 u0 u1 b2 s2 => ?_⟩
      refine ⟨_, _, rfl, rfl, cp, _, _, rfl, rfl, k _ _ ?_ (bb.trans b2) s2⟩
      have e1 : (2 : Int) ^ (32 : Int).toNat = 4294967296 := by decide
      have e2 : (2 : Int) ^ (31 : Int).toNat = 2147483648 := by decide
      rw [e1] at u1
      unfold W
      rw [e2]
      omega
    · refine ⟨_, rfl, _, rfl, _, rfl, l, _, rfl, .inl (SqL.of hl), p, q, _, rfl, s1, by decide, by decide, fun u H2 u0 u1 b2 s2 => ?_⟩
      have hl2 : H2 l = _ := b2 _ _ npl hl
      obtain ⟨x, ex, wx⟩ := rows_at u0 u1
      exact ⟨l, _, _, _, rfl, rfl, SqL.of hl2, ex, k _ _ wx (bb.trans b2) s2⟩
/-! ### the law's operators -/
theorem ok_law_wrapped (T : Tx w K mg) : FnOk P w K mg base CX0 1 T.a_law_wrapped T.d_law_wrapped ["number"] (sp1 lwrap) := by
  refine T.F_law_wrapped.ok sc_law_wrapped (fun vs H Q E h => ?_) (fun cdv A outer s H vs Q E hr h => ?_)
  · obtain ⟨n, rfl, _⟩ := h
    rfl
  · obtain ⟨n, rfl, q⟩ := h
    refine ⟨_, (pss_cons (ps_set (i := 0) sc_law_wrapped.nd rfl (.inl rfl) (pe_op op_mod (pe_callTy call_int1 (by rfl) T.z_int (by decide +kernel) (pa_cons (pv 0) pa_nil)) pe_int))
      (pss_one (ps_ret (pe_op op_sub (pv 0) (pe_op op_mul pe_int (pe_callTy call_int1 (by rfl) T.z_int (by decide +kernel) (pa_cons (pe_cmpR op_gt (pv 0) pe_int (nomark _)) pa_nil))))))), ?_⟩
    exact ⟨_, rfl, .inl ⟨_, rfl, _, _, rfl, rfl, (by show (0 : Int) < 4294967296; decide), _, rfl, _, rfl, _, _, rfl, rfl, .inr ⟨_, rfl, _, _, rfl, rfl, .inl ⟨by decide, by decide⟩, _, _, rfl, rfl, q⟩⟩⟩
theorem dget {H : Hp} {a : Addr} {kvs : List (Key × V)} {k : Key} {v : V} (h : H a = some (.dK kvs)) (e : valV kvs k = some v) : DGet H a (kV k) (some v) := by
  rw [← e]
  exact DGet.k h
def isBit : Op → Bool
  | .and | .or | .xor => true
  | _ => false
def sp_law_bits : Sp := fun vs H Q _ => ∃ (o : Op) (a b : Int), vs = [.str o.s, .int a, .int b] ∧ isBit o = true ∧ ∀ H', Same H H' → Q (.int (lb o 32 (a % 4294967296) (b % 4294967296))) H'
theorem bit_at (o : Op) (h : isBit o = true) (x y : Int) : valV (mergeK [] [(Sum.inr "and", V.int (x * y)), (Sum.inr "or", V.int (if y > x then y else x)), (Sum.inr "xor", V.int (if (!decide (V.int x = V.int y)) = true then 1 else 0))]) (Sum.inr o.s) = some (.int (bit o x y)) := by
  cases o <;> first | (cases h; done) | rfl
theorem ok_law_bits (T : Tx w K mg) : FnOk P w K mg base CX0 1 T.a_law_bits T.d_law_bits ["op", "a", "b"] sp_law_bits := by
  refine T.F_law_bits.ok sc_law_bits (fun vs H Q E h => ?_) (fun cdv A outer s H vs Q E hr h => ?_)
  · obtain ⟨o, a, b, rfl, _⟩ := h
    rfl
  · obtain ⟨o, a, b, rfl, ho, q⟩ := h
    refine ⟨_, (pss_cons (ps_set (i := 1) sc_law_bits.nd rfl (.inl rfl) (pe_op op_mod (pe_callTy call_int1 (by rfl) T.z_int (by decide +kernel) (pa_cons (pv 1) pa_nil)) pe_int))
      (pss_cons (ps_set (i := 2) sc_law_bits.nd rfl (.inl rfl) (pe_op op_mod (pe_callTy call_int1 (by rfl) T.z_int (by decide +kernel) (pa_cons (pv 2) pa_nil)) pe_int))
      (pss_cons (ps_set (i := 3) sc_law_bits.nd rfl (.inl rfl) pe_int)
      (pss_cons (ps_set (i := 4) sc_law_bits.nd rfl (.inl rfl) pe_int)
      (pss_cons (ps_for PassesOwn.never rfl (pi_range1 (by rfl) T.z_range (pa_cons pe_int pa_nil)) (pg_name (i := 5) sc_law_bits.nd rfl (.inl rfl)) (pss_cons (ps_set (i := 6) sc_law_bits.nd rfl (.inl rfl) (pe_op op_mod (pe_callTy call_int1 (by rfl) T.z_int (by decide +kernel) (pa_cons (pv 1) pa_nil)) pe_int))
      (pss_cons (ps_set (i := 7) sc_law_bits.nd rfl (.inl rfl) (pe_op op_mod (pe_callTy call_int1 (by rfl) T.z_int (by decide +kernel) (pa_cons (pv 2) pa_nil)) pe_int))
      (pss_cons (ps_set (i := 8) sc_law_bits.nd rfl (.inl rfl) (pe_dget (hu_of hr) (pe_disp (pps_cons pe_str (pe_op op_mul (pv 6) (pv 7)) (pps_cons pe_str (pe_callB (call_max2 rfl) (by rfl) T.z_max (by decide +kernel) (pa_cons (pv 6) (pa_cons (pv 7) pa_nil))) (pps_cons pe_str (pe_callTy call_int1 (by rfl) T.z_int (by decide +kernel) (pa_cons (pe_cmpR op_ne (pv 6) (pv 7) (nomark _)) pa_nil)) pps_nil))) (by rfl) (by rfl) (fun z => by cases z) (by decide)) (pv 0) (fun _ _ => rfl)))
      (pss_cons (ps_set (i := 3) sc_law_bits.nd rfl (.inl rfl) (pe_op op_add (pv 3) (pe_op op_mul (pv 4) (pv 8))))
      (pss_cons (ps_set (i := 4) sc_law_bits.nd rfl (.inl rfl) (pe_op op_mul (pv 4) pe_int))
      (pss_cons (ps_set (i := 1) sc_law_bits.nd rfl (.inl rfl) (pe_op op_fdivW (pv 1) pe_int))
      (pss_one (ps_set (i := 2) sc_law_bits.nd rfl (.inl rfl) (pe_op op_fdivW (pv 2) pe_int))))))))))
      (pss_one (ps_ret (pv 3)))))))), ?_⟩
    refine ⟨_, rfl, .inl ⟨_, rfl, _, _, rfl, rfl, (by show (0 : Int) < 4294967296; decide), _, rfl, .inl ⟨_, rfl, _, _, rfl, rfl, (by show (0 : Int) < 4294967296; decide), ?_⟩⟩⟩
    refine ⟨32, rfl, by decide, by decide, for_range (n := 32) (fun i σ H' => ∃ (x y t : Int) (y5 y6 y7 y8 : Option V), σ = [some (.str o.s), some (.int x), some (.int y), some (.int t), some (.int (2 ^ i)), y5, y6, y7, y8] ∧ i ≤ 32 ∧ t + 2 ^ i * lb o (32 - i) x y = lb o 32 (a % 4294967296) (b % 4294967296) ∧ Same H H') ⟨_, _, 0, none, none, none, none, rfl, by decide, by show 0 + 1 * lb o 32 _ _ = _; omega, .refl H⟩ ?_ ?_⟩
    · rintro i σ H' hi ⟨x, y, t, y5, y6, y7, y8, rfl, h32, e, sm⟩
      refine ⟨_, rfl, .inl ⟨_, rfl, _, _, rfl, rfl, (by show (0 : Int) < 2; decide), _, rfl, .inl ⟨_, rfl, _, _, rfl, rfl, (by show (0 : Int) < 2; decide), ?_⟩⟩⟩
      have hp : (0 : Int) < 2 ^ i := Int.pow_pos (by decide)
      intro p np
      refine ⟨_, rfl, _, rfl, _, _, rfl, rfl, .inl ⟨by omega, by omega⟩, _, rfl, _, rfl, _, _, rfl, _, rfl, _, rfl, rfl, .inr ⟨_, rfl, ?_⟩⟩
      refine ⟨upd_same, [(Sum.inr "and", _), (Sum.inr "or", _), (Sum.inr "xor", _)], rfl, (by show 3 ≤ 15; decide), ?_⟩
      refine ⟨_, rfl, p, _, rfl, dget (k := Sum.inr o.s) upd_same (bit_at o ho _ _), _, rfl, _, rfl, _, rfl, _, _, rfl, rfl, .inl ⟨?_, ?_⟩, _, _, rfl, rfl, ?_⟩
      · show -(2 ^ 64 : Int) < 2 ^ i
        omega
      · show (2 ^ i : Int) < 2 ^ 64
        exact Int.pow_lt_pow_of_lt (by decide) (by omega)
      refine ⟨_, rfl, _, _, rfl, rfl, .inr ⟨by decide, by decide⟩, _, rfl, _, _, rfl, rfl, wide_div (b := 8) (by decide) (by decide) (by decide) (by decide), _, rfl, _, _, rfl, rfl, wide_div (b := 8) (by decide) (by decide) (by decide) (by decide), ?_⟩
      refine ⟨_, _, _, _, _, _, _, rfl, by omega, ?_, fun c u n => ?_⟩
      · rw [show 32 - i = (32 - (i + 1)) + 1 by omega] at e
        rw [show lb o (32 - (i + 1) + 1) x y = bit o (x % 2) (y % 2) + 2 * lb o (32 - (i + 1)) (x / 2) (y / 2) from rfl] at e
        rw [← e, Int.pow_succ, Int.mul_add, Int.mul_assoc]
        omega
      · have nc : c ≠ p := ne_of_none (sm _ _ n) np
        rw [upd_ne nc, upd_ne nc]
        exact sm _ _ n
    · rintro σ H' ⟨x, y, t, y5, y6, y7, y8, rfl, h32, e, sm⟩
      have e2 : t = lb o 32 (a % 4294967296) (b % 4294967296) := by
        rw [← e]
        show t = t + 2 ^ 32 * 0
        omega
      rw [← e2] at q
      exact ⟨_, rfl, q _ sm⟩
def sp_law_shifted : Sp := fun vs H Q _ => ∃ (o : Op) (a b : Int), vs = [.str o.s, .int a, .int b] ∧ (o = .shl ∨ o = .shr) ∧ W a ∧ Q (.int (act o a b)) H
theorem ok_law_shifted (T : Tx w K mg) : FnOk P w K mg base CX0 1 T.a_law_shifted T.d_law_shifted ["op", "a", "b"] sp_law_shifted := by
  refine T.F_law_shifted.ok sc_law_shifted (fun vs H Q E h => ?_) (fun cdv A outer s H vs Q E hr h => ?_)
  · obtain ⟨o, a, b, rfl, _⟩ := h
    rfl
  · obtain ⟨o, a, b, rfl, ho, wa, q⟩ := h
    refine ⟨_, (pss_cons (ps_for PassesOwn.never rfl (pi_range1 (by rfl) T.z_range (pa_cons (pe_op op_mod (pe_callTy call_int1 (by rfl) T.z_int (by decide +kernel) (pa_cons (pv 2) pa_nil)) pe_int) pa_nil)) (pg_name (i := 3) sc_law_shifted.nd rfl (.inl rfl)) (pss_one (ps_if (pt_cmpR op_eq (pv 0) pe_str (nomark _)) (pss_one (ps_set (i := 1) sc_law_shifted.nd rfl (.inl rfl) (pe_op op_mul (pv 1) pe_int))) (pss_one (ps_set (i := 1) sc_law_shifted.nd rfl (.inl rfl) (pe_op op_fdivW (pv 1) pe_int))))))
      (pss_one (ps_ret (pv 1)))), ?_⟩
    have hb0 : 0 ≤ b % 32 := Int.emod_nonneg _ (by decide)
    have hb1 : b % 32 < 32 := Int.emod_lt_of_pos _ (by decide)
    refine ⟨_, rfl, .inl ⟨_, rfl, _, _, rfl, rfl, (by show (0 : Int) < 32; decide), _, rfl, by show -(2 ^ 62 : Int) ≤ b % 32; omega, by show b % 32 < (2 ^ 62 : Int); omega, for_range (n := (b % 32).toNat) (fun i σ H' => ∃ (x : Int) (y : Option V), σ = [some (.str o.s), some (.int x), some (.int b), y] ∧ i ≤ 31 ∧ x = (if o = .shl then a * 2 ^ i else a / 2 ^ i) ∧ H' = H) ⟨a, none, rfl, by decide, by split <;> simp, rfl⟩ ?_ ?_⟩⟩
    · rintro i σ H' hi ⟨x, y, rfl, h31, e, rfl⟩
      have hp : (0 : Int) < 2 ^ i := Int.pow_pos (by decide)
      refine ⟨_, rfl, rfl, _, rfl, ite2 (fun z => ?_) (fun z => ?_)⟩
      · have eo : o = .shl := by
          rcases ho with rfl | rfl
          · rfl
          · exact absurd z (by decide +kernel)
        subst eo
        refine ⟨_, rfl, _, _, rfl, rfl, .inr ⟨by decide, by decide⟩, _, _, rfl, by omega, ?_, rfl⟩
        rw [e, if_pos rfl, if_pos rfl, Int.pow_succ, Int.mul_assoc]
      · have eo : o = .shr := by
          rcases ho with rfl | rfl
          · exact absurd (by decide +kernel) z
          · rfl
        subst eo
        refine ⟨_, rfl, _, _, rfl, rfl, wide_div (b := 8) (by decide) (by decide) (by decide) (by decide), _, _, rfl, by omega, ?_, rfl⟩
        rw [e, if_neg (by decide), if_neg (by decide), Int.pow_succ, Int.ediv_ediv_of_nonneg (by omega)]
    · rintro σ H' ⟨x, y, rfl, h31, e, rfl⟩
      have e3 : (Builtin.bitAnd b 31).toNat = (b % 32).toNat := by rw [bitAnd_m5]
      have e2 : act o a b = x := by
        rcases ho with rfl | rfl
        · rw [e, if_pos rfl, ← e3]
          rfl
        · rw [e, if_neg (by decide), ← e3]
          rfl
      rw [e2] at q
      exact ⟨_, rfl, q⟩
def sp_law_binary : Sp := fun vs H Q _ => ∃ (o : Op) (a b : Int), vs = [.str o.s, .int a, .int b] ∧ W a ∧ W b ∧ ∀ H', Same H H' → Q (.int (wrap (act o a b))) H'
def isRow : Op → Bool
  | .add | .sub | .mul | .lt | .le | .eq | .ne | .min | .max => true
  | _ => false
def rowVal : Op → Int → Int → Int
  | .add, a, b => a + b
  | .sub, a, b => a - b
  | .mul, a, b => a * b
  | .lt, a, b => if decide (a < b) = true then 1 else 0
  | .le, a, b => if decide (a ≤ b) = true then 1 else 0
  | .eq, a, b => if decide (V.int a = V.int b) = true then 1 else 0
  | .ne, a, b => if (!decide (V.int a = V.int b)) = true then 1 else 0
  | .min, a, b => if b < a then b else a
  | _, a, b => if b > a then b else a
theorem row_eq (o : Op) (h : isRow o = true) (a b : Int) : rowVal o a b = act o a b := by
  cases o <;> first | (cases h; done) | rfl | skip
  · show (if decide (a < b) = true then (1 : Int) else 0) = b1 (a < b)
    unfold b1
    by_cases z : a < b <;> simp [z]
  · show (if decide (a ≤ b) = true then (1 : Int) else 0) = b1 (a ≤ b)
    unfold b1
    by_cases z : a ≤ b <;> simp [z]
  · show (if decide (V.int a = V.int b) = true then (1 : Int) else 0) = b1 (a = b)
    unfold b1
    by_cases z : a = b <;> simp [z]
  · show (if (!decide (V.int a = V.int b)) = true then (1 : Int) else 0) = b1 (a ≠ b)
    unfold b1
    by_cases z : a = b <;> simp [z]
  · show (if b < a then b else a) = (if a < b then a else b)
    split <;> split <;> omega
  · show (if b > a then b else a) = (if b < a then a else b)
    split <;> split <;> omega
def rows6 (a b : Int) : List (Key × V) := [(Sum.inr "add", .int (a + b)), (Sum.inr "sub", .int (a - b)), (Sum.inr "mul", .int (a * b)), (Sum.inr "lt", .int (if decide (a < b) = true then 1 else 0)), (Sum.inr "le", .int (if decide (a ≤ b) = true then 1 else 0)), (Sum.inr "eq", .int (if decide (V.int a = V.int b) = true then 1 else 0))]
def rows9 (a b : Int) : List (Key × V) := putK (putK (putK (mergeK [] (rows6 a b)) (Sum.inr "ne") (.int (if (!decide (V.int a = V.int b)) = true then 1 else 0))) (Sum.inr "min") (.int (if b < a then b else a))) (Sum.inr "max") (.int (if b > a then b else a))
theorem row_at (o : Op) (h : isRow o = true) (a b : Int) : valV (rows9 a b) (Sum.inr o.s) = some (.int (rowVal o a b)) := by
  cases o <;> first | (cases h; done) | kernel_rfl
theorem len7 (a b : Int) (v : V) : (putK (mergeK [] (rows6 a b)) (Sum.inr "ne") v).length = 7 := by kernel_rfl
theorem len8 (a b : Int) (v u : V) : (putK (putK (mergeK [] (rows6 a b)) (Sum.inr "ne") v) (Sum.inr "min") u).length = 8 := by kernel_rfl
theorem inDR (o : Op) : inV (.str o.s) [.str "div", .str "rem"] = (match o with | .div | .rem => true | _ => false) := by
  cases o <;> rfl
theorem inBits (o : Op) : inV (.str o.s) [.str "and", .str "or", .str "xor"] = isBit o := by
  cases o <;> rfl
theorem inSh (o : Op) : inV (.str o.s) [.str "shl", .str "shr"] = (match o with | .shl | .shr => true | _ => false) := by
  cases o <;> rfl
theorem ok_law_binary (T : Tx w K mg) : FnOk P w K mg base CX0 2 T.a_law_binary T.d_law_binary ["op", "a", "b"] sp_law_binary := by
  refine T.F_law_binary.ok sc_law_binary (fun vs H Q E h => ?_) (fun cdv A outer s H vs Q E hr h => ?_)
  · obtain ⟨o, a, b, rfl, _⟩ := h
    rfl
  · obtain ⟨o, a, b, rfl, wa, wb, q⟩ := h
    refine ⟨_, (pss_cons (ps_if (pt_cmpR op_in_seq (pv 0) (pe_tup (pa_cons pe_str (pa_cons pe_str pa_nil))) (by rfl)) (pss_cons (ps_if (pt_cmpR op_eq (pv 2) pe_int (nomark _)) (pss_one (ps_ret pe_int)) pss_nil)
      (pss_cons (ps_set (i := 3) sc_law_binary.nd rfl (.inl rfl) (pe_op op_fdivW (pe_callB call_abs (by rfl) T.z_abs (by decide +kernel) (pa_cons (pv 1) pa_nil)) (pe_callB call_abs (by rfl) T.z_abs (by decide +kernel) (pa_cons (pv 2) pa_nil))))
      (C8.pss_cut (ps_if (pt_cmpR op_lt (pe_op op_mul (pv 1) (pv 2)) pe_int (nomark _)) (pss_one (ps_set (i := 3) sc_law_binary.nd rfl (.inl rfl) (pe_op op_sub pe_int (pv 3)))) pss_nil)
      (C8.pss_cut (ps_if (pt_cmpR op_eq (pv 0) pe_str (nomark _)) (pss_one (ps_set (i := 3) sc_law_binary.nd rfl (.inl rfl) (pe_op op_sub (pv 1) (pe_op op_mul (pv 3) (pv 2))))) pss_nil)
      (pss_one (ps_ret (pe_call (ok_law_wrapped T) (hr.mono (by decide)) (by rfl) T.g_law_wrapped T.F_law_wrapped.kp T.b_law_wrapped .nil pass0 (pa_cons (pv 3) pa_nil)))))))) pss_nil)
      (pss_cons (ps_if (pt_cmpR op_in_seq (pv 0) (pe_tup (pa_cons pe_str (pa_cons pe_str (pa_cons pe_str pa_nil)))) (by rfl)) (pss_one (ps_ret (pe_call (ok_law_wrapped T) (hr.mono (by decide)) (by rfl) T.g_law_wrapped T.F_law_wrapped.kp T.b_law_wrapped .nil pass0 (pa_cons (pe_call (ok_law_bits T) (hr.mono (by decide)) (by rfl) T.g_law_bits T.F_law_bits.kp T.b_law_bits .nil pass0 (pa_cons (pv 0) (pa_cons (pv 1) (pa_cons (pv 2) pa_nil)))) pa_nil)))) pss_nil)
      (pss_cons (ps_if (pt_cmpR op_in_seq (pv 0) (pe_tup (pa_cons pe_str (pa_cons pe_str pa_nil))) (by rfl)) (pss_one (ps_ret (pe_call (ok_law_wrapped T) (hr.mono (by decide)) (by rfl) T.g_law_wrapped T.F_law_wrapped.kp T.b_law_wrapped .nil pass0 (pa_cons (pe_call (ok_law_shifted T) (hr.mono (by decide)) (by rfl) T.g_law_shifted T.F_law_shifted.kp T.b_law_shifted .nil pass0 (pa_cons (pv 0) (pa_cons (pv 1) (pa_cons (pv 2) pa_nil)))) pa_nil)))) pss_nil)
      (pss_cons (ps_set (i := 4) sc_law_binary.nd rfl (.inl rfl) (pe_disp (pps_cons pe_str (pe_op op_add (pv 1) (pv 2)) (pps_cons pe_str (pe_op op_sub (pv 1) (pv 2)) (pps_cons pe_str (pe_op op_mul (pv 1) (pv 2)) (pps_cons pe_str (pe_callTy call_int1 (by rfl) T.z_int (by decide +kernel) (pa_cons (pe_cmpR op_lt (pv 1) (pv 2) (nomark _)) pa_nil)) (pps_cons pe_str (pe_callTy call_int1 (by rfl) T.z_int (by decide +kernel) (pa_cons (pe_cmpR op_le (pv 1) (pv 2) (nomark _)) pa_nil)) (pps_cons pe_str (pe_callTy call_int1 (by rfl) T.z_int (by decide +kernel) (pa_cons (pe_cmpR op_eq (pv 1) (pv 2) (nomark _)) pa_nil)) pps_nil)))))) (by rfl) (by rfl) (fun z => by cases z) (by decide)))
      (pss_cons (ps_dput (hu_of hr) (pv 4) pe_str (pe_callTy call_int1 (by rfl) T.z_int (by decide +kernel) (pa_cons (pe_cmpR op_ne (pv 1) (pv 2) (nomark _)) pa_nil)) rfl)
      (pss_cons (ps_dput (hu_of hr) (pv 4) pe_str (pe_callB (call_min2 rfl) (by rfl) T.z_min (by decide +kernel) (pa_cons (pv 1) (pa_cons (pv 2) pa_nil))) rfl)
      (pss_cons (ps_dput (hu_of hr) (pv 4) pe_str (pe_callB (call_max2 rfl) (by rfl) T.z_max (by decide +kernel) (pa_cons (pv 1) (pa_cons (pv 2) pa_nil))) rfl)
      (pss_one (ps_ret (pe_call (ok_law_wrapped T) (hr.mono (by decide)) (by rfl) T.g_law_wrapped T.F_law_wrapped.kp T.b_law_wrapped .nil pass0 (pa_cons (pe_dget (hu_of hr) (pv 4) (pv 0) (fun _ _ => rfl)) pa_nil))))))))))), ?_⟩
    refine ⟨_, rfl, (by show 2 ≤ sizeLine; decide), fun p np => ⟨p, _, rfl, .inr (SqT.of upd_same), rfl, rfl, _, rfl, ?_⟩⟩
    have s1 := same_new (o := .tup [.str "div", .str "rem"]) np
    refine ite2 (fun z => ?_) (fun z => ?_)
    · have z2 : inV (.str o.s) [.str "div", .str "rem"] = true := z
      rw [inDR] at z2
      have ho : o = .div ∨ o = .rem := by cases o <;> first | exact .inl rfl | exact .inr rfl | cases z2
      refine ⟨_, rfl, rfl, _, rfl, ite2 (fun e => ?_) (fun e => ?_)⟩
      · have hb : b = 0 := V.int.inj (of_decide_eq_true e)
        have e2 : act o a b = 0 := by rcases ho with rfl | rfl <;> exact if_pos hb
        rw [e2] at q
        exact q _ s1
      · have hb : ¬ b = 0 := fun z => e (decide_eq_true (by rw [z]))
        have hw : CDivW (ab a) (ab b) := by
          have h1 : (0 : Int) < ab b := by unfold ab; split <;> omega
          have h2 : (ab b).natAbs < 2 ^ 32 := by unfold W at wb; unfold ab; split <;> omega
          exact wide_div h1 h2 (by decide) (by decide)
        have hab : (-(2 ^ 64) < a ∧ a < 2 ^ 64) := by unfold W at wa; omega
        have hbb : (-(2 ^ 64) < b ∧ b < 2 ^ 64) := by unfold W at wb; omega
        refine ⟨_, rfl, _, rfl, _, rfl, _, rfl, _, _, rfl, rfl, hw, ?_⟩
        refine ⟨fun σ' H' => σ' = [some (.str o.s), some (.int a), some (.int b), some (.int (lquo a b)), none] ∧ Same H H', ?_, ?_⟩
        · refine ⟨_, rfl, _, rfl, _, _, rfl, rfl, .inl hab, _, _, rfl, rfl, _, rfl, ite2 (fun y => ?_) (fun y => ?_)⟩
          · refine ⟨_, rfl, _, _, rfl, rfl, ?_, s1⟩
            show [some (V.str o.s), some (V.int a), some (V.int b), some (V.int (0 - ab a / ab b)), none] = _
            unfold lquo
            rw [if_pos y]
          · refine ⟨?_, s1⟩
            show [some (V.str o.s), some (V.int a), some (V.int b), some (V.int (ab a / ab b)), none] = _
            unfold lquo
            rw [if_neg y]
        · rintro σ' H' ⟨rfl, sa⟩
          refine ⟨fun σ' H' => σ' = [some (.str o.s), some (.int a), some (.int b), some (.int (act o a b)), none] ∧ Same H H', ?_, ?_⟩
          · refine ⟨_, rfl, rfl, _, rfl, ite2 (fun y => ?_) (fun y => ?_)⟩
            · have eo : o = .rem := by
                rcases ho with rfl | rfl
                · exact absurd y (by decide +kernel)
                · rfl
              subst eo
              refine ⟨_, rfl, _, rfl, _, rfl, _, _, rfl, rfl, .inr hbb, _, _, rfl, rfl, ?_, sa⟩
              show [some (V.str Op.rem.s), some (V.int a), some (V.int b), some (V.int (a - lquo a b * b)), none] = [some (V.str Op.rem.s), some (V.int a), some (V.int b), some (V.int (if b = 0 then 0 else a - b * quo a b)), none]
              rw [if_neg hb, quo_eq a b hb, Int.mul_comm]
            · have eo : o = .div := by
                rcases ho with rfl | rfl
                · rfl
                · exact absurd (by decide +kernel) y
              subst eo
              refine ⟨?_, sa⟩
              rw [quo_eq a b hb]
              rfl
          · rintro σ' H' ⟨rfl, sb⟩
            refine ⟨_, rfl, _, rfl, ?_⟩
            rw [lwrap_eq]
            exact q _ sb
    · have z2 : ¬ inV (.str o.s) [.str "div", .str "rem"] = true := z
      rw [inDR] at z2
      refine ⟨_, rfl, (by show 3 ≤ sizeLine; decide), fun p2 np2 => ⟨p2, _, rfl, .inr (SqT.of upd_same), rfl, rfl, _, rfl, ?_⟩⟩
      have s2 := s1.trans (same_new (o := .tup [.str "and", .str "or", .str "xor"]) np2)
      refine ite2 (fun y => ?_) (fun y => ?_)
      · have ho : isBit o = true := by rw [← inBits]; exact y
        refine ⟨_, rfl, _, rfl, _, rfl, o, a, b, rfl, ho, fun H3 s3 => ⟨_, rfl, ?_⟩⟩
        have e : lwrap (lb o 32 (a % 4294967296) (b % 4294967296)) = wrap (act o a b) := by
          cases o <;> first | (cases ho; done) | exact lb_word_and a b | exact lb_word_or a b | exact lb_word_xor a b
        rw [e]
        exact q _ (s2.trans s3)
      · have y2 : ¬ isBit o = true := by rw [← inBits]; exact y
        refine ⟨_, rfl, (by show 2 ≤ sizeLine; decide), fun p3 np3 => ⟨p3, _, rfl, .inr (SqT.of upd_same), rfl, rfl, _, rfl, ?_⟩⟩
        have s3 := s2.trans (same_new (o := .tup [.str "shl", .str "shr"]) np3)
        refine ite2 (fun x => ?_) (fun x => ?_)
        · have x2 : inV (.str o.s) [.str "shl", .str "shr"] = true := x
          rw [inSh] at x2
          have ho : o = .shl ∨ o = .shr := by cases o <;> first | exact .inl rfl | exact .inr rfl | cases x2
          refine ⟨_, rfl, _, rfl, _, rfl, o, a, b, rfl, ho, wa, _, rfl, ?_⟩
          rw [lwrap_eq]
          exact q _ s3
        · have x2 : ¬ inV (.str o.s) [.str "shl", .str "shr"] = true := x
          rw [inSh] at x2
          have ho : isRow o = true := by cases o <;> first | rfl | exact absurd rfl z2 | exact absurd rfl y2 | exact absurd rfl x2
          have hab : (-(2 ^ 64) < a ∧ a < 2 ^ 64) := by unfold W at wa; omega
          intro d nd
          refine ⟨_, rfl, _, rfl, _, _, rfl, rfl, _, rfl, _, rfl, _, _, rfl, rfl, _, rfl, _, rfl, _, _, rfl, rfl, .inl hab, _, rfl, _, rfl, _, _, rfl, rfl, .inr ⟨_, rfl, _, rfl, _, rfl, _, _, rfl, rfl, .inr ⟨_, rfl, _, rfl, _, rfl, rfl, .inr ⟨_, rfl, ?_⟩⟩⟩⟩
          refine ⟨upd_same, rows6 a b, rfl, (by show 6 ≤ 15; decide), ?_⟩
          refine ⟨_, rfl, _, rfl, rfl, .inr ⟨_, rfl, _, rfl, d, _, rfl, DPut.k (k := Sum.inr "ne") upd_same (by show 6 < sizeLine; decide), ?_⟩⟩
          refine ⟨_, rfl, _, rfl, _, _, rfl, _, rfl, d, _, rfl, DPut.k (k := Sum.inr "min") upd_same ?_, ?_⟩
          · rw [len7]
            exact small1000 (by decide)
          refine ⟨_, rfl, _, rfl, _, _, rfl, _, rfl, d, _, rfl, DPut.k (k := Sum.inr "max") upd_same ?_, ?_⟩
          · rw [len8]
            exact small1000 (by decide)
          refine ⟨_, rfl, _, rfl, d, _, rfl, dget (k := Sum.inr o.s) upd_same (row_at o ho a b), _, rfl, ?_⟩
          rw [lwrap_eq, row_eq o ho]
          refine q _ fun c u n => ?_
          have nc : c ≠ d := ne_of_none (s3 _ _ n) nd
          rw [upd_ne nc, upd_ne nc, upd_ne nc, upd_ne nc, upd_ne nc]
          exact s3 _ _ n

/-! ### folds of the program -/
def foldsS : List Str := ["add", "min", "max", "and", "or", "xor"]
theorem foldsS_eq : foldsS = foldsL.map Op.s := rfl
def spNeutral : Sp := fun vs H Q _ => ∃ o : Op, vs = [.str o.s] ∧ folds o = true ∧ Q (.int (neut o)) H
def spFold (K : PySem.W.Frag) : Sp := fun vs H Q _ => ∃ (o : Op) (l : Addr) (ws : List Int), vs = [.str o.s, .ref l] ∧ folds o = true ∧ SqL K H l (ws.map V.int) ∧ (∀ x ∈ ws, W x) ∧ Q (.int (foldW o (neut o) ws)) H
theorem neut_at (T : Tx w K mg) : ∀ o : Op, folds o = true → KDct K w T.a_NEUTRAL o.s (.int (neut o))
  | .add, _ => T.k_NEUTRAL_add
  | .min, _ => T.k_NEUTRAL_min
  | .max, _ => T.k_NEUTRAL_max
  | .and, _ => T.k_NEUTRAL_and
  | .or, _ => T.k_NEUTRAL_or
  | .xor, _ => T.k_NEUTRAL_xor
theorem ok_neutral (T : Tx w K mg) : FnOk P w K mg base CX0 1 T.a_neutral T.d_neutral ["op"] spNeutral := by
  refine T.F_neutral.ok sc_neutral (fun vs H Q E h => ?_) (fun cdv A outer s H vs Q E hr h => ?_)
  · obtain ⟨o, rfl, _⟩ := h
    rfl
  · obtain ⟨o, rfl, ho, q⟩ := h
    refine ⟨_, (pss_one (ps_ret (pe_ix ix_kdict (pe_gq (by rfl) T.q_NEUTRAL) (pv 0) (fun _ _ => rfl)))), ?_⟩
    exact ⟨_, rfl, _, _, _, rfl, rfl, neut_at T o ho, q⟩
theorem foldW_snoc (o : Op) (d x : Int) (ws : List Int) : foldW o d (ws ++ [x]) = opf o (foldW o d ws) x := by
  unfold foldW
  rw [List.foldl_append]
  rfl
theorem take_snoc {ws : List Int} {i : Nat} {x : Int} (h : ws[i]? = some x) : ws.take (i + 1) = ws.take i ++ [x] := by
  rw [List.take_add_one, h]
  rfl
theorem intAt {ws : List Int} {i : Nat} {v : V} (h : (ws.map V.int)[i]? = some v) : ∃ x, v = V.int x ∧ ws[i]? = some x := by
  rw [List.getElem?_map] at h
  cases e : ws[i]? with
  | none => rw [e] at h; cases h
  | some u => rw [e] at h; exact ⟨u, (Option.some.inj h).symm, rfl⟩
theorem ok_fold (T : Tx w K mg) : FnOk P w K mg base CX0 4 T.a_fold T.d_fold ["op", "words"] (spFold K) := by
  refine T.F_fold.ok sc_fold (fun vs H Q E h => ?_) (fun cdv A outer s H vs Q E hr h => ?_)
  · obtain ⟨o, l, ws, rfl, _⟩ := h
    rfl
  · obtain ⟨o, l, ws, rfl, ho, hS, hW, q⟩ := h
    refine ⟨_, (pss_cons (ps_set (i := 2) sc_fold.nd rfl (.inl rfl) (pe_ix ix_kdict (pe_gq (by rfl) T.q_NEUTRAL) (pv 0) (fun _ _ => rfl)))
      (pss_cons (ps_for PassesOwn.never rfl (pi_list (pv 1)) (pg_name (i := 3) sc_fold.nd rfl (.inl rfl)) (pss_one (ps_set (i := 2) sc_fold.nd rfl (.inl rfl) (pe_call (ok_binary T) (hr.mono (by decide)) (by rfl) T.g_binary T.F_binary.kp T.b_binary .nil pass0 (pa_cons (pv 0) (pa_cons (pv 2) (pa_cons (pv 3) pa_nil)))))))
      (pss_one (ps_ret (pv 2))))), ?_⟩
    refine ⟨_, rfl, _, _, _, rfl, rfl, neut_at T o ho, ?_⟩
    refine ⟨_, rfl, l, rfl, ⟨_, hS⟩, for_list (K := K) (a := l) (xs := ws.map V.int) (fun i σ H' => ∃ y : Option V, σ = [some (.str o.s), some (.ref l), some (.int (foldW o (neut o) (ws.take i))), y] ∧ H' = H) ⟨none, rfl, rfl⟩ (fun i σ H' _ ⟨_, _, e⟩ => by rw [e]; exact hS) ?_ ?_⟩
    · rintro i v σ H' hv ⟨y, rfl, rfl⟩
      obtain ⟨x, rfl, hx⟩ := intAt hv
      have wx : W x := hW x (List.mem_of_getElem? hx)
      refine ⟨_, rfl, _, rfl, _, rfl, o, _, x, rfl, foldW_W o _ _ (neut_W o), wx, some (.int x), ?_, rfl⟩
      rw [take_snoc hx, foldW_snoc]
      rfl
    · rintro σ H' ⟨y, rfl, rfl⟩
      rw [List.length_map, List.take_length]
      exact ⟨_, rfl, q⟩
/-! ### the law -/
def sp_law (K : PySem.W.Frag) : Sp := fun vs H Q _ => ∃ (a : Addr) (ns : List Int), vs = [.ref a] ∧ SqL K H a (ns.map V.int) ∧ ns.length ≤ 63 ∧ ∀ H', Q (.bl true) H'
theorem dpAll_strs {K : PySem.W.Frag} {H : Hp} : ∀ xs : List Str, DpAll K H (xs.map V.str) (xs.map PyData.str)
  | [] => .nil
  | x :: r => .cons (.str x) (dpAll_strs r)
theorem dpAll_ints {K : PySem.W.Frag} {H : Hp} : ∀ xs : List Int, DpAll K H (xs.map V.int) (xs.map PyData.int)
  | [] => .nil
  | x :: r => .cons (.int x) (dpAll_ints r)
def dF : PyData := .tuple (foldsS.map PyData.str)
theorem dF_shaped : SeqAt.shaped dF = true := by decide +kernel
theorem dF_eq : PyData.eqv dF dF = true := by decide +kernel
theorem ints_eqv (ws : List Int) : PyData.eqv (.list (ws.map PyData.int)) (.list (ws.map PyData.int)) = true := SeqAt.eqv_refl _ (SeqAt.canLay_of_shaped (PySem.W.ke_shaped_ints ws))
def nrow : List (Key × V) := [(Sum.inr "add", .int 0), (Sum.inr "min", .int (2 ^ (31 : Int).toNat - 1)), (Sum.inr "max", .int (-(2 ^ (31 : Int).toNat))), (Sum.inr "and", .int (-1)), (Sum.inr "or", .int 0), (Sum.inr "xor", .int 0)]
theorem nrow_at (o : Op) (h : folds o = true) : valV (mergeK [] nrow) (Sum.inr o.s) = some (.int (neut o)) := by
  cases o <;> first | (cases h; done) | kernel_rfl
theorem swap_perm {ts ws : List Int} {i j : Nat} {x y : Int} (p : ts.Perm ws) (hx : ts[i]? = some x) (hy : ts[j]? = some y) : ((ts.set i y).set j x).Perm ws := by
  obtain ⟨h1, e1⟩ := List.getElem?_eq_some_iff.mp hx
  obtain ⟨h2, e2⟩ := List.getElem?_eq_some_iff.mp hy
  have q := List.set_set_perm h1 h2
  rw [e1, e2] at q
  exact q.trans p
theorem ok_law (T : Tx w K mg) : FnOk P w K mg base CX0 5 T.a_law T.d_law ["script"] (sp_law K) := by
  refine T.F_law.ok sc_law (fun vs H Q E h => ?_) (fun cdv A outer s H vs Q E hr h => ?_)
  · obtain ⟨a, ns, rfl, _⟩ := h
    rfl
  · obtain ⟨a, ns, rfl, hS, hlen, q⟩ := h
    refine ⟨_, (pss_cons (ps_set (i := 1) sc_law.nd rfl (.inr rfl) (pe_call (ok_law_stream T) (hr.mono (by decide)) (by rfl) T.g_law_stream T.F_law_stream.kp T.b_law_stream .nil pass0 (pa_cons (pv 0) pa_nil)))
      (pss_cons (ps_set (i := 2) sc_law.nd rfl (.inl rfl) (pe_op op_add (pe_op op_sub (pe_op op_mul (pe_call (ok_law_draw T) (hr.mono (by decide)) (by rfl) T.g_law_draw T.F_law_draw.kp T.b_law_draw .nil pass0 (pa_cons (pv 1) (pa_cons (pe_op op_pow pe_int pe_int) pa_nil))) pe_int) (pe_op op_mul (pe_op op_pow pe_int pe_int) pe_int)) (pe_call (ok_law_draw T) (hr.mono (by decide)) (by rfl) T.g_law_draw T.F_law_draw.kp T.b_law_draw .nil pass0 (pa_cons (pv 1) (pa_cons pe_int pa_nil)))))
      (C8.pss_cut (ps_if (pt_cmpR op_eq (pe_call (ok_law_draw T) (hr.mono (by decide)) (by rfl) T.g_law_draw T.F_law_draw.kp T.b_law_draw .nil pass0 (pa_cons (pv 1) (pa_cons pe_int pa_nil))) pe_int (nomark _)) (pss_one (ps_set (i := 2) sc_law.nd rfl (.inl rfl) (pe_op op_sub (pe_op op_add (pe_op op_mul (pe_op op_pow pe_int pe_int) (pe_op op_sub (pe_call (ok_law_draw T) (hr.mono (by decide)) (by rfl) T.g_law_draw T.F_law_draw.kp T.b_law_draw .nil pass0 (pa_cons (pv 1) (pa_cons pe_int pa_nil))) pe_int)) (pe_call (ok_law_draw T) (hr.mono (by decide)) (by rfl) T.g_law_draw T.F_law_draw.kp T.b_law_draw .nil pass0 (pa_cons (pv 1) (pa_cons pe_int pa_nil)))) pe_int))) pss_nil)
      (C8.pss_cut (ps_if (pt_cmpR op_eq (pe_call (ok_law_draw T) (hr.mono (by decide)) (by rfl) T.g_law_draw T.F_law_draw.kp T.b_law_draw .nil pass0 (pa_cons (pv 1) (pa_cons pe_int pa_nil))) pe_int (nomark _)) (pss_one (ps_set (i := 2) sc_law.nd rfl (.inl rfl) (pe_op op_add (pe_op op_mul (pe_op op_mul (pv 2) (pe_op op_pow pe_int pe_int)) (pe_op op_pow pe_int pe_int)) (pe_call (ok_law_draw T) (hr.mono (by decide)) (by rfl) T.g_law_draw T.F_law_draw.kp T.b_law_draw .nil pass0 (pa_cons (pv 1) (pa_cons (pe_op op_pow pe_int pe_int) pa_nil)))))) pss_nil)
      (pss_cons (ps_if (PW.pt (pw_or (pt_cmpR op_ne (pe_call (ok_wrapped T) (hr.mono (by decide)) (by rfl) T.g_wrapped T.F_wrapped.kp T.b_wrapped .nil pass0 (pa_cons (pv 2) pa_nil)) (pe_call (ok_law_wrapped T) (hr.mono (by decide)) (by rfl) T.g_law_wrapped T.F_law_wrapped.kp T.b_law_wrapped .nil pass0 (pa_cons (pv 2) pa_nil)) (nomark _)) (pw_or1 (pt_cmpR (op_neD hr.units) (pe_gq (by rfl) T.q_FOLDING) (pe_tup (pa_cons pe_str (pa_cons pe_str (pa_cons pe_str (pa_cons pe_str (pa_cons pe_str (pa_cons pe_str pa_nil))))))) (nomark _))))) (pss_one (ps_ret pe_bl)) pss_nil)
      (pss_cons (ps_setLc (i := 4) (own := [("k", 3)]) (g := gName 3) (tt := tYes) rfl sc_law.nd rfl rfl (sw_true rfl rfl rfl (by decide +kernel)) (pi_range1 (by rfl) T.z_range (pa_cons (pe_call (ok_law_draw T) (hr.mono (by decide)) (by rfl) T.g_law_draw T.F_law_draw.kp T.b_law_draw .nil pass0 (pa_cons (pv 1) (pa_cons pe_int pa_nil))) pa_nil)) (blkOk_by (N := ["script", "stream", "number", "k", "words", "turned", "at", "op", "least", "due", "word", "given"]) (sc := defScope s_law) (by decide +kernel)) (fun _ _ _ _ _ => (pg_name (i := 3) sc_law.nd rfl (.inl rfl))) (fun _ _ _ _ _ => pts_nil) (fun _ _ _ _ _ => (pe_call (ok_law_word T) (hr.mono (by decide)) (by rfl) T.g_law_word T.F_law_word.kp T.b_law_word .nil pass0 (pa_cons (pv 1) pa_nil))))
      (pss_cons (ps_set (i := 5) sc_law.nd rfl (.inl rfl) (pe_callTy call_list_of (by rfl) T.z_list (by decide +kernel) (pa_cons (pv 4) pa_nil)))
      (pss_cons (ps_for PassesOwn.never rfl (pi_range1 (by rfl) T.z_range (pa_cons (pe_callB call_len_seq (by rfl) T.z_len (by decide +kernel) (pa_cons (pv 5) pa_nil)) pa_nil)) (pg_name (i := 3) sc_law.nd rfl (.inl rfl)) (pss_cons (ps_set (i := 6) sc_law.nd rfl (.inl rfl) (pe_call (ok_law_draw T) (hr.mono (by decide)) (by rfl) T.g_law_draw T.F_law_draw.kp T.b_law_draw .nil pass0 (pa_cons (pv 1) (pa_cons (pe_callB call_len_seq (by rfl) T.z_len (by decide +kernel) (pa_cons (pv 5) pa_nil)) pa_nil))))
      (pss_one (ps_asg (pe_tup (pa_cons (pe_ix ix_list (pv 5) (pv 6) (fun _ _ => rfl)) (pa_cons (pe_ix ix_list (pv 5) (pv 3) (fun _ _ => rfl)) pa_nil))) (pg_tup rfl (pgs_cons (pg_sub (pv 5) (pv 3) set_list) (pgs_cons (pg_sub (pv 5) (pv 6) set_list) pgs_nil)))))))
      (pss_cons (ps_for PassesOwn.never rfl (pi_tup (pe_gq (by rfl) T.q_FOLDING)) (pg_name (i := 7) sc_law.nd rfl (.inr rfl)) (pss_cons (ps_set (i := 8) sc_law.nd rfl (.inr rfl) (pe_dget (hu_of hr) (pe_disp (pps_cons pe_str pe_int (pps_cons pe_str (pe_op op_sub (pe_op op_pow pe_int pe_int) pe_int) (pps_cons pe_str (pe_un un_neg (pe_op op_pow pe_int pe_int)) (pps_cons pe_str (pe_un un_neg pe_int) (pps_cons pe_str pe_int (pps_cons pe_str pe_int pps_nil)))))) (by rfl) (by rfl) (fun z => by cases z) (by decide)) (pv 7) (fun _ _ => rfl)))
      (pss_cons (ps_set (i := 9) sc_law.nd rfl (.inl rfl) (pv 8))
      (pss_cons (ps_for PassesOwn.never rfl (pi_list (pv 4)) (pg_name (i := 10) sc_law.nd rfl (.inl rfl)) (pss_one (ps_set (i := 9) sc_law.nd rfl (.inl rfl) (pe_call (ok_law_binary T) (hr.mono (by decide)) (by rfl) T.g_law_binary T.F_law_binary.kp T.b_law_binary .nil pass0 (pa_cons (pv 7) (pa_cons (pv 9) (pa_cons (pv 10) pa_nil)))))))
      (pss_cons (ps_set (i := 11) sc_law.nd rfl (.inl rfl) (pe_callTy call_list_of (by rfl) T.z_list (by decide +kernel) (pa_cons (pv 4) pa_nil)))
      (pss_cons (ps_if (PW.pt (pw_or (pt_cmpR op_ne (pe_call (ok_neutral T) (hr.mono (by decide)) (by rfl) T.g_neutral T.F_neutral.kp T.b_neutral .nil pass0 (pa_cons (pv 7) pa_nil)) (pv 8) (nomark _)) (pw_or (pt_cmpR op_ne (pe_call (ok_fold T) (hr.mono (by decide)) (by rfl) T.g_fold T.F_fold.kp T.b_fold .nil pass0 (pa_cons (pv 7) (pa_cons (pv 11) pa_nil))) (pv 9) (nomark _)) (pw_or (pt_cmpR (op_neD hr.units) (pv 11) (pv 4) (nomark _)) (pw_or1 (pt_cmpR op_ne (pe_call (ok_fold T) (hr.mono (by decide)) (by rfl) T.g_fold T.F_fold.kp T.b_fold .nil pass0 (pa_cons (pv 7) (pa_cons (pv 5) pa_nil))) (pv 9) (nomark _))))))) (pss_one (ps_ret pe_bl)) pss_nil)
      (pss_one (ps_if (pt_val (pe_callB (cr_any rfl) (by rfl) T.z_any (by decide +kernel) (pa_cons (pe_lc (own := [("word", 10)]) (g := gName 10) (tt := tYes) rfl sc_law.nd (pi_list (pv 4)) (blkOk_by (N := ["script", "stream", "number", "k", "words", "turned", "at", "op", "least", "due", "word", "given"]) (sc := defScope s_law) (by decide +kernel)) (fun _ _ _ _ _ => (pg_name (i := 10) sc_law.nd rfl (.inl rfl))) (fun _ _ _ _ _ => pts_nil) (fun _ _ _ _ _ => (pe_or (pe_cmpR op_ne (pe_call (ok_binary T) (hr.mono (by decide)) (by rfl) T.g_binary T.F_binary.kp T.b_binary .nil pass0 (pa_cons (pv 7) (pa_cons (pv 10) (pa_cons (pv 8) pa_nil)))) (pv 10) (nomark _)) (pe_one (pe_cmpR op_ne (pe_call (ok_binary T) (hr.mono (by decide)) (by rfl) T.g_binary T.F_binary.kp T.b_binary .nil pass0 (pa_cons (pv 7) (pa_cons (pv 8) (pa_cons (pv 10) pa_nil)))) (pv 10) (nomark _)))))) pa_nil))) (pss_one (ps_ret pe_bl)) pss_nil))))))))
      (pss_one (ps_ret pe_bl))))))))))), ?_⟩
    refine ⟨_, rfl, a, ns, rfl, hS, hlen, fun H1 p q0 s1 np nq0 S1 => ?_⟩
    have c60 : CPow 2 60 := ⟨by decide, by decide, by decide⟩
    have c40 : CPow 2 40 := ⟨by decide, by decide, by decide⟩
    have c33 : CPow 2 33 := ⟨by decide, by decide, by decide⟩
    have c31 : CPow 2 31 := ⟨by decide, by decide, by decide⟩
    -- number
    refine ⟨_, rfl, _, _, rfl, rfl, c60, p, q0, _, rfl, S1, by decide, by decide, fun v1 H2 _ _ b2 S2 => ?_⟩
    refine ⟨_, _, rfl, rfl, .inr ⟨by decide, by decide⟩, _, _, rfl, rfl, c60, _, _, rfl, rfl, .inr ⟨by decide, by decide⟩, _, _, rfl, rfl, ?_⟩
    refine ⟨_, rfl, p, q0, _, rfl, S2, by decide, by decide, fun v2 H3 _ _ b3 S3 => ⟨_, _, rfl, rfl, ?_⟩⟩
    refine ⟨fun σ' H' => ∃ n : Int, σ' = [some (.ref a), some (.ref p), some (.int n), none, none, none, none, none, none, none, none, none] ∧ Strm q0 H' p, ?_, ?_⟩
    · refine ⟨_, rfl, p, q0, _, rfl, S3, by decide, by decide, fun u H4 _ _ b4 S4 => ⟨rfl, _, rfl, ite2 (fun z => ?_) (fun z => ?_)⟩⟩
      · refine ⟨_, _, rfl, rfl, c31, _, rfl, p, q0, _, rfl, S4, by decide, by decide, fun u1 H5 _ _ b5 S5 => ⟨_, _, rfl, rfl, _, _, rfl, rfl, .inl ⟨by decide, by decide⟩, ?_⟩⟩
        refine ⟨_, rfl, p, q0, _, rfl, S5, by decide, by decide, fun u2 H6 _ _ b6 S6 => ⟨_, _, rfl, rfl, _, _, rfl, rfl, _, rfl, S6⟩⟩
      · exact ⟨_, rfl, S4⟩
    rintro σ' H4 ⟨n, rfl, S4⟩
    refine ⟨fun σ' H' => ∃ n : Int, σ' = [some (.ref a), some (.ref p), some (.int n), none, none, none, none, none, none, none, none, none] ∧ Strm q0 H' p, ?_, ?_⟩
    · refine ⟨_, rfl, p, q0, _, rfl, S4, by decide, by decide, fun u H5 _ _ b5 S5 => ⟨rfl, _, rfl, ite2 (fun z => ?_) (fun z => ?_)⟩⟩
      · refine ⟨_, rfl, _, _, rfl, rfl, c40, _, _, rfl, rfl, .inr ⟨by decide, by decide⟩, _, _, rfl, rfl, c40, _, _, rfl, rfl, .inr ⟨by decide, by decide⟩, ?_⟩
        refine ⟨_, rfl, _, _, rfl, rfl, c33, p, q0, _, rfl, S5, by decide, by decide, fun u2 H6 _ _ b6 S6 => ⟨_, _, rfl, rfl, _, rfl, S6⟩⟩
      · exact ⟨_, rfl, S5⟩
    rintro σ' H5 ⟨n, rfl, S5⟩
    -- wrapped
    refine ⟨_, rfl, _, rfl, _, rfl, _, rfl, rfl, _, rfl, ?_⟩
    rw [lwrap_eq, decide_eq_true rfl]
    refine iteF ⟨by show 6 ≤ sizeLine; decide, fun t nt => ?_⟩
    have S6 := S5.same (same_new (o := .tup [.str "add", .str "min", .str "max", .str "and", .str "or", .str "xor"]) nt)
    refine ⟨dF, dF, .tup (.inr T.t_FOLDING) (dpAll_strs foldsS), .tup (SqT.of upd_same) (dpAll_strs foldsS), dF_shaped, dF_shaped, _, rfl, ?_⟩
    rw [dF_eq]
    refine iteF ?_
    -- words
    refine ⟨_, rfl, p, q0, _, rfl, S6, by decide, by decide, fun many H7 m0 m1 b7 S7 => ?_⟩
    have nDp' : ∀ D, H7 D = none → D ≠ p := fun D h => S7.nep h
    refine ⟨_, rfl, by show -(2 ^ 62 : Int) ≤ many; omega, by show many < (2 ^ 62 : Int); omega, fun D nD => lc_range (n := many.toNat) (fun i H => ∃ ws : List Int, H D = some (.lst (ws.map V.int)) ∧ ws.length = i ∧ i ≤ 9 ∧ (∀ x ∈ ws, W x) ∧ Strm q0 H p) ⟨[], upd_same, rfl, by decide, (fun x hx => by cases hx), S7.same (same_new nD)⟩ ?_ ?_⟩
    · rintro i H8 hi ⟨ws, eD, el, e9, hW, S8⟩
      refine ⟨rfl, _, rfl, p, q0, rfl, S8, fun v H9 wv b9 S9 => ?_⟩
      have nDp := S7.nep nD
      have eD9 := b9 _ _ nDp eD
      refine ⟨_, eD9, ?_, ws ++ [v], ?_, ?_, by omega, ?_, ?_⟩
      · rw [List.length_map]; exact small1000 (by omega)
      · rw [upd_same, List.map_append]; rfl
      · rw [List.length_append]; show ws.length + 1 = i + 1; omega
      · intro x hx
        rcases List.mem_append.mp hx with h | h
        · exact hW x h
        · rw [List.mem_singleton.mp h]; exact wv
      · exact S9.upd nDp (S7.neq nD)
    rintro H8 ⟨ws, eD, el, e9, hW, S8⟩
    -- turned
    refine ⟨_, rfl, D, _, rfl, .inl (SqL.of eD), fun R nR => ?_⟩
    have nDR : D ≠ R := ne_of_none eD nR
    have len2 : ∀ m : Nat, m ≤ 9 → -(2 ^ 62 : Int) ≤ (m : Int) ∧ (m : Int) < 2 ^ 62 := fun m hm => by omega
    refine ⟨_, rfl, R, _, rfl, .inl (SqL.of upd_same), _, rfl, (len2 _ (by rw [List.length_map]; omega)).1, (len2 _ (by rw [List.length_map]; omega)).2, for_range (fun i σ H' => ∃ (y3 y6 : Option V) (ts : List Int), σ = [some (.ref a), some (.ref p), some (.int n), y3, some (.ref D), some (.ref R), y6, none, none, none, none, none] ∧ H' D = some (.lst (ws.map V.int)) ∧ H' R = some (.lst (ts.map V.int)) ∧ ts.Perm ws ∧ Strm q0 H' p) ⟨none, none, ws, rfl, by rw [upd_ne nDR]; exact eD, upd_same, .refl ws, S8.same (same_new nR)⟩ ?_ ?_⟩
    · rintro i σ H9 hi ⟨y3, y6, ts, rfl, hD, hR, pm, S9⟩
      have hiw : i < ts.length := by
        rw [pm.length_eq]
        rw [List.length_map] at hi
        omega
      have hRp : R ≠ p := S8.nep nR
      have hRq : R ≠ q0 := S8.neq nR
      have hDp : D ≠ p := nDp' D nD
      have hl9 : ((ts.map V.int).length : Int) ≤ 9 := by rw [List.length_map, pm.length_eq]; omega
      refine ⟨_, rfl, _, rfl, R, _, rfl, .inl (SqL.of hR), p, q0, _, rfl, S9, by rw [List.length_map]; omega, by omega, fun u H10 u0 u1 b10 S10 => ?_⟩
      have hD10 := b10 _ _ hDp hD
      have hR10 := b10 _ _ hRp hR
      obtain ⟨j, rfl⟩ : ∃ j : Nat, u = (j : Int) := ⟨u.toNat, by omega⟩
      have hj : j < ts.length := by rw [List.length_map] at u1; omega
      have gi : (ts.map V.int)[i]? = some (.int ts[i]) := by rw [List.getElem?_map, List.getElem?_eq_getElem hiw]; rfl
      have gj : (ts.map V.int)[j]? = some (.int ts[j]) := by rw [List.getElem?_map, List.getElem?_eq_getElem hj]; rfl
      have ai : atI (ts.map V.int) (0 + (i : Int)) = some (.int ts[i]) := by rw [Int.zero_add]; exact atI_nat gi
      refine ⟨_, rfl, _, rfl, R, _, _, _, rfl, rfl, SqL.of hR10, atI_nat gj, _, rfl, _, rfl, R, _, _, _, rfl, rfl, SqL.of hR10, ai, by show 2 ≤ sizeLine; decide, fun tp ntp => ?_⟩
      have hRt : R ≠ tp := ne_of_none hR10 ntp
      have hDt : D ≠ tp := ne_of_none hD10 ntp
      have hR11 : (upd H10 tp (.tup [.int ts[j], .int ts[i]])) R = some (.lst (ts.map V.int)) := by rw [upd_ne hRt]; exact hR10
      have ixi : ixN (ts.map V.int).length (0 + (i : Int)) = some i := by
        rw [List.length_map, Int.zero_add]; unfold ixN
        rw [if_pos (by omega), if_pos (by omega)]; rfl
      have ixj : ixN ((ts.map V.int).set i (.int ts[j])).length (j : Int) = some j := by
        rw [List.length_set, List.length_map]; unfold ixN
        rw [if_pos (by omega), if_pos (by omega)]; rfl
      refine ⟨tp, _, rfl, SqT.of upd_same, rfl, _, _, rfl, _, rfl, _, rfl, R, _, _, i, rfl, rfl, hR11, ixi, _, _, rfl, _, rfl, _, rfl, R, _, _, j, rfl, rfl, upd_same, ixj, rfl, ?_⟩
      refine ⟨_, _, (ts.set i ts[j]).set j ts[i], rfl, ?_, ?_, ?_, ?_⟩
      · rw [upd_ne nDR, upd_ne nDR, upd_ne hDt]; exact hD10
      · rw [upd_same, List.map_set, List.map_set]
      · exact swap_perm pm (List.getElem?_eq_getElem hiw) (List.getElem?_eq_getElem hj)
      · exact ((S10.same (same_new ntp)).upd hRp hRq).upd hRp hRq
    rintro σ H9 ⟨y3, y6, ts, rfl, hD, hR, pm, S9⟩
    -- for op in FOLDING
    have wW : ∀ x ∈ ts, W x := fun x h => hW x (pm.mem_iff.mp h)
    refine ⟨T.a_FOLDING, rfl, ⟨_, .inr T.t_FOLDING⟩, for_tup (K := K) (a := T.a_FOLDING) (xs := foldsS.map V.str) (fun i σ H' => ∃ (y3 y6 y7 y8 y9 y10 y11 : Option V), σ = [some (.ref a), some (.ref p), some (.int n), y3, some (.ref D), some (.ref R), y6, y7, y8, y9, y10, y11] ∧ Same H9 H') ⟨_, _, _, _, _, _, _, rfl, .refl _⟩ (fun i σ H' _ _ => .inr T.t_FOLDING) ?_ ?_⟩
    · rintro i v σ H10 hv ⟨y3, y6, y7, y8, y9, y10, y11, rfl, sm⟩
      obtain ⟨o, rfl, ho⟩ : ∃ o : Op, v = V.str o.s ∧ folds o = true := by
        match i, hv with
        | 0, hv => exact ⟨.add, (Option.some.inj hv).symm, rfl⟩
        | 1, hv => exact ⟨.min, (Option.some.inj hv).symm, rfl⟩
        | 2, hv => exact ⟨.max, (Option.some.inj hv).symm, rfl⟩
        | 3, hv => exact ⟨.and, (Option.some.inj hv).symm, rfl⟩
        | 4, hv => exact ⟨.or, (Option.some.inj hv).symm, rfl⟩
        | 5, hv => exact ⟨.xor, (Option.some.inj hv).symm, rfl⟩
        | j + 6, hv => cases hv
      intro d nd
      refine ⟨_, _, rfl, rfl, c31, _, _, rfl, rfl, _, _, rfl, rfl, c31, _, rfl, _, rfl, upd_same, nrow, rfl, by show 6 ≤ 15; decide, ?_⟩
      have sm1 : Same H9 (upd (upd H10 d (.dK [])) d (.dK (mergeK [] nrow))) := fun c u nn => by
        have nc : c ≠ d := ne_of_none (sm _ _ nn) nd
        rw [upd_ne nc, upd_ne nc]
        exact sm _ _ nn
      refine ⟨_, rfl, d, _, rfl, dget (k := Sum.inr o.s) upd_same (nrow_at o ho), ?_⟩
      -- due
      refine ⟨_, rfl, ?_⟩
      refine ⟨_, rfl, D, rfl, ⟨_, SqL.of (sm1 _ _ hD)⟩, for_list (K := K) (a := D) (xs := ws.map V.int) (fun i σ H' => ∃ y10 : Option V, σ = [some (.ref a), some (.ref p), some (.int n), y3, some (.ref D), some (.ref R), y6, some (.str o.s), some (.int (neut o)), some (.int (foldW o (neut o) (ws.take i))), y10, y11] ∧ Same H9 H') ⟨_, rfl, sm1⟩ (fun i σ H' _ ⟨_, _, e⟩ => SqL.of (e _ _ hD)) ?_ ?_⟩
      · rintro i v σ H11 hv ⟨y10, rfl, sm2⟩
        obtain ⟨x, rfl, hx⟩ := intAt hv
        have wx : W x := hW x (List.mem_of_getElem? hx)
        refine ⟨_, rfl, _, rfl, _, rfl, o, _, x, rfl, foldW_W o _ _ (neut_W o), wx, fun H12 s12 => ⟨some (.int x), ?_, sm2.trans s12⟩⟩
        rw [take_snoc hx, foldW_snoc]
        rfl
      rintro σ H11 ⟨y10, rfl, sm2⟩
      rw [List.length_map, List.take_length]
      -- given
      refine ⟨_, rfl, D, _, rfl, .inl (SqL.of (sm2 _ _ hD)), fun G nG => ?_⟩
      have sm3 := sm2.trans (same_new (o := .lst (ws.map V.int)) nG)
      refine ⟨_, rfl, o, rfl, ho, _, rfl, rfl, _, rfl, iteNS rfl ?_⟩
      refine ⟨_, rfl, _, rfl, o, G, ws, rfl, ho, SqL.of upd_same, hW, _, rfl, rfl, _, rfl, iteNS rfl ?_⟩
      refine ⟨_, rfl, _, rfl, _, _, .lst (SqL.of upd_same) (dpAll_ints ws), .lst (SqL.of (sm3 _ _ hD)) (dpAll_ints ws), PySem.W.ke_shaped_ints ws, PySem.W.ke_shaped_ints ws, _, rfl, ?_⟩
      rw [ints_eqv]
      refine iteF ⟨_, rfl, _, rfl, o, R, ts, rfl, ho, SqL.of (sm3 _ _ hR), wW, _, rfl, rfl, _, rfl, ?_⟩
      rw [foldW_perm o ho pm _ (neut_W o) wW, decide_eq_true rfl]
      refine iteF ?_
      -- any
      have sm4 := sm3
      refine ⟨_, rfl, D, rfl, ⟨_, SqL.of (sm4 _ _ hD)⟩, fun L nL => lc_list (K := K) (a := D) (xs := ws.map V.int) (fun i H' => H' L = some (.lst ((List.replicate i false).map V.bl)) ∧ i ≤ 9 ∧ Same H9 H') ⟨upd_same, by decide, sm4.trans (same_new nL)⟩ (fun i H' _ ⟨_, _, e⟩ => SqL.of (e _ _ hD)) ?_ ?_⟩
      · rintro i v H12 hv ⟨hL, h9, sm5⟩
        obtain ⟨x, rfl, hx⟩ := intAt hv
        have wx : W x := hW x (List.mem_of_getElem? hx)
        have i8 : i < ws.length := (List.getElem?_eq_some_iff.mp hx).1
        have ea : wrap (act o x (neut o)) = x := opf_neut o ho wx
        have eb : wrap (act o (neut o) x) = x := opf_neut' o ho wx
        refine ⟨rfl, _, rfl, _, rfl, _, rfl, o, x, neut o, rfl, wx, neut_W o, _, rfl, rfl, _, rfl, iteNS (by rw [ea]) ?_⟩
        refine ⟨_, rfl, _, rfl, _, rfl, o, neut o, x, rfl, neut_W o, wx, _, rfl, rfl, _, hL, ?_, ?_, by omega, ?_⟩
        · rw [List.length_map, List.length_replicate]; exact small1000 (by omega)
        · rw [eb, decide_eq_true rfl, upd_same, List.replicate_succ', List.map_append]
          rfl
        · intro c u nn
          have nc : c ≠ L := ne_of_none (sm4 _ _ nn) nL
          rw [upd_ne nc]
          exact sm5 _ _ nn
      rintro H12 ⟨hL, h9, sm5⟩
      refine ⟨L, _, rfl, SqL.of hL, _, rfl, ?_⟩
      have e : (List.replicate (ws.map V.int).length false).any id = false := by simp
      rw [e]
      exact iteF ⟨_, _, _, _, _, _, _, rfl, sm5⟩
    · rintro σ H10 ⟨y3, y6, y7, y8, y9, y10, y11, rfl, sm⟩
      exact q _
end
/-! ### what the top has written, the end -/
theorem all_mk {l : PySem.W.OpenLaw} {w : World} {K : PySem.W.Frag} {h : Heap} {mg : Str → Option Value} {fa : Addr} (X : K.In h) (G : h.Ns mainGlobals mg) (hfa : mg "law" = some (.ref fa))
    {fwrapped : Addr} {odwrapped anwrapped : Option Addr} {slwrapped : Array (Option Value)} {ocwrapped kVwrapped dcwrapped pmwrapped cdwrapped ctwrapped : Value}
    {fsum_of : Addr} {odsum_of ansum_of : Option Addr} {slsum_of : Array (Option Value)} {ocsum_of kVsum_of dcsum_of pmsum_of cdsum_of ctsum_of : Value}
    {fdifference : Addr} {oddifference andifference : Option Addr} {sldifference : Array (Option Value)} {ocdifference kVdifference dcdifference pmdifference cddifference ctdifference : Value}
    {fproduct_of : Addr} {odproduct_of anproduct_of : Option Addr} {slproduct_of : Array (Option Value)} {ocproduct_of kVproduct_of dcproduct_of pmproduct_of cdproduct_of ctproduct_of : Value}
    {fquotient : Addr} {odquotient anquotient : Option Addr} {slquotient : Array (Option Value)} {ocquotient kVquotient dcquotient pmquotient cdquotient ctquotient : Value}
    {fremainder : Addr} {odremainder anremainder : Option Addr} {slremainder : Array (Option Value)} {ocremainder kVremainder dcremainder pmremainder cdremainder ctremainder : Value}
    {fbits_of_both : Addr} {odbits_of_both anbits_of_both : Option Addr} {slbits_of_both : Array (Option Value)} {ocbits_of_both kVbits_of_both dcbits_of_both pmbits_of_both cdbits_of_both ctbits_of_both : Value}
    {fbits_of_any : Addr} {odbits_of_any anbits_of_any : Option Addr} {slbits_of_any : Array (Option Value)} {ocbits_of_any kVbits_of_any dcbits_of_any pmbits_of_any cdbits_of_any ctbits_of_any : Value}
    {fbits_of_one : Addr} {odbits_of_one anbits_of_one : Option Addr} {slbits_of_one : Array (Option Value)} {ocbits_of_one kVbits_of_one dcbits_of_one pmbits_of_one cdbits_of_one ctbits_of_one : Value}
    {fshifted_left : Addr} {odshifted_left anshifted_left : Option Addr} {slshifted_left : Array (Option Value)} {ocshifted_left kVshifted_left dcshifted_left pmshifted_left cdshifted_left ctshifted_left : Value}
    {fshifted_right : Addr} {odshifted_right anshifted_right : Option Addr} {slshifted_right : Array (Option Value)} {ocshifted_right kVshifted_right dcshifted_right pmshifted_right cdshifted_right ctshifted_right : Value}
    {fis_less : Addr} {odis_less anis_less : Option Addr} {slis_less : Array (Option Value)} {ocis_less kVis_less dcis_less pmis_less cdis_less ctis_less : Value}
    {fis_at_most : Addr} {odis_at_most anis_at_most : Option Addr} {slis_at_most : Array (Option Value)} {ocis_at_most kVis_at_most dcis_at_most pmis_at_most cdis_at_most ctis_at_most : Value}
    {fis_equal : Addr} {odis_equal anis_equal : Option Addr} {slis_equal : Array (Option Value)} {ocis_equal kVis_equal dcis_equal pmis_equal cdis_equal ctis_equal : Value}
    {fis_other : Addr} {odis_other anis_other : Option Addr} {slis_other : Array (Option Value)} {ocis_other kVis_other dcis_other pmis_other cdis_other ctis_other : Value}
    {flesser : Addr} {odlesser anlesser : Option Addr} {sllesser : Array (Option Value)} {oclesser kVlesser dclesser pmlesser cdlesser ctlesser : Value}
    {fgreater : Addr} {odgreater angreater : Option Addr} {slgreater : Array (Option Value)} {ocgreater kVgreater dcgreater pmgreater cdgreater ctgreater : Value}
    {fbinary : Addr} {odbinary anbinary : Option Addr} {slbinary : Array (Option Value)} {ocbinary kVbinary dcbinary pmbinary cdbinary ctbinary : Value}
    {fneutral : Addr} {odneutral anneutral : Option Addr} {slneutral : Array (Option Value)} {ocneutral kVneutral dcneutral pmneutral cdneutral ctneutral : Value}
    {ffold : Addr} {odfold anfold : Option Addr} {slfold : Array (Option Value)} {ocfold kVfold dcfold pmfold cdfold ctfold : Value}
    {flaw_stream : Addr} {odlaw_stream anlaw_stream : Option Addr} {sllaw_stream : Array (Option Value)} {oclaw_stream kVlaw_stream dclaw_stream pmlaw_stream cdlaw_stream ctlaw_stream : Value}
    {flaw_draw : Addr} {odlaw_draw anlaw_draw : Option Addr} {sllaw_draw : Array (Option Value)} {oclaw_draw kVlaw_draw dclaw_draw pmlaw_draw cdlaw_draw ctlaw_draw : Value}
    {flaw_word : Addr} {odlaw_word anlaw_word : Option Addr} {sllaw_word : Array (Option Value)} {oclaw_word kVlaw_word dclaw_word pmlaw_word cdlaw_word ctlaw_word : Value}
    {flaw_wrapped : Addr} {odlaw_wrapped anlaw_wrapped : Option Addr} {sllaw_wrapped : Array (Option Value)} {oclaw_wrapped kVlaw_wrapped dclaw_wrapped pmlaw_wrapped cdlaw_wrapped ctlaw_wrapped : Value}
    {flaw_bits : Addr} {odlaw_bits anlaw_bits : Option Addr} {sllaw_bits : Array (Option Value)} {oclaw_bits kVlaw_bits dclaw_bits pmlaw_bits cdlaw_bits ctlaw_bits : Value}
    {flaw_shifted : Addr} {odlaw_shifted anlaw_shifted : Option Addr} {sllaw_shifted : Array (Option Value)} {oclaw_shifted kVlaw_shifted dclaw_shifted pmlaw_shifted cdlaw_shifted ctlaw_shifted : Value}
    {flaw_binary : Addr} {odlaw_binary anlaw_binary : Option Addr} {sllaw_binary : Array (Option Value)} {oclaw_binary kVlaw_binary dclaw_binary pmlaw_binary cdlaw_binary ctlaw_binary : Value}
    {flaw : Addr} {odlaw anlaw : Option Addr} {sllaw : Array (Option Value)} {oclaw kVlaw dclaw pmlaw cdlaw ctlaw : Value}
    {tLEAST : Tok}
    {pFOLDING : Addr} {odFOLDING : Option Addr} {itsFOLDING : Array Value} {nFOLDING : Nat} {slFOLDING : Array (Option Value)}
    {pNEUTRAL : Addr} {esNEUTRAL : Array DictEntry} {nNEUTRAL : Nat}
    {tNEUTRAL_add : Tok}
    {tNEUTRAL_min : Tok}
    {tNEUTRAL_max : Tok}
    {tNEUTRAL_and : Tok}
    {tNEUTRAL_or : Tok}
    {tNEUTRAL_xor : Tok}
    {pBINARY_ACTIONS : Addr} {esBINARY_ACTIONS : Array DictEntry} {nBINARY_ACTIONS : Nat}
    (awrapped : PySem.W.nsIn K mainGlobals "wrapped" = some (some (.ref fwrapped)))
    (lwrapped : K.lookup fwrapped = some ⟨ocwrapped, odwrapped, .func (PySem.W.fnOf "wrapped" "wrapped" (defArgs s_wrapped) (defBody s_wrapped) (defScope s_wrapped) .none kVwrapped dcwrapped pmwrapped anwrapped cdwrapped ctwrapped), slwrapped⟩)
    (cwrapped : PySem.W.codeIn K cdwrapped "wrapped" = true)
    (kwrapped : PySem.W.keepIn K (.ref fwrapped) = true)
    (asum_of : PySem.W.nsIn K mainGlobals "sum_of" = some (some (.ref fsum_of)))
    (lsum_of : K.lookup fsum_of = some ⟨ocsum_of, odsum_of, .func (PySem.W.fnOf "sum_of" "sum_of" (defArgs s_sum_of) (defBody s_sum_of) (defScope s_sum_of) .none kVsum_of dcsum_of pmsum_of ansum_of cdsum_of ctsum_of), slsum_of⟩)
    (csum_of : PySem.W.codeIn K cdsum_of "sum_of" = true)
    (ksum_of : PySem.W.keepIn K (.ref fsum_of) = true)
    (adifference : PySem.W.nsIn K mainGlobals "difference" = some (some (.ref fdifference)))
    (ldifference : K.lookup fdifference = some ⟨ocdifference, oddifference, .func (PySem.W.fnOf "difference" "difference" (defArgs s_difference) (defBody s_difference) (defScope s_difference) .none kVdifference dcdifference pmdifference andifference cddifference ctdifference), sldifference⟩)
    (cdifference : PySem.W.codeIn K cddifference "difference" = true)
    (kdifference : PySem.W.keepIn K (.ref fdifference) = true)
    (aproduct_of : PySem.W.nsIn K mainGlobals "product_of" = some (some (.ref fproduct_of)))
    (lproduct_of : K.lookup fproduct_of = some ⟨ocproduct_of, odproduct_of, .func (PySem.W.fnOf "product_of" "product_of" (defArgs s_product_of) (defBody s_product_of) (defScope s_product_of) .none kVproduct_of dcproduct_of pmproduct_of anproduct_of cdproduct_of ctproduct_of), slproduct_of⟩)
    (cproduct_of : PySem.W.codeIn K cdproduct_of "product_of" = true)
    (kproduct_of : PySem.W.keepIn K (.ref fproduct_of) = true)
    (aquotient : PySem.W.nsIn K mainGlobals "quotient" = some (some (.ref fquotient)))
    (lquotient : K.lookup fquotient = some ⟨ocquotient, odquotient, .func (PySem.W.fnOf "quotient" "quotient" (defArgs s_quotient) (defBody s_quotient) (defScope s_quotient) .none kVquotient dcquotient pmquotient anquotient cdquotient ctquotient), slquotient⟩)
    (cquotient : PySem.W.codeIn K cdquotient "quotient" = true)
    (kquotient : PySem.W.keepIn K (.ref fquotient) = true)
    (aremainder : PySem.W.nsIn K mainGlobals "remainder" = some (some (.ref fremainder)))
    (lremainder : K.lookup fremainder = some ⟨ocremainder, odremainder, .func (PySem.W.fnOf "remainder" "remainder" (defArgs s_remainder) (defBody s_remainder) (defScope s_remainder) .none kVremainder dcremainder pmremainder anremainder cdremainder ctremainder), slremainder⟩)
    (cremainder : PySem.W.codeIn K cdremainder "remainder" = true)
    (kremainder : PySem.W.keepIn K (.ref fremainder) = true)
    (abits_of_both : PySem.W.nsIn K mainGlobals "bits_of_both" = some (some (.ref fbits_of_both)))
    (lbits_of_both : K.lookup fbits_of_both = some ⟨ocbits_of_both, odbits_of_both, .func (PySem.W.fnOf "bits_of_both" "bits_of_both" (defArgs s_bits_of_both) (defBody s_bits_of_both) (defScope s_bits_of_both) .none kVbits_of_both dcbits_of_both pmbits_of_both anbits_of_both cdbits_of_both ctbits_of_both), slbits_of_both⟩)
    (cbits_of_both : PySem.W.codeIn K cdbits_of_both "bits_of_both" = true)
    (kbits_of_both : PySem.W.keepIn K (.ref fbits_of_both) = true)
    (abits_of_any : PySem.W.nsIn K mainGlobals "bits_of_any" = some (some (.ref fbits_of_any)))
    (lbits_of_any : K.lookup fbits_of_any = some ⟨ocbits_of_any, odbits_of_any, .func (PySem.W.fnOf "bits_of_any" "bits_of_any" (defArgs s_bits_of_any) (defBody s_bits_of_any) (defScope s_bits_of_any) .none kVbits_of_any dcbits_of_any pmbits_of_any anbits_of_any cdbits_of_any ctbits_of_any), slbits_of_any⟩)
    (cbits_of_any : PySem.W.codeIn K cdbits_of_any "bits_of_any" = true)
    (kbits_of_any : PySem.W.keepIn K (.ref fbits_of_any) = true)
    (abits_of_one : PySem.W.nsIn K mainGlobals "bits_of_one" = some (some (.ref fbits_of_one)))
    (lbits_of_one : K.lookup fbits_of_one = some ⟨ocbits_of_one, odbits_of_one, .func (PySem.W.fnOf "bits_of_one" "bits_of_one" (defArgs s_bits_of_one) (defBody s_bits_of_one) (defScope s_bits_of_one) .none kVbits_of_one dcbits_of_one pmbits_of_one anbits_of_one cdbits_of_one ctbits_of_one), slbits_of_one⟩)
    (cbits_of_one : PySem.W.codeIn K cdbits_of_one "bits_of_one" = true)
    (kbits_of_one : PySem.W.keepIn K (.ref fbits_of_one) = true)
    (ashifted_left : PySem.W.nsIn K mainGlobals "shifted_left" = some (some (.ref fshifted_left)))
    (lshifted_left : K.lookup fshifted_left = some ⟨ocshifted_left, odshifted_left, .func (PySem.W.fnOf "shifted_left" "shifted_left" (defArgs s_shifted_left) (defBody s_shifted_left) (defScope s_shifted_left) .none kVshifted_left dcshifted_left pmshifted_left anshifted_left cdshifted_left ctshifted_left), slshifted_left⟩)
    (cshifted_left : PySem.W.codeIn K cdshifted_left "shifted_left" = true)
    (kshifted_left : PySem.W.keepIn K (.ref fshifted_left) = true)
    (ashifted_right : PySem.W.nsIn K mainGlobals "shifted_right" = some (some (.ref fshifted_right)))
    (lshifted_right : K.lookup fshifted_right = some ⟨ocshifted_right, odshifted_right, .func (PySem.W.fnOf "shifted_right" "shifted_right" (defArgs s_shifted_right) (defBody s_shifted_right) (defScope s_shifted_right) .none kVshifted_right dcshifted_right pmshifted_right anshifted_right cdshifted_right ctshifted_right), slshifted_right⟩)
    (cshifted_right : PySem.W.codeIn K cdshifted_right "shifted_right" = true)
    (kshifted_right : PySem.W.keepIn K (.ref fshifted_right) = true)
    (ais_less : PySem.W.nsIn K mainGlobals "is_less" = some (some (.ref fis_less)))
    (lis_less : K.lookup fis_less = some ⟨ocis_less, odis_less, .func (PySem.W.fnOf "is_less" "is_less" (defArgs s_is_less) (defBody s_is_less) (defScope s_is_less) .none kVis_less dcis_less pmis_less anis_less cdis_less ctis_less), slis_less⟩)
    (cis_less : PySem.W.codeIn K cdis_less "is_less" = true)
    (kis_less : PySem.W.keepIn K (.ref fis_less) = true)
    (ais_at_most : PySem.W.nsIn K mainGlobals "is_at_most" = some (some (.ref fis_at_most)))
    (lis_at_most : K.lookup fis_at_most = some ⟨ocis_at_most, odis_at_most, .func (PySem.W.fnOf "is_at_most" "is_at_most" (defArgs s_is_at_most) (defBody s_is_at_most) (defScope s_is_at_most) .none kVis_at_most dcis_at_most pmis_at_most anis_at_most cdis_at_most ctis_at_most), slis_at_most⟩)
    (cis_at_most : PySem.W.codeIn K cdis_at_most "is_at_most" = true)
    (kis_at_most : PySem.W.keepIn K (.ref fis_at_most) = true)
    (ais_equal : PySem.W.nsIn K mainGlobals "is_equal" = some (some (.ref fis_equal)))
    (lis_equal : K.lookup fis_equal = some ⟨ocis_equal, odis_equal, .func (PySem.W.fnOf "is_equal" "is_equal" (defArgs s_is_equal) (defBody s_is_equal) (defScope s_is_equal) .none kVis_equal dcis_equal pmis_equal anis_equal cdis_equal ctis_equal), slis_equal⟩)
    (cis_equal : PySem.W.codeIn K cdis_equal "is_equal" = true)
    (kis_equal : PySem.W.keepIn K (.ref fis_equal) = true)
    (ais_other : PySem.W.nsIn K mainGlobals "is_other" = some (some (.ref fis_other)))
    (lis_other : K.lookup fis_other = some ⟨ocis_other, odis_other, .func (PySem.W.fnOf "is_other" "is_other" (defArgs s_is_other) (defBody s_is_other) (defScope s_is_other) .none kVis_other dcis_other pmis_other anis_other cdis_other ctis_other), slis_other⟩)
    (cis_other : PySem.W.codeIn K cdis_other "is_other" = true)
    (kis_other : PySem.W.keepIn K (.ref fis_other) = true)
    (alesser : PySem.W.nsIn K mainGlobals "lesser" = some (some (.ref flesser)))
    (llesser : K.lookup flesser = some ⟨oclesser, odlesser, .func (PySem.W.fnOf "lesser" "lesser" (defArgs s_lesser) (defBody s_lesser) (defScope s_lesser) .none kVlesser dclesser pmlesser anlesser cdlesser ctlesser), sllesser⟩)
    (clesser : PySem.W.codeIn K cdlesser "lesser" = true)
    (klesser : PySem.W.keepIn K (.ref flesser) = true)
    (agreater : PySem.W.nsIn K mainGlobals "greater" = some (some (.ref fgreater)))
    (lgreater : K.lookup fgreater = some ⟨ocgreater, odgreater, .func (PySem.W.fnOf "greater" "greater" (defArgs s_greater) (defBody s_greater) (defScope s_greater) .none kVgreater dcgreater pmgreater angreater cdgreater ctgreater), slgreater⟩)
    (cgreater : PySem.W.codeIn K cdgreater "greater" = true)
    (kgreater : PySem.W.keepIn K (.ref fgreater) = true)
    (abinary : PySem.W.nsIn K mainGlobals "binary" = some (some (.ref fbinary)))
    (lbinary : K.lookup fbinary = some ⟨ocbinary, odbinary, .func (PySem.W.fnOf "binary" "binary" (defArgs s_binary) (defBody s_binary) (defScope s_binary) .none kVbinary dcbinary pmbinary anbinary cdbinary ctbinary), slbinary⟩)
    (cbinary : PySem.W.codeIn K cdbinary "binary" = true)
    (kbinary : PySem.W.keepIn K (.ref fbinary) = true)
    (aneutral : PySem.W.nsIn K mainGlobals "neutral" = some (some (.ref fneutral)))
    (lneutral : K.lookup fneutral = some ⟨ocneutral, odneutral, .func (PySem.W.fnOf "neutral" "neutral" (defArgs s_neutral) (defBody s_neutral) (defScope s_neutral) .none kVneutral dcneutral pmneutral anneutral cdneutral ctneutral), slneutral⟩)
    (cneutral : PySem.W.codeIn K cdneutral "neutral" = true)
    (kneutral : PySem.W.keepIn K (.ref fneutral) = true)
    (afold : PySem.W.nsIn K mainGlobals "fold" = some (some (.ref ffold)))
    (lfold : K.lookup ffold = some ⟨ocfold, odfold, .func (PySem.W.fnOf "fold" "fold" (defArgs s_fold) (defBody s_fold) (defScope s_fold) .none kVfold dcfold pmfold anfold cdfold ctfold), slfold⟩)
    (cfold : PySem.W.codeIn K cdfold "fold" = true)
    (kfold : PySem.W.keepIn K (.ref ffold) = true)
    (alaw_stream : PySem.W.nsIn K mainGlobals "_law_stream" = some (some (.ref flaw_stream)))
    (llaw_stream : K.lookup flaw_stream = some ⟨oclaw_stream, odlaw_stream, .func (PySem.W.fnOf "_law_stream" "_law_stream" (defArgs s_law_stream) (defBody s_law_stream) (defScope s_law_stream) .none kVlaw_stream dclaw_stream pmlaw_stream anlaw_stream cdlaw_stream ctlaw_stream), sllaw_stream⟩)
    (claw_stream : PySem.W.codeIn K cdlaw_stream "_law_stream" = true)
    (klaw_stream : PySem.W.keepIn K (.ref flaw_stream) = true)
    (alaw_draw : PySem.W.nsIn K mainGlobals "_law_draw" = some (some (.ref flaw_draw)))
    (llaw_draw : K.lookup flaw_draw = some ⟨oclaw_draw, odlaw_draw, .func (PySem.W.fnOf "_law_draw" "_law_draw" (defArgs s_law_draw) (defBody s_law_draw) (defScope s_law_draw) .none kVlaw_draw dclaw_draw pmlaw_draw anlaw_draw cdlaw_draw ctlaw_draw), sllaw_draw⟩)
    (claw_draw : PySem.W.codeIn K cdlaw_draw "_law_draw" = true)
    (klaw_draw : PySem.W.keepIn K (.ref flaw_draw) = true)
    (alaw_word : PySem.W.nsIn K mainGlobals "_law_word" = some (some (.ref flaw_word)))
    (llaw_word : K.lookup flaw_word = some ⟨oclaw_word, odlaw_word, .func (PySem.W.fnOf "_law_word" "_law_word" (defArgs s_law_word) (defBody s_law_word) (defScope s_law_word) .none kVlaw_word dclaw_word pmlaw_word anlaw_word cdlaw_word ctlaw_word), sllaw_word⟩)
    (claw_word : PySem.W.codeIn K cdlaw_word "_law_word" = true)
    (klaw_word : PySem.W.keepIn K (.ref flaw_word) = true)
    (alaw_wrapped : PySem.W.nsIn K mainGlobals "_law_wrapped" = some (some (.ref flaw_wrapped)))
    (llaw_wrapped : K.lookup flaw_wrapped = some ⟨oclaw_wrapped, odlaw_wrapped, .func (PySem.W.fnOf "_law_wrapped" "_law_wrapped" (defArgs s_law_wrapped) (defBody s_law_wrapped) (defScope s_law_wrapped) .none kVlaw_wrapped dclaw_wrapped pmlaw_wrapped anlaw_wrapped cdlaw_wrapped ctlaw_wrapped), sllaw_wrapped⟩)
    (claw_wrapped : PySem.W.codeIn K cdlaw_wrapped "_law_wrapped" = true)
    (klaw_wrapped : PySem.W.keepIn K (.ref flaw_wrapped) = true)
    (alaw_bits : PySem.W.nsIn K mainGlobals "_law_bits" = some (some (.ref flaw_bits)))
    (llaw_bits : K.lookup flaw_bits = some ⟨oclaw_bits, odlaw_bits, .func (PySem.W.fnOf "_law_bits" "_law_bits" (defArgs s_law_bits) (defBody s_law_bits) (defScope s_law_bits) .none kVlaw_bits dclaw_bits pmlaw_bits anlaw_bits cdlaw_bits ctlaw_bits), sllaw_bits⟩)
    (claw_bits : PySem.W.codeIn K cdlaw_bits "_law_bits" = true)
    (klaw_bits : PySem.W.keepIn K (.ref flaw_bits) = true)
    (alaw_shifted : PySem.W.nsIn K mainGlobals "_law_shifted" = some (some (.ref flaw_shifted)))
    (llaw_shifted : K.lookup flaw_shifted = some ⟨oclaw_shifted, odlaw_shifted, .func (PySem.W.fnOf "_law_shifted" "_law_shifted" (defArgs s_law_shifted) (defBody s_law_shifted) (defScope s_law_shifted) .none kVlaw_shifted dclaw_shifted pmlaw_shifted anlaw_shifted cdlaw_shifted ctlaw_shifted), sllaw_shifted⟩)
    (claw_shifted : PySem.W.codeIn K cdlaw_shifted "_law_shifted" = true)
    (klaw_shifted : PySem.W.keepIn K (.ref flaw_shifted) = true)
    (alaw_binary : PySem.W.nsIn K mainGlobals "_law_binary" = some (some (.ref flaw_binary)))
    (llaw_binary : K.lookup flaw_binary = some ⟨oclaw_binary, odlaw_binary, .func (PySem.W.fnOf "_law_binary" "_law_binary" (defArgs s_law_binary) (defBody s_law_binary) (defScope s_law_binary) .none kVlaw_binary dclaw_binary pmlaw_binary anlaw_binary cdlaw_binary ctlaw_binary), sllaw_binary⟩)
    (claw_binary : PySem.W.codeIn K cdlaw_binary "_law_binary" = true)
    (klaw_binary : PySem.W.keepIn K (.ref flaw_binary) = true)
    (alaw : PySem.W.nsIn K mainGlobals "law" = some (some (.ref flaw)))
    (llaw : K.lookup flaw = some ⟨oclaw, odlaw, .func (PySem.W.fnOf "law" "law" (defArgs s_law) (defBody s_law) (defScope s_law) .none kVlaw dclaw pmlaw anlaw cdlaw ctlaw), sllaw⟩)
    (claw : PySem.W.codeIn K cdlaw "law" = true)
    (klaw : PySem.W.keepIn K (.ref flaw) = true)
    (zabs : PySem.W.nsIn K mainGlobals "abs" = some none)
    (zany : PySem.W.nsIn K mainGlobals "any" = some none)
    (zint : PySem.W.nsIn K mainGlobals "int" = some none)
    (zlen : PySem.W.nsIn K mainGlobals "len" = some none)
    (zlist : PySem.W.nsIn K mainGlobals "list" = some none)
    (zmax : PySem.W.nsIn K mainGlobals "max" = some none)
    (zmin : PySem.W.nsIn K mainGlobals "min" = some none)
    (zrange : PySem.W.nsIn K mainGlobals "range" = some none)
    (iLEAST : PySem.W.nsIn K mainGlobals "LEAST" = some (some (.int (-2147483648) tLEAST)))
    (aFOLDING : PySem.W.nsIn K mainGlobals "FOLDING" = some (some (.ref pFOLDING)))
    (lFOLDING : K.lookup pFOLDING = some ⟨.type "tuple", odFOLDING, .seq itsFOLDING nFOLDING, slFOLDING⟩)
    (mFOLDING : itsFOLDING.size ≤ sizeLine)
    (vFOLDING : Vals ([.str "add", .str "min", .str "max", .str "and", .str "or", .str "xor"]) itsFOLDING.toList)
    (aNEUTRAL : PySem.W.nsIn K mainGlobals "NEUTRAL" = some (some (.ref pNEUTRAL)))
    (lNEUTRAL : K.lookup pNEUTRAL = some ⟨.type "dict", none, .dict esNEUTRAL nNEUTRAL, #[]⟩)
    (vNEUTRAL : PySem.W.KeysLit w.params esNEUTRAL.toList)
    (eNEUTRAL_add : PySem.W.nsIn K pNEUTRAL "add" = some (some (.int (0) tNEUTRAL_add)))
    (eNEUTRAL_min : PySem.W.nsIn K pNEUTRAL "min" = some (some (.int (2147483647) tNEUTRAL_min)))
    (eNEUTRAL_max : PySem.W.nsIn K pNEUTRAL "max" = some (some (.int (-2147483648) tNEUTRAL_max)))
    (eNEUTRAL_and : PySem.W.nsIn K pNEUTRAL "and" = some (some (.int (-1) tNEUTRAL_and)))
    (eNEUTRAL_or : PySem.W.nsIn K pNEUTRAL "or" = some (some (.int (0) tNEUTRAL_or)))
    (eNEUTRAL_xor : PySem.W.nsIn K pNEUTRAL "xor" = some (some (.int (0) tNEUTRAL_xor)))
    (aBINARY_ACTIONS : PySem.W.nsIn K mainGlobals "BINARY_ACTIONS" = some (some (.ref pBINARY_ACTIONS)))
    (lBINARY_ACTIONS : K.lookup pBINARY_ACTIONS = some ⟨.type "dict", none, .dict esBINARY_ACTIONS nBINARY_ACTIONS, #[]⟩)
    (vBINARY_ACTIONS : PySem.W.KeysLit w.params esBINARY_ACTIONS.toList)
    (eBINARY_ACTIONS_add : PySem.W.nsIn K pBINARY_ACTIONS "add" = some (some (.ref fsum_of)))
    (eBINARY_ACTIONS_sub : PySem.W.nsIn K pBINARY_ACTIONS "sub" = some (some (.ref fdifference)))
    (eBINARY_ACTIONS_mul : PySem.W.nsIn K pBINARY_ACTIONS "mul" = some (some (.ref fproduct_of)))
    (eBINARY_ACTIONS_div : PySem.W.nsIn K pBINARY_ACTIONS "div" = some (some (.ref fquotient)))
    (eBINARY_ACTIONS_rem : PySem.W.nsIn K pBINARY_ACTIONS "rem" = some (some (.ref fremainder)))
    (eBINARY_ACTIONS_and : PySem.W.nsIn K pBINARY_ACTIONS "and" = some (some (.ref fbits_of_both)))
    (eBINARY_ACTIONS_or : PySem.W.nsIn K pBINARY_ACTIONS "or" = some (some (.ref fbits_of_any)))
    (eBINARY_ACTIONS_xor : PySem.W.nsIn K pBINARY_ACTIONS "xor" = some (some (.ref fbits_of_one)))
    (eBINARY_ACTIONS_shl : PySem.W.nsIn K pBINARY_ACTIONS "shl" = some (some (.ref fshifted_left)))
    (eBINARY_ACTIONS_shr : PySem.W.nsIn K pBINARY_ACTIONS "shr" = some (some (.ref fshifted_right)))
    (eBINARY_ACTIONS_lt : PySem.W.nsIn K pBINARY_ACTIONS "lt" = some (some (.ref fis_less)))
    (eBINARY_ACTIONS_le : PySem.W.nsIn K pBINARY_ACTIONS "le" = some (some (.ref fis_at_most)))
    (eBINARY_ACTIONS_eq : PySem.W.nsIn K pBINARY_ACTIONS "eq" = some (some (.ref fis_equal)))
    (eBINARY_ACTIONS_ne : PySem.W.nsIn K pBINARY_ACTIONS "ne" = some (some (.ref fis_other)))
    (eBINARY_ACTIONS_min : PySem.W.nsIn K pBINARY_ACTIONS "min" = some (some (.ref flesser)))
    (eBINARY_ACTIONS_max : PySem.W.nsIn K pBINARY_ACTIONS "max" = some (some (.ref fgreater))) :
    ∃ fd : FuncData, (∀ (s : Shared) (v : Value), BindsTo s fd ⟨[v], []⟩ [("script", v)]) ∧ ∀ base : Heap, K.In base → base.Ns mainGlobals mg → FnOk l.prog w K mg base CX0 5 fa fd ["script"] (sp_law K) := by
  have e := hfa.symm.trans (PySem.W.mg_of X G alaw)
  cases e
  let T : Tx w K mg := {
    a_wrapped := fwrapped,
    d_wrapped := _,
    F_wrapped := fun_mk (st := s_wrapped) lwrapped cwrapped kwrapped,
    b_wrapped := (fun_mk (st := s_wrapped) lwrapped cwrapped kwrapped).binds (ps := ["number"]) fun _ _ _ _ _ _ us hl => match us, hl with | [_], _ => rfl,
    g_wrapped := PySem.W.mg_of X G awrapped,
    a_sum_of := fsum_of,
    d_sum_of := _,
    F_sum_of := fun_mk (st := s_sum_of) lsum_of csum_of ksum_of,
    b_sum_of := (fun_mk (st := s_sum_of) lsum_of csum_of ksum_of).binds (ps := ["a", "b"]) fun _ _ _ _ _ _ us hl => match us, hl with | [_, _], _ => rfl,
    g_sum_of := PySem.W.mg_of X G asum_of,
    a_difference := fdifference,
    d_difference := _,
    F_difference := fun_mk (st := s_difference) ldifference cdifference kdifference,
    b_difference := (fun_mk (st := s_difference) ldifference cdifference kdifference).binds (ps := ["a", "b"]) fun _ _ _ _ _ _ us hl => match us, hl with | [_, _], _ => rfl,
    g_difference := PySem.W.mg_of X G adifference,
    a_product_of := fproduct_of,
    d_product_of := _,
    F_product_of := fun_mk (st := s_product_of) lproduct_of cproduct_of kproduct_of,
    b_product_of := (fun_mk (st := s_product_of) lproduct_of cproduct_of kproduct_of).binds (ps := ["a", "b"]) fun _ _ _ _ _ _ us hl => match us, hl with | [_, _], _ => rfl,
    g_product_of := PySem.W.mg_of X G aproduct_of,
    a_quotient := fquotient,
    d_quotient := _,
    F_quotient := fun_mk (st := s_quotient) lquotient cquotient kquotient,
    b_quotient := (fun_mk (st := s_quotient) lquotient cquotient kquotient).binds (ps := ["a", "b"]) fun _ _ _ _ _ _ us hl => match us, hl with | [_, _], _ => rfl,
    g_quotient := PySem.W.mg_of X G aquotient,
    a_remainder := fremainder,
    d_remainder := _,
    F_remainder := fun_mk (st := s_remainder) lremainder cremainder kremainder,
    b_remainder := (fun_mk (st := s_remainder) lremainder cremainder kremainder).binds (ps := ["a", "b"]) fun _ _ _ _ _ _ us hl => match us, hl with | [_, _], _ => rfl,
    g_remainder := PySem.W.mg_of X G aremainder,
    a_bits_of_both := fbits_of_both,
    d_bits_of_both := _,
    F_bits_of_both := fun_mk (st := s_bits_of_both) lbits_of_both cbits_of_both kbits_of_both,
    b_bits_of_both := (fun_mk (st := s_bits_of_both) lbits_of_both cbits_of_both kbits_of_both).binds (ps := ["a", "b"]) fun _ _ _ _ _ _ us hl => match us, hl with | [_, _], _ => rfl,
    g_bits_of_both := PySem.W.mg_of X G abits_of_both,
    a_bits_of_any := fbits_of_any,
    d_bits_of_any := _,
    F_bits_of_any := fun_mk (st := s_bits_of_any) lbits_of_any cbits_of_any kbits_of_any,
    b_bits_of_any := (fun_mk (st := s_bits_of_any) lbits_of_any cbits_of_any kbits_of_any).binds (ps := ["a", "b"]) fun _ _ _ _ _ _ us hl => match us, hl with | [_, _], _ => rfl,
    g_bits_of_any := PySem.W.mg_of X G abits_of_any,
    a_bits_of_one := fbits_of_one,
    d_bits_of_one := _,
    F_bits_of_one := fun_mk (st := s_bits_of_one) lbits_of_one cbits_of_one kbits_of_one,
    b_bits_of_one := (fun_mk (st := s_bits_of_one) lbits_of_one cbits_of_one kbits_of_one).binds (ps := ["a", "b"]) fun _ _ _ _ _ _ us hl => match us, hl with | [_, _], _ => rfl,
    g_bits_of_one := PySem.W.mg_of X G abits_of_one,
    a_shifted_left := fshifted_left,
    d_shifted_left := _,
    F_shifted_left := fun_mk (st := s_shifted_left) lshifted_left cshifted_left kshifted_left,
    b_shifted_left := (fun_mk (st := s_shifted_left) lshifted_left cshifted_left kshifted_left).binds (ps := ["a", "b"]) fun _ _ _ _ _ _ us hl => match us, hl with | [_, _], _ => rfl,
    g_shifted_left := PySem.W.mg_of X G ashifted_left,
    a_shifted_right := fshifted_right,
    d_shifted_right := _,
    F_shifted_right := fun_mk (st := s_shifted_right) lshifted_right cshifted_right kshifted_right,
    b_shifted_right := (fun_mk (st := s_shifted_right) lshifted_right cshifted_right kshifted_right).binds (ps := ["a", "b"]) fun _ _ _ _ _ _ us hl => match us, hl with | [_, _], _ => rfl,
    g_shifted_right := PySem.W.mg_of X G ashifted_right,
    a_is_less := fis_less,
    d_is_less := _,
    F_is_less := fun_mk (st := s_is_less) lis_less cis_less kis_less,
    b_is_less := (fun_mk (st := s_is_less) lis_less cis_less kis_less).binds (ps := ["a", "b"]) fun _ _ _ _ _ _ us hl => match us, hl with | [_, _], _ => rfl,
    g_is_less := PySem.W.mg_of X G ais_less,
    a_is_at_most := fis_at_most,
    d_is_at_most := _,
    F_is_at_most := fun_mk (st := s_is_at_most) lis_at_most cis_at_most kis_at_most,
    b_is_at_most := (fun_mk (st := s_is_at_most) lis_at_most cis_at_most kis_at_most).binds (ps := ["a", "b"]) fun _ _ _ _ _ _ us hl => match us, hl with | [_, _], _ => rfl,
    g_is_at_most := PySem.W.mg_of X G ais_at_most,
    a_is_equal := fis_equal,
    d_is_equal := _,
    F_is_equal := fun_mk (st := s_is_equal) lis_equal cis_equal kis_equal,
    b_is_equal := (fun_mk (st := s_is_equal) lis_equal cis_equal kis_equal).binds (ps := ["a", "b"]) fun _ _ _ _ _ _ us hl => match us, hl with | [_, _], _ => rfl,
    g_is_equal := PySem.W.mg_of X G ais_equal,
    a_is_other := fis_other,
    d_is_other := _,
    F_is_other := fun_mk (st := s_is_other) lis_other cis_other kis_other,
    b_is_other := (fun_mk (st := s_is_other) lis_other cis_other kis_other).binds (ps := ["a", "b"]) fun _ _ _ _ _ _ us hl => match us, hl with | [_, _], _ => rfl,
    g_is_other := PySem.W.mg_of X G ais_other,
    a_lesser := flesser,
    d_lesser := _,
    F_lesser := fun_mk (st := s_lesser) llesser clesser klesser,
    b_lesser := (fun_mk (st := s_lesser) llesser clesser klesser).binds (ps := ["a", "b"]) fun _ _ _ _ _ _ us hl => match us, hl with | [_, _], _ => rfl,
    g_lesser := PySem.W.mg_of X G alesser,
    a_greater := fgreater,
    d_greater := _,
    F_greater := fun_mk (st := s_greater) lgreater cgreater kgreater,
    b_greater := (fun_mk (st := s_greater) lgreater cgreater kgreater).binds (ps := ["a", "b"]) fun _ _ _ _ _ _ us hl => match us, hl with | [_, _], _ => rfl,
    g_greater := PySem.W.mg_of X G agreater,
    a_binary := fbinary,
    d_binary := _,
    F_binary := fun_mk (st := s_binary) lbinary cbinary kbinary,
    b_binary := (fun_mk (st := s_binary) lbinary cbinary kbinary).binds (ps := ["op", "a", "b"]) fun _ _ _ _ _ _ us hl => match us, hl with | [_, _, _], _ => rfl,
    g_binary := PySem.W.mg_of X G abinary,
    a_neutral := fneutral,
    d_neutral := _,
    F_neutral := fun_mk (st := s_neutral) lneutral cneutral kneutral,
    b_neutral := (fun_mk (st := s_neutral) lneutral cneutral kneutral).binds (ps := ["op"]) fun _ _ _ _ _ _ us hl => match us, hl with | [_], _ => rfl,
    g_neutral := PySem.W.mg_of X G aneutral,
    a_fold := ffold,
    d_fold := _,
    F_fold := fun_mk (st := s_fold) lfold cfold kfold,
    b_fold := (fun_mk (st := s_fold) lfold cfold kfold).binds (ps := ["op", "words"]) fun _ _ _ _ _ _ us hl => match us, hl with | [_, _], _ => rfl,
    g_fold := PySem.W.mg_of X G afold,
    a_law_stream := flaw_stream,
    d_law_stream := _,
    F_law_stream := fun_mk (st := s_law_stream) llaw_stream claw_stream klaw_stream,
    b_law_stream := (fun_mk (st := s_law_stream) llaw_stream claw_stream klaw_stream).binds (ps := ["script"]) fun _ _ _ _ _ _ us hl => match us, hl with | [_], _ => rfl,
    g_law_stream := PySem.W.mg_of X G alaw_stream,
    a_law_draw := flaw_draw,
    d_law_draw := _,
    F_law_draw := fun_mk (st := s_law_draw) llaw_draw claw_draw klaw_draw,
    b_law_draw := (fun_mk (st := s_law_draw) llaw_draw claw_draw klaw_draw).binds (ps := ["stream", "many"]) fun _ _ _ _ _ _ us hl => match us, hl with | [_, _], _ => rfl,
    g_law_draw := PySem.W.mg_of X G alaw_draw,
    a_law_word := flaw_word,
    d_law_word := _,
    F_law_word := fun_mk (st := s_law_word) llaw_word claw_word klaw_word,
    b_law_word := (fun_mk (st := s_law_word) llaw_word claw_word klaw_word).binds (ps := ["stream"]) fun _ _ _ _ _ _ us hl => match us, hl with | [_], _ => rfl,
    g_law_word := PySem.W.mg_of X G alaw_word,
    a_law_wrapped := flaw_wrapped,
    d_law_wrapped := _,
    F_law_wrapped := fun_mk (st := s_law_wrapped) llaw_wrapped claw_wrapped klaw_wrapped,
    b_law_wrapped := (fun_mk (st := s_law_wrapped) llaw_wrapped claw_wrapped klaw_wrapped).binds (ps := ["number"]) fun _ _ _ _ _ _ us hl => match us, hl with | [_], _ => rfl,
    g_law_wrapped := PySem.W.mg_of X G alaw_wrapped,
    a_law_bits := flaw_bits,
    d_law_bits := _,
    F_law_bits := fun_mk (st := s_law_bits) llaw_bits claw_bits klaw_bits,
    b_law_bits := (fun_mk (st := s_law_bits) llaw_bits claw_bits klaw_bits).binds (ps := ["op", "a", "b"]) fun _ _ _ _ _ _ us hl => match us, hl with | [_, _, _], _ => rfl,
    g_law_bits := PySem.W.mg_of X G alaw_bits,
    a_law_shifted := flaw_shifted,
    d_law_shifted := _,
    F_law_shifted := fun_mk (st := s_law_shifted) llaw_shifted claw_shifted klaw_shifted,
    b_law_shifted := (fun_mk (st := s_law_shifted) llaw_shifted claw_shifted klaw_shifted).binds (ps := ["op", "a", "b"]) fun _ _ _ _ _ _ us hl => match us, hl with | [_, _, _], _ => rfl,
    g_law_shifted := PySem.W.mg_of X G alaw_shifted,
    a_law_binary := flaw_binary,
    d_law_binary := _,
    F_law_binary := fun_mk (st := s_law_binary) llaw_binary claw_binary klaw_binary,
    b_law_binary := (fun_mk (st := s_law_binary) llaw_binary claw_binary klaw_binary).binds (ps := ["op", "a", "b"]) fun _ _ _ _ _ _ us hl => match us, hl with | [_, _, _], _ => rfl,
    g_law_binary := PySem.W.mg_of X G alaw_binary,
    a_law := fa,
    d_law := _,
    F_law := fun_mk (st := s_law) llaw claw klaw,
    g_law := PySem.W.mg_of X G alaw,
    z_abs := PySem.W.mg_none_of X G zabs,
    z_any := PySem.W.mg_none_of X G zany,
    z_int := PySem.W.mg_none_of X G zint,
    z_len := PySem.W.mg_none_of X G zlen,
    z_list := PySem.W.mg_none_of X G zlist,
    z_max := PySem.W.mg_none_of X G zmax,
    z_min := PySem.W.mg_none_of X G zmin,
    z_range := PySem.W.mg_none_of X G zrange,
    q_LEAST := ⟨_, PySem.W.mg_of X G iLEAST, ⟨_, rfl⟩⟩,
    a_FOLDING := pFOLDING,
    q_FOLDING := ⟨_, PySem.W.mg_of X G aFOLDING, rfl⟩,
    t_FOLDING := ⟨_, itsFOLDING, nFOLDING, lFOLDING, rfl, rfl, mFOLDING, vFOLDING⟩,
    a_NEUTRAL := pNEUTRAL,
    q_NEUTRAL := ⟨_, PySem.W.mg_of X G aNEUTRAL, rfl⟩,
    k_NEUTRAL_add := ⟨_, _, _, lNEUTRAL, vNEUTRAL, eNEUTRAL_add, ⟨_, rfl⟩⟩,
    k_NEUTRAL_min := ⟨_, _, _, lNEUTRAL, vNEUTRAL, eNEUTRAL_min, ⟨_, rfl⟩⟩,
    k_NEUTRAL_max := ⟨_, _, _, lNEUTRAL, vNEUTRAL, eNEUTRAL_max, ⟨_, rfl⟩⟩,
    k_NEUTRAL_and := ⟨_, _, _, lNEUTRAL, vNEUTRAL, eNEUTRAL_and, ⟨_, rfl⟩⟩,
    k_NEUTRAL_or := ⟨_, _, _, lNEUTRAL, vNEUTRAL, eNEUTRAL_or, ⟨_, rfl⟩⟩,
    k_NEUTRAL_xor := ⟨_, _, _, lNEUTRAL, vNEUTRAL, eNEUTRAL_xor, ⟨_, rfl⟩⟩,
    a_BINARY_ACTIONS := pBINARY_ACTIONS,
    q_BINARY_ACTIONS := ⟨_, PySem.W.mg_of X G aBINARY_ACTIONS, rfl⟩,
    k_BINARY_ACTIONS_add := ⟨_, _, _, lBINARY_ACTIONS, vBINARY_ACTIONS, eBINARY_ACTIONS_add, rfl⟩,
    k_BINARY_ACTIONS_sub := ⟨_, _, _, lBINARY_ACTIONS, vBINARY_ACTIONS, eBINARY_ACTIONS_sub, rfl⟩,
    k_BINARY_ACTIONS_mul := ⟨_, _, _, lBINARY_ACTIONS, vBINARY_ACTIONS, eBINARY_ACTIONS_mul, rfl⟩,
    k_BINARY_ACTIONS_div := ⟨_, _, _, lBINARY_ACTIONS, vBINARY_ACTIONS, eBINARY_ACTIONS_div, rfl⟩,
    k_BINARY_ACTIONS_rem := ⟨_, _, _, lBINARY_ACTIONS, vBINARY_ACTIONS, eBINARY_ACTIONS_rem, rfl⟩,
    k_BINARY_ACTIONS_and := ⟨_, _, _, lBINARY_ACTIONS, vBINARY_ACTIONS, eBINARY_ACTIONS_and, rfl⟩,
    k_BINARY_ACTIONS_or := ⟨_, _, _, lBINARY_ACTIONS, vBINARY_ACTIONS, eBINARY_ACTIONS_or, rfl⟩,
    k_BINARY_ACTIONS_xor := ⟨_, _, _, lBINARY_ACTIONS, vBINARY_ACTIONS, eBINARY_ACTIONS_xor, rfl⟩,
    k_BINARY_ACTIONS_shl := ⟨_, _, _, lBINARY_ACTIONS, vBINARY_ACTIONS, eBINARY_ACTIONS_shl, rfl⟩,
    k_BINARY_ACTIONS_shr := ⟨_, _, _, lBINARY_ACTIONS, vBINARY_ACTIONS, eBINARY_ACTIONS_shr, rfl⟩,
    k_BINARY_ACTIONS_lt := ⟨_, _, _, lBINARY_ACTIONS, vBINARY_ACTIONS, eBINARY_ACTIONS_lt, rfl⟩,
    k_BINARY_ACTIONS_le := ⟨_, _, _, lBINARY_ACTIONS, vBINARY_ACTIONS, eBINARY_ACTIONS_le, rfl⟩,
    k_BINARY_ACTIONS_eq := ⟨_, _, _, lBINARY_ACTIONS, vBINARY_ACTIONS, eBINARY_ACTIONS_eq, rfl⟩,
    k_BINARY_ACTIONS_ne := ⟨_, _, _, lBINARY_ACTIONS, vBINARY_ACTIONS, eBINARY_ACTIONS_ne, rfl⟩,
    k_BINARY_ACTIONS_min := ⟨_, _, _, lBINARY_ACTIONS, vBINARY_ACTIONS, eBINARY_ACTIONS_min, rfl⟩,
    k_BINARY_ACTIONS_max := ⟨_, _, _, lBINARY_ACTIONS, vBINARY_ACTIONS, eBINARY_ACTIONS_max, rfl⟩ }
  exact ⟨_, fun s v => .of_eq rfl, fun base _ _ => ok_law T⟩
end D2
open PySem PySem.W PyProof.Rows
set_option maxRecDepth 100000 in
set_option maxHeartbeats 0 in
theorem PySem.Challenge.cw_drawloom_k02_wrapping_and_folding_holds : PySem.Challenge.rw_drawloom_k02_wrapping_and_folding.Holds := by
  w_on; o_law; k_head; (case hw => w_witness2)
  k_fill
  refine L2.walk_of (l := PySem.Challenge.rw_drawloom_k02_wrapping_and_folding) (n := 63) (k := 5) (x := "script") (CX := fun _ => L2.CX0) (sp := fun w => D2.sp_law _) rfl (by decide) rfl ⟨rfl, by decide, by decide⟩ (fun w h Y => PySem.W.kIn_of Y) ?F (fun _ _ a ns hl _ hS => ⟨a, ns, rfl, hS, hl, fun _ => rfl⟩) (fun _ _ _ _ _ h => h)
  case F =>
    intro w mg fa h KX G hmg
    refine' D2.all_mk KX G hmg ?awrapped ?lwrapped ?cwrapped ?kwrapped ?asum_of ?lsum_of ?csum_of ?ksum_of ?adifference ?ldifference ?cdifference ?kdifference ?aproduct_of ?lproduct_of ?cproduct_of ?kproduct_of ?aquotient ?lquotient ?cquotient ?kquotient ?aremainder ?lremainder ?cremainder ?kremainder ?abits_of_both ?lbits_of_both ?cbits_of_both ?kbits_of_both ?abits_of_any ?lbits_of_any ?cbits_of_any ?kbits_of_any ?abits_of_one ?lbits_of_one ?cbits_of_one ?kbits_of_one ?ashifted_left ?lshifted_left ?cshifted_left ?kshifted_left ?ashifted_right ?lshifted_right ?cshifted_right ?kshifted_right ?ais_less ?lis_less ?cis_less ?kis_less ?ais_at_most ?lis_at_most ?cis_at_most ?kis_at_most ?ais_equal ?lis_equal ?cis_equal ?kis_equal ?ais_other ?lis_other ?cis_other ?kis_other ?alesser ?llesser ?clesser ?klesser ?agreater ?lgreater ?cgreater ?kgreater ?abinary ?lbinary ?cbinary ?kbinary ?aneutral ?lneutral ?cneutral ?kneutral ?afold ?lfold ?cfold ?kfold ?alaw_stream ?llaw_stream ?claw_stream ?klaw_stream ?alaw_draw ?llaw_draw ?claw_draw ?klaw_draw ?alaw_word ?llaw_word ?claw_word ?klaw_word ?alaw_wrapped ?llaw_wrapped ?claw_wrapped ?klaw_wrapped ?alaw_bits ?llaw_bits ?claw_bits ?klaw_bits ?alaw_shifted ?llaw_shifted ?claw_shifted ?klaw_shifted ?alaw_binary ?llaw_binary ?claw_binary ?klaw_binary ?alaw ?llaw ?claw ?klaw ?zabs ?zany ?zint ?zlen ?zlist ?zmax ?zmin ?zrange ?iLEAST ?aFOLDING ?lFOLDING ?mFOLDING ?vFOLDING ?aNEUTRAL ?lNEUTRAL ?vNEUTRAL ?eNEUTRAL_add ?eNEUTRAL_min ?eNEUTRAL_max ?eNEUTRAL_and ?eNEUTRAL_or ?eNEUTRAL_xor ?aBINARY_ACTIONS ?lBINARY_ACTIONS ?vBINARY_ACTIONS ?eBINARY_ACTIONS_add ?eBINARY_ACTIONS_sub ?eBINARY_ACTIONS_mul ?eBINARY_ACTIONS_div ?eBINARY_ACTIONS_rem ?eBINARY_ACTIONS_and ?eBINARY_ACTIONS_or ?eBINARY_ACTIONS_xor ?eBINARY_ACTIONS_shl ?eBINARY_ACTIONS_shr ?eBINARY_ACTIONS_lt ?eBINARY_ACTIONS_le ?eBINARY_ACTIONS_eq ?eBINARY_ACTIONS_ne ?eBINARY_ACTIONS_min ?eBINARY_ACTIONS_max
    (case awrapped => k_is)
    (case lwrapped => k_is)
    (case cwrapped => k_is)
    (case kwrapped => k_is)
    (case asum_of => k_is)
    (case lsum_of => k_is)
    (case csum_of => k_is)
    (case ksum_of => k_is)
    (case adifference => k_is)
    (case ldifference => k_is)
    (case cdifference => k_is)
    (case kdifference => k_is)
    (case aproduct_of => k_is)
    (case lproduct_of => k_is)
    (case cproduct_of => k_is)
    (case kproduct_of => k_is)
    (case aquotient => k_is)
    (case lquotient => k_is)
    (case cquotient => k_is)
    (case kquotient => k_is)
    (case aremainder => k_is)
    (case lremainder => k_is)
    (case cremainder => k_is)
    (case kremainder => k_is)
    (case abits_of_both => k_is)
    (case lbits_of_both => k_is)
    (case cbits_of_both => k_is)
    (case kbits_of_both => k_is)
    (case abits_of_any => k_is)
    (case lbits_of_any => k_is)
    (case cbits_of_any => k_is)
    (case kbits_of_any => k_is)
    (case abits_of_one => k_is)
    (case lbits_of_one => k_is)
    (case cbits_of_one => k_is)
    (case kbits_of_one => k_is)
    (case ashifted_left => k_is)
    (case lshifted_left => k_is)
    (case cshifted_left => k_is)
    (case kshifted_left => k_is)
    (case ashifted_right => k_is)
    (case lshifted_right => k_is)
    (case cshifted_right => k_is)
    (case kshifted_right => k_is)
    (case ais_less => k_is)
    (case lis_less => k_is)
    (case cis_less => k_is)
    (case kis_less => k_is)
    (case ais_at_most => k_is)
    (case lis_at_most => k_is)
    (case cis_at_most => k_is)
    (case kis_at_most => k_is)
    (case ais_equal => k_is)
    (case lis_equal => k_is)
    (case cis_equal => k_is)
    (case kis_equal => k_is)
    (case ais_other => k_is)
    (case lis_other => k_is)
    (case cis_other => k_is)
    (case kis_other => k_is)
    (case alesser => k_is)
    (case llesser => k_is)
    (case clesser => k_is)
    (case klesser => k_is)
    (case agreater => k_is)
    (case lgreater => k_is)
    (case cgreater => k_is)
    (case kgreater => k_is)
    (case abinary => k_is)
    (case lbinary => k_is)
    (case cbinary => k_is)
    (case kbinary => k_is)
    (case aneutral => k_is)
    (case lneutral => k_is)
    (case cneutral => k_is)
    (case kneutral => k_is)
    (case afold => k_is)
    (case lfold => k_is)
    (case cfold => k_is)
    (case kfold => k_is)
    (case alaw_stream => k_is)
    (case llaw_stream => k_is)
    (case claw_stream => k_is)
    (case klaw_stream => k_is)
    (case alaw_draw => k_is)
    (case llaw_draw => k_is)
    (case claw_draw => k_is)
    (case klaw_draw => k_is)
    (case alaw_word => k_is)
    (case llaw_word => k_is)
    (case claw_word => k_is)
    (case klaw_word => k_is)
    (case alaw_wrapped => k_is)
    (case llaw_wrapped => k_is)
    (case claw_wrapped => k_is)
    (case klaw_wrapped => k_is)
    (case alaw_bits => k_is)
    (case llaw_bits => k_is)
    (case claw_bits => k_is)
    (case klaw_bits => k_is)
    (case alaw_shifted => k_is)
    (case llaw_shifted => k_is)
    (case claw_shifted => k_is)
    (case klaw_shifted => k_is)
    (case alaw_binary => k_is)
    (case llaw_binary => k_is)
    (case claw_binary => k_is)
    (case klaw_binary => k_is)
    (case alaw => k_is)
    (case llaw => k_is)
    (case claw => k_is)
    (case klaw => k_is)
    (case zabs => k_is)
    (case zany => k_is)
    (case zint => k_is)
    (case zlen => k_is)
    (case zlist => k_is)
    (case zmax => k_is)
    (case zmin => k_is)
    (case zrange => k_is)
    (case iLEAST => k_is)
    (case aFOLDING => k_is)
    (case lFOLDING => k_is)
    (case mFOLDING => exact (by rw [sizeLine_eq]; decide))
    (case vFOLDING => exact by repeat (first | exact .nil | refine .cons ⟨_, rfl⟩ ?_))
    (case aNEUTRAL => k_is)
    (case lNEUTRAL => k_is)
    (case vNEUTRAL => k_keys)
    (case eNEUTRAL_add => k_is)
    (case eNEUTRAL_min => k_is)
    (case eNEUTRAL_max => k_is)
    (case eNEUTRAL_and => k_is)
    (case eNEUTRAL_or => k_is)
    (case eNEUTRAL_xor => k_is)
    (case aBINARY_ACTIONS => k_is)
    (case lBINARY_ACTIONS => k_is)
    (case vBINARY_ACTIONS => k_keys)
    (case eBINARY_ACTIONS_add => k_is)
    (case eBINARY_ACTIONS_sub => k_is)
    (case eBINARY_ACTIONS_mul => k_is)
    (case eBINARY_ACTIONS_div => k_is)
    (case eBINARY_ACTIONS_rem => k_is)
    (case eBINARY_ACTIONS_and => k_is)
    (case eBINARY_ACTIONS_or => k_is)
    (case eBINARY_ACTIONS_xor => k_is)
    (case eBINARY_ACTIONS_shl => k_is)
    (case eBINARY_ACTIONS_shr => k_is)
    (case eBINARY_ACTIONS_lt => k_is)
    (case eBINARY_ACTIONS_le => k_is)
    (case eBINARY_ACTIONS_eq => k_is)
    (case eBINARY_ACTIONS_ne => k_is)
    (case eBINARY_ACTIONS_min => k_is)
    (case eBINARY_ACTIONS_max => k_is)
#print axioms PySem.Challenge.cw_drawloom_k02_wrapping_and_folding_holds
