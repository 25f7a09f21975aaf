import PyProof.Rows.All
import Wide.All
import OpenK.AllK
import Wide.FinOn
import KE.KDictZip
import KE.KTurns
import HandS.ForMost
import HandS.MapObj
import KE.KMathG
import HandS.Evl
import HandS.WideBits
import HandS.Style
import HandS.Flow
import HandS.IsInst
import HandS.More
import HandS.Walk
import HandS.Gcd
import HandS.EndBits
import OpenK.KEqL
import HandS.Set
import HandS.Strs
import HandS.SetFor
import HandS.Exc
import HandS.ExcOwn
import HandS.ExcCtx
import HandS.WordsExc
import HandS.ExcIs
import HandS.Hot
import HandS.HotCalls
import KE.IntBitsLaws
import PySem.Challenge.RW_choosecarry_k05_refused
import KE.RegKIsAll
set_option Elab.async false
set_option linter.all false
set_option maxRecDepth 100000
set_option maxHeartbeats 4000000
/-! The mathematics of figures, plain Lean. -/
namespace Cc

/-! ### figures -/
def digF (p : Nat) : Nat → Nat → List Nat
  | 0, _ => []
  | f + 1, n => if n = 0 then [] else n % p :: digF p f (n / p)
def dig (p n : Nat) : List Nat := digF p n n

theorem digF_zero (p f : Nat) : digF p f 0 = [] := by
  cases f with
  | zero => rfl
  | succ f => unfold digF; rw [if_pos rfl]

theorem div_lt {p n : Nat} (hp : 2 ≤ p) (hn : n ≠ 0) : n / p < n := Nat.div_lt_self (by omega) (by omega)

theorem digF_enough {p : Nat} (hp : 2 ≤ p) : ∀ f g n : Nat, n ≤ f → n ≤ g → digF p f n = digF p g n
  | 0, g, n, h1, h2 => by
    have : n = 0 := by omega
    subst this
    rw [digF_zero, digF_zero]
  | f + 1, 0, n, h1, h2 => by
    have : n = 0 := by omega
    subst this
    rw [digF_zero, digF_zero]
  | f + 1, g + 1, n, h1, h2 => by
    unfold digF
    by_cases h : n = 0
    · rw [if_pos h, if_pos h]
    · rw [if_neg h, if_neg h]
      have := div_lt hp h
      rw [digF_enough hp f g (n / p) (by omega) (by omega)]

theorem dig_zero (p : Nat) : dig p 0 = [] := rfl
theorem dig_step {p n : Nat} (hp : 2 ≤ p) (hn : n ≠ 0) : dig p n = n % p :: dig p (n / p) := by
  obtain ⟨m, rfl⟩ : ∃ m, n = m + 1 := ⟨n - 1, by omega⟩
  show digF p (m + 1) (m + 1) = _
  unfold digF
  rw [if_neg hn]
  have := div_lt hp hn
  rw [digF_enough hp m ((m + 1) / p) _ (by omega) (Nat.le_refl _)]
  rfl

/-- induction along the figures -/
theorem dig_ind {p : Nat} (hp : 2 ≤ p) {C : Nat → Prop} (h0 : C 0) (hs : ∀ n, n ≠ 0 → C (n / p) → C n) : ∀ n, C n := by
  intro n
  induction n using Nat.strongRecOn with
  | _ n ih =>
    by_cases h : n = 0
    · subst h; exact h0
    · exact hs n h (ih _ (div_lt hp h))

theorem dig_lt {p : Nat} (hp : 2 ≤ p) : ∀ n d, d ∈ dig p n → d < p := by
  intro n
  refine dig_ind hp (C := fun n => ∀ d, d ∈ dig p n → d < p) ?_ ?_ n
  · intro d h; cases h
  · intro n hn ih d h
    rw [dig_step hp hn] at h
    cases h with
    | head => exact Nat.mod_lt _ (by omega)
    | tail _ h => exact ih d h

theorem dig_get {p : Nat} (hp : 2 ≤ p) : ∀ n i, p ^ i ≤ n → (dig p n)[i]? = some (n / p ^ i % p) := by
  intro n
  refine dig_ind hp (C := fun n => ∀ i, p ^ i ≤ n → (dig p n)[i]? = some (n / p ^ i % p)) ?_ ?_ n
  · intro i h
    have : 0 < p ^ i := Nat.pow_pos (by omega)
    omega
  · intro n hn ih i h
    rw [dig_step hp hn]
    cases i with
    | zero => simp
    | succ i =>
      rw [List.getElem?_cons_succ, ih i ?_]
      · rw [Nat.div_div_eq_div_mul, Nat.pow_succ, Nat.mul_comm (p ^ i) p]
      · rw [Nat.le_div_iff_mul_le (by omega), ← Nat.pow_succ]
        exact h
theorem dig_none {p : Nat} (hp : 2 ≤ p) : ∀ n i, n < p ^ i → (dig p n)[i]? = none := by
  intro n
  refine dig_ind hp (C := fun n => ∀ i, n < p ^ i → (dig p n)[i]? = none) ?_ ?_ n
  · intro i _; rw [dig_zero]; rfl
  · intro n hn ih i h
    rw [dig_step hp hn]
    cases i with
    | zero => simp at h; omega
    | succ i =>
      rw [List.getElem?_cons_succ, ih i ?_]
      rw [Nat.div_lt_iff_lt_mul (by omega), ← Nat.pow_succ]
      exact h
theorem dig_len_le {p : Nat} (hp : 2 ≤ p) {n k : Nat} (h : n < p ^ k) : (dig p n).length ≤ k := List.getElem?_eq_none_iff.mp (dig_none hp n k h)
theorem dig_len_gt {p : Nat} (hp : 2 ≤ p) {n k : Nat} (h : p ^ k ≤ n) : k < (dig p n).length := (List.getElem?_eq_some_iff.mp (dig_get hp n k h)).1
theorem dig_len_iff {p : Nat} (hp : 2 ≤ p) {n k : Nat} : k < (dig p n).length ↔ p ^ k ≤ n := by
  constructor
  · intro h
    apply Classical.byContradiction
    intro h2
    have := dig_len_le hp (n := n) (k := k) (by omega)
    omega
  · exact dig_len_gt hp
theorem dig_len_mono {p : Nat} (hp : 2 ≤ p) {m n : Nat} (h : m ≤ n) : (dig p m).length ≤ (dig p n).length := by
  apply Classical.byContradiction
  intro h2
  have h3 : (dig p n).length < (dig p m).length := by omega
  have h4 := (dig_len_iff hp).mp h3
  have h5 := (dig_len_iff hp (n := n)).mpr (Nat.le_trans h4 h)
  omega

/-! ### taking apart and putting together, by a row of bases -/
def pairUp : List Nat → List Nat
  | a :: b :: r => a * b :: pairUp r
  | l => l
def mix : List Nat → Nat → List Nat
  | b :: c :: r, n => n % b :: mix (c :: r) (n / b)
  | _, n => [n]
def expand : List Nat → List Nat → List Nat
  | q :: ps, a :: _ :: r => q % a :: q / a :: expand ps r
  | q :: _, [_] => [q]
  | _, _ => []
theorem pairUp_len : ∀ r : List Nat, (pairUp r).length = (r.length + 1) / 2
  | [] => rfl
  | [_] => by simp [pairUp]
  | _ :: _ :: r => by
    show (pairUp r).length + 1 = (r.length + 1 + 1 + 1) / 2
    rw [pairUp_len r]
    omega
theorem pairUp_ne : ∀ {r : List Nat}, r ≠ [] → pairUp r ≠ []
  | [], h => absurd rfl h
  | [_], _ => by simp [pairUp]
  | _ :: _ :: _, _ => by simp [pairUp]
theorem mix_len : ∀ (r : List Nat) (n : Nat), (mix r n).length = max 1 r.length
  | [], _ => rfl
  | [_], _ => rfl
  | b :: c :: r, n => by
    show (mix (c :: r) (n / b)).length + 1 = _
    rw [mix_len (c :: r) (n / b)]
    simp only [List.length_cons]
    omega
theorem mix_cons {b : Nat} {r : List Nat} (h : r ≠ []) (n : Nat) : mix (b :: r) n = n % b :: mix r (n / b) := by
  cases r with
  | nil => exact absurd rfl h
  | cons c r => rfl
theorem expand_mix : ∀ (row : List Nat) (n : Nat), row ≠ [] → expand (mix (pairUp row) n) row = mix row n
  | [], _, h => absurd rfl h
  | [a], n, _ => rfl
  | [a, b], n, _ => rfl
  | a :: b :: c :: r, n, _ => by
    have hne : (c :: r) ≠ [] := by simp
    show expand (mix (a * b :: pairUp (c :: r)) n) (a :: b :: c :: r) = n % a :: mix (b :: c :: r) (n / a)
    rw [mix_cons (pairUp_ne hne), mix_cons (b := b) hne]
    show n % (a * b) % a :: n % (a * b) / a :: expand (mix (pairUp (c :: r)) (n / (a * b))) (c :: r) = _
    rw [expand_mix (c :: r) _ hne, Nat.mod_mul_right_mod, Nat.mod_mul_right_div_self, Nat.div_div_eq_div_mul]

def strip : List Nat → List Nat
  | [] => []
  | d :: ds => if strip ds = [] ∧ d = 0 then [] else d :: strip ds
theorem strip_zeros : ∀ (l : List Nat) (z : List Nat), (∀ d ∈ z, d = 0) → strip (l ++ z) = strip l
  | [], z, h => by
    show strip z = []
    induction z with
    | nil => rfl
    | cons d z ih =>
      unfold strip
      rw [if_pos ⟨ih fun d hd => h d (List.mem_cons_of_mem _ hd), h d List.mem_cons_self⟩]
  | d :: l, z, h => by
    show strip (d :: (l ++ z)) = strip (d :: l)
    unfold strip
    rw [strip_zeros l z h]
theorem strip_id : ∀ l : List Nat, (∀ d, l.getLast? = some d → d ≠ 0) → strip l = l
  | [], _ => rfl
  | [d], h => by
    unfold strip
    rw [if_neg]
    · rfl
    · intro z
      exact h d rfl z.2
  | d :: e :: l, h => by
    have ih := strip_id (e :: l) (by
      intro x hx
      refine h x ?_
      rw [List.getLast?_cons_cons]
      exact hx)
    show (if strip (e :: l) = [] ∧ d = 0 then [] else d :: strip (e :: l)) = _
    rw [ih, if_neg (by simp)]
theorem dig_last {p : Nat} (hp : 2 ≤ p) : ∀ n d, (dig p n).getLast? = some d → d ≠ 0 := by
  intro n
  refine dig_ind hp (C := fun n => ∀ d, (dig p n).getLast? = some d → d ≠ 0) ?_ ?_ n
  · intro d h; cases h
  · intro n hn ih d h
    rw [dig_step hp hn] at h
    by_cases hq : n / p = 0
    · rw [hq, dig_zero] at h
      have e : n % p = d := Option.some.inj h
      have hl : n < p := by
        rcases Nat.div_eq_zero_iff.mp hq with h | h
        · omega
        · exact h
      rw [Nat.mod_eq_of_lt hl] at e
      omega
    · rw [dig_step hp hq, List.getLast?_cons_cons, ← dig_step hp hq] at h
      exact ih d h
theorem strip_dig {p : Nat} (hp : 2 ≤ p) (n : Nat) : strip (dig p n) = dig p n := strip_id _ (dig_last hp n)
theorem strip_mix {p : Nat} (hp : 2 ≤ p) : ∀ (k n : Nat), n < p ^ k → strip (mix (List.replicate k p) n) = dig p n
  | 0, n, h => by
    have : n = 0 := by simp at h; omega
    subst this
    rfl
  | 1, n, h => by
    have h1 : n < p := by simpa using h
    show strip [n] = _
    by_cases hn : n = 0
    · subst hn
      rw [dig_zero]
      rfl
    · rw [dig_step hp hn, Nat.mod_eq_of_lt h1, Nat.div_eq_of_lt h1, dig_zero]
      exact strip_id _ (by intro d hd; have : n = d := Option.some.inj hd; omega)
  | k + 2, n, h => by
    show strip (n % p :: mix (List.replicate (k + 1) p) (n / p)) = _
    have hq : n / p < p ^ (k + 1) := by
      rw [Nat.div_lt_iff_lt_mul (by omega), ← Nat.pow_succ]
      exact h
    have ih := strip_mix hp (k + 1) (n / p) hq
    unfold strip
    rw [ih]
    by_cases hn : n = 0
    · subst hn
      rw [Nat.zero_div, dig_zero, Nat.zero_mod, if_pos ⟨rfl, rfl⟩]
    · rw [dig_step hp hn, if_neg]
      rintro ⟨h1, h2⟩
      have hq0 : n / p = 0 := by
        apply Classical.byContradiction
        intro z
        rw [dig_step hp z] at h1
        cases h1
      have := Nat.div_add_mod n p
      rw [hq0, h2] at this
      omega

/-! ### how often: all numbers multiplied -/
def lgF (p : Nat) : Nat → Nat → Nat
  | 0, _ => 0
  | f + 1, n => if n = 0 then 0 else n / p + lgF p f (n / p)
def lg (p n : Nat) : Nat := lgF p n n
theorem lgF_zero (p f : Nat) : lgF p f 0 = 0 := by
  cases f with
  | zero => rfl
  | succ f => unfold lgF; rw [if_pos rfl]
theorem lgF_enough {p : Nat} (hp : 2 ≤ p) : ∀ f g n : Nat, n ≤ f → n ≤ g → lgF p f n = lgF p g n
  | 0, g, n, h1, h2 => by
    have : n = 0 := by omega
    subst this
    rw [lgF_zero, lgF_zero]
  | f + 1, 0, n, h1, h2 => by
    have : n = 0 := by omega
    subst this
    rw [lgF_zero, lgF_zero]
  | f + 1, g + 1, n, h1, h2 => by
    unfold lgF
    by_cases h : n = 0
    · rw [if_pos h, if_pos h]
    · rw [if_neg h, if_neg h]
      have := div_lt hp h
      rw [lgF_enough hp f g (n / p) (by omega) (by omega)]
theorem lg_zero (p : Nat) : lg p 0 = 0 := rfl
theorem lg_step {p n : Nat} (hp : 2 ≤ p) (hn : n ≠ 0) : lg p n = n / p + lg p (n / p) := by
  obtain ⟨m, rfl⟩ : ∃ m, n = m + 1 := ⟨n - 1, by omega⟩
  show lgF p (m + 1) (m + 1) = _
  unfold lgF
  rw [if_neg hn]
  have := div_lt hp hn
  rw [lgF_enough hp m ((m + 1) / p) _ (by omega) (Nat.le_refl _)]
  rfl
theorem lg_step' {p : Nat} (hp : 2 ≤ p) (n : Nat) : lg p n = n / p + lg p (n / p) := by
  by_cases hn : n = 0
  · subst hn
    rw [Nat.zero_div]
    rfl
  · exact lg_step hp hn
theorem dig_sum {p : Nat} (hp : 2 ≤ p) : ∀ n, n = (dig p n).sum + (p - 1) * lg p n := by
  intro n
  refine dig_ind hp (C := fun n => n = (dig p n).sum + (p - 1) * lg p n) rfl ?_ n
  intro n hn ih
  rw [dig_step hp hn, lg_step hp hn, List.sum_cons, Nat.mul_add]
  have h := Nat.div_add_mod n p
  have h2 : p * (n / p) = (p - 1) * (n / p) + n / p := by
    obtain ⟨q, rfl⟩ : ∃ q, p = q + 1 := ⟨p - 1, by omega⟩
    rw [Nat.add_mul, Nat.one_mul, Nat.add_sub_cancel]
  omega
theorem often_is {p : Nat} (hp : 2 ≤ p) (n : Nat) : (n - (dig p n).sum) / (p - 1) = lg p n := by
  have h := dig_sum hp n
  have e : n - (dig p n).sum = (p - 1) * lg p n := by omega
  rw [e, Nat.mul_div_cancel_left _ (by omega)]
theorem dig_sum_le {p : Nat} (hp : 2 ≤ p) (n : Nat) : (dig p n).sum ≤ n := by
  have := dig_sum hp n
  omega

/-! ### what is left: the core, by a sign and the figures' own products -/
def fac : Nat → Nat
  | 0 => 1
  | n + 1 => fac n * (n + 1)
def facs : List Nat → Nat
  | [] => 1
  | d :: ds => fac d * facs ds
/-- the core of 1 to n multiplied, as it is left by p -/
def cf (p n : Nat) : Nat := ((p - 1) ^ lg p n * facs (dig p n)) % p

theorem mm {a b c d p : Nat} (h1 : a % p = b % p) (h2 : c % p = d % p) : a * c % p = b * d % p := by
  rw [Nat.mul_mod, h1, h2, ← Nat.mul_mod]
theorem pow_mod' (a k p : Nat) : (a % p) ^ k % p = a ^ k % p := (Nat.pow_mod a k p).symm
theorem sq_minus {p : Nat} (hp : 2 ≤ p) : (p - 1) * (p - 1) % p = 1 := by
  obtain ⟨q, rfl⟩ : ∃ q, p = q + 2 := ⟨p - 2, by omega⟩
  have e : (q + 2 - 1) * (q + 2 - 1) = 1 + (q + 2) * q := by
    show (q + 1) * (q + 1) = 1 + (q + 2) * q
    rw [Nat.add_mul q 1 (q + 1), Nat.mul_add q q 1, Nat.add_mul q 2 q]
    omega
  rw [e, Nat.add_mul_mod_self_left]
  exact Nat.mod_eq_of_lt (by omega)
/-- the sign: 1, or one less than the prime -/
def sgn (p k : Nat) : Nat := if k % 2 = 0 then 1 else p - 1
theorem sgn_pow {p : Nat} (hp : 2 ≤ p) : ∀ k, (p - 1) ^ k % p = sgn p k
  | 0 => by
    show 1 % p = 1
    exact Nat.mod_eq_of_lt (by omega)
  | 1 => by
    rw [Nat.pow_one]
    show (p - 1) % p = p - 1
    exact Nat.mod_eq_of_lt (by omega)
  | k + 2 => by
    have ih := sgn_pow hp k
    rw [Nat.pow_succ, Nat.pow_succ, Nat.mul_assoc, Nat.mul_mod, sq_minus hp, Nat.mul_one, Nat.mod_mod, ih]
    unfold sgn
    rw [Nat.add_mod_right]
theorem sgn_lt {p : Nat} (hp : 2 ≤ p) (k : Nat) : sgn p k < p := by
  unfold sgn
  split <;> omega
/-- the program's core: the sign first, then figure by figure -/
def coreP (p : Nat) (s : Nat) (ds : List Nat) : Nat := ds.foldl (fun c d => c * (fac d % p) % p) s
theorem coreP_mod (p : Nat) : ∀ (ds : List Nat) (s : Nat), coreP p s ds % p = s * facs ds % p
  | [], s => by
    show s % p = s * 1 % p
    rw [Nat.mul_one]
  | d :: ds, s => by
    show coreP p (s * (fac d % p) % p) ds % p = s * (fac d * facs ds) % p
    rw [coreP_mod p ds, ← Nat.mul_assoc]
    exact mm (by rw [Nat.mod_mod, Nat.mul_mod_mod]) rfl
theorem coreP_lt {p : Nat} (hp : 2 ≤ p) : ∀ (ds : List Nat) (s : Nat), s < p → coreP p s ds < p
  | [], s, h => h
  | d :: ds, s, _ => coreP_lt hp ds _ (Nat.mod_lt _ (by omega))
theorem coreP_is {p : Nat} (hp : 2 ≤ p) (n : Nat) : coreP p (sgn p (lg p n)) (dig p n) = cf p n := by
  have h := coreP_lt hp (dig p n) _ (sgn_lt hp (lg p n))
  rw [← Nat.mod_eq_of_lt h, coreP_mod, ← sgn_pow hp, Nat.mod_mul_mod]
  rfl
theorem cf_lt {p : Nat} (hp : 2 ≤ p) (n : Nat) : cf p n < p := Nat.mod_lt _ (by omega)
theorem cf_zero {p : Nat} (hp : 2 ≤ p) : cf p 0 = 1 := by
  show (1 * 1) % p = 1
  exact Nat.mod_eq_of_lt (by omega)
/-- the law's core, a turn: the figure's own product and the rounds' sign -/
theorem core_turn {p : Nat} (hp : 2 ≤ p) {n : Nat} (c : Nat) : c * (fac (n % p) % p) * sgn p (n / p) % p * cf p (n / p) % p = c * cf p n % p := by
  by_cases hn : n = 0
  · subst hn
    rw [Nat.zero_div, Nat.zero_mod, cf_zero hp]
    show c * (1 % p) * 1 % p * 1 % p = c * 1 % p
    simp
  · unfold cf
    rw [dig_step hp hn, lg_step hp hn]
    show c * (fac (n % p) % p) * sgn p (n / p) % p * ((p - 1) ^ lg p (n / p) * facs (dig p (n / p)) % p) % p = c * ((p - 1) ^ (n / p + lg p (n / p)) * (fac (n % p) * facs (dig p (n / p))) % p) % p
    rw [← sgn_pow hp (n / p), Nat.pow_add]
    generalize (p - 1) ^ (n / p) = a
    generalize (p - 1) ^ lg p (n / p) = b
    generalize facs (dig p (n / p)) = e
    generalize fac (n % p) = f
    have e1 : c * (f % p) * (a % p) % p = c * f * a % p := mm (mm rfl (Nat.mod_mod _ _)) (Nat.mod_mod _ _)
    have e2 : c * (f % p) * (a % p) % p * (b * e % p) % p = c * f * a * (b * e) % p := mm (by rw [Nat.mod_mod]; exact e1) (Nat.mod_mod _ _)
    have e3 : c * (a * b * (f * e) % p) % p = c * (a * b * (f * e)) % p := mm rfl (Nat.mod_mod _ _)
    rw [e2, e3]
    congr 1
    simp only [Nat.mul_assoc, Nat.mul_comm, Nat.mul_left_comm]

/-! ### rows of bases, each half as long as the one before -/
def prodL : List Nat → Nat
  | [] => 1
  | d :: ds => d * prodL ds
theorem prodL_pairUp : ∀ r : List Nat, prodL (pairUp r) = prodL r
  | [] => rfl
  | [_] => rfl
  | a :: b :: r => by
    show a * b * prodL (pairUp r) = a * (b * prodL r)
    rw [prodL_pairUp r, Nat.mul_assoc]
theorem pos_pairUp : ∀ r : List Nat, (∀ d ∈ r, 0 < d) → ∀ d ∈ pairUp r, 0 < d
  | [], _, d, h => by cases h
  | [_], h, d, hd => h d hd
  | a :: b :: r, h, d, hd => by
    cases hd with
    | head => exact Nat.mul_pos (h a (by simp)) (h b (by simp))
    | tail _ hd => exact pos_pairUp r (fun e he => h e (by simp [he])) d hd
theorem prodL_pos : ∀ r : List Nat, (∀ d ∈ r, 0 < d) → 0 < prodL r
  | [], _ => Nat.one_pos
  | d :: r, h => Nat.mul_pos (h d List.mem_cons_self) (prodL_pos r fun e he => h e (List.mem_cons_of_mem _ he))
theorem le_prodL : ∀ (r : List Nat), (∀ d ∈ r, 0 < d) → ∀ d ∈ r, d ≤ prodL r
  | d :: r, h, e, he => by
    have h1 := prodL_pos r fun e he => h e (List.mem_cons_of_mem _ he)
    cases he with
    | head => exact Nat.le_mul_of_pos_right _ h1
    | tail _ he =>
      have h2 := le_prodL r (fun e he => h e (List.mem_cons_of_mem _ he)) e he
      have h3 : prodL r ≤ d * prodL r := Nat.le_mul_of_pos_left _ (h d List.mem_cons_self)
      exact Nat.le_trans h2 h3
theorem prodL_rep (p : Nat) : ∀ k, prodL (List.replicate k p) = p ^ k
  | 0 => rfl
  | k + 1 => by
    rw [List.replicate_succ, Nat.pow_succ, Nat.mul_comm]
    show p * prodL (List.replicate k p) = p * p ^ k
    rw [prodL_rep p k]
/-- a row of bases that is fit to be reckoned with -/
structure Fit (r : List Nat) : Prop where
  pos : ∀ d ∈ r, 0 < d
  prod : prodL r < 2 ^ 4000
  len : r.length ≤ 4000
theorem Fit.up {r : List Nat} (h : Fit r) : Fit (pairUp r) := ⟨pos_pairUp r h.pos, by rw [prodL_pairUp]; exact h.prod, by rw [pairUp_len]; have := h.len; omega⟩
theorem Fit.lt {r : List Nat} (h : Fit r) {d : Nat} (hd : d ∈ r) : d < 2 ^ 4000 := Nat.lt_of_le_of_lt (le_prodL r h.pos d hd) h.prod
/-- the rows, from bases on to a row of at most one -/
def towF : Nat → List Nat → List (List Nat)
  | 0, r => [r]
  | f + 1, r => if r.length ≤ 1 then [r] else r :: towF f (pairUp r)
def tow (r : List Nat) : List (List Nat) := towF r.length r
theorem towF_enough : ∀ (f g : Nat) (r : List Nat), r.length ≤ f + 1 → r.length ≤ g + 1 → towF f r = towF g r
  | 0, 0, _, _, _ => rfl
  | 0, g + 1, r, h, _ => by
    show [r] = if r.length ≤ 1 then [r] else _
    rw [if_pos (by omega)]
  | f + 1, 0, r, _, h => by
    show (if r.length ≤ 1 then [r] else _) = [r]
    rw [if_pos (by omega)]
  | f + 1, g + 1, r, h1, h2 => by
    show (if r.length ≤ 1 then [r] else r :: towF f (pairUp r)) = if r.length ≤ 1 then [r] else r :: towF g (pairUp r)
    by_cases h : r.length ≤ 1
    · rw [if_pos h, if_pos h]
    · rw [if_neg h, if_neg h, towF_enough f g (pairUp r) (by rw [pairUp_len]; omega) (by rw [pairUp_len]; omega)]
theorem tow_small {r : List Nat} (h : r.length ≤ 1) : tow r = [r] := by
  unfold tow
  cases e : r.length with
  | zero => rfl
  | succ k =>
    show (if r.length ≤ 1 then [r] else _) = [r]
    rw [if_pos h]
theorem tow_big {r : List Nat} (h : 1 < r.length) : tow r = r :: tow (pairUp r) := by
  unfold tow
  obtain ⟨k, e⟩ : ∃ k, r.length = k + 1 := ⟨r.length - 1, by omega⟩
  rw [e]
  show (if r.length ≤ 1 then [r] else r :: towF k (pairUp r)) = _
  rw [if_neg (by omega), towF_enough k (pairUp r).length (pairUp r) (by rw [pairUp_len]; omega) (by rw [pairUp_len]; omega)]
/-- each row is the pairs of the one before; the last one is short -/
structure Chn (rows : List (List Nat)) : Prop where
  ne : rows ≠ []
  nx : ∀ (j : Nat) (r s : List Nat), rows[j]? = some r → rows[j + 1]? = some s → s = pairUp r ∧ 1 < r.length
  last : ∀ r, rows[rows.length - 1]? = some r → r.length ≤ 1
theorem chn_single {r : List Nat} (h : r.length ≤ 1) : Chn [r] := by
  refine ⟨by simp, fun j a b h1 h2 => ?_, fun a h1 => ?_⟩
  · simp at h2
  · simp at h1
    subst h1
    exact h
theorem chn_cons {r : List Nat} {rows : List (List Nat)} (h : 1 < r.length) (c : Chn rows) (h0 : rows[0]? = some (pairUp r)) : Chn (r :: rows) := by
  refine ⟨by simp, fun j a b h1 h2 => ?_, fun a h1 => ?_⟩
  · cases j with
    | zero =>
      simp at h1
      subst h1
      rw [List.getElem?_cons_succ, h0] at h2
      exact ⟨(Option.some.inj h2).symm, h⟩
    | succ j => exact c.nx j a b (by simpa using h1) (by simpa using h2)
  · have hl : 0 < rows.length := List.length_pos_iff.mpr c.ne
    refine c.last a ?_
    rw [List.length_cons, Nat.add_sub_cancel] at h1
    obtain ⟨m, e⟩ : ∃ m, rows.length = m + 1 := ⟨rows.length - 1, by omega⟩
    rw [e] at h1 ⊢
    simpa using h1
theorem tow_chn : ∀ (f : Nat) (r : List Nat), r.length ≤ f + 1 → Chn (tow r) ∧ (tow r)[0]? = some r
  | 0, r, h => by
    rw [tow_small h]
    exact ⟨chn_single h, rfl⟩
  | f + 1, r, h => by
    by_cases h1 : r.length ≤ 1
    · rw [tow_small h1]
      exact ⟨chn_single h1, rfl⟩
    · rw [tow_big (by omega)]
      obtain ⟨c, c0⟩ := tow_chn f (pairUp r) (by rw [pairUp_len]; omega)
      exact ⟨chn_cons (by omega) c c0, rfl⟩
theorem chn_tow (r : List Nat) : Chn (tow r) := (tow_chn r.length r (by omega)).1
theorem tow_zero (r : List Nat) : (tow r)[0]? = some r := (tow_chn r.length r (by omega)).2
theorem tow_fit : ∀ (f : Nat) (r : List Nat), r.length ≤ f + 1 → Fit r → ∀ s ∈ tow r, Fit s
  | 0, r, h, hf, s, hs => by
    rw [tow_small h] at hs
    rw [List.mem_singleton.mp hs]
    exact hf
  | f + 1, r, h, hf, s, hs => by
    by_cases h1 : r.length ≤ 1
    · rw [tow_small h1] at hs
      rw [List.mem_singleton.mp hs]
      exact hf
    · rw [tow_big (by omega)] at hs
      cases hs with
      | head => exact hf
      | tail _ hs => exact tow_fit f (pairUp r) (by rw [pairUp_len]; omega) hf.up s hs
theorem fit_tow {r : List Nat} (h : Fit r) : ∀ s ∈ tow r, Fit s := tow_fit r.length r (by omega) h
theorem tow_length : ∀ (f : Nat) (r : List Nat), r.length ≤ f + 1 → (tow r).length ≤ f + 1
  | 0, r, h => by rw [tow_small h]; exact Nat.le_refl _
  | f + 1, r, h => by
    by_cases h1 : r.length ≤ 1
    · rw [tow_small h1]
      show 1 ≤ _
      omega
    · rw [tow_big (by omega), List.length_cons]
      have := tow_length f (pairUp r) (by rw [pairUp_len]; omega)
      omega

theorem pairUp_eq : ∀ r : List Nat, pairUp r = ((List.range (r.length / 2)).map fun i => r.getD (2 * i) 0 * r.getD (2 * i + 1) 0) ++ r.drop (r.length / 2 * 2)
  | [] => rfl
  | [a] => by simp [pairUp]
  | a :: b :: r => by
    show a * b :: pairUp r = _
    rw [pairUp_eq r]
    have e : (a :: b :: r).length / 2 = r.length / 2 + 1 := by
      simp only [List.length_cons]
      omega
    rw [e, List.range_succ_eq_map, List.map_cons, List.map_map, List.cons_append]
    congr 1
    rw [show (r.length / 2 + 1) * 2 = r.length / 2 * 2 + 1 + 1 by omega, List.drop_succ_cons, List.drop_succ_cons]
    congr 1
theorem expand_len : ∀ (row ps : List Nat), ps.length = (row.length + 1) / 2 → (expand ps row).length = row.length
  | [], ps, h => by
    have : ps = [] := List.length_eq_zero_iff.mp (by simpa using h)
    subst this
    rfl
  | [a], ps, h => by
    obtain ⟨q, rfl⟩ := List.length_eq_one_iff.mp (show ps.length = 1 by simpa using h)
    rfl
  | a :: b :: r, ps, h => by
    match ps, h with
    | q :: ps, h =>
      show (expand ps r).length + 1 + 1 = r.length + 1 + 1
      rw [expand_len r ps (by simp only [List.length_cons] at h; omega)]
    | [], h => simp only [List.length_cons, List.length_nil] at h; omega
theorem expand_at : ∀ (row ps : List Nat) (i q : Nat), ps.length = (row.length + 1) / 2 → ps[i]? = some q → i * 2 + 1 < row.length →
    (expand ps row)[2 * i]? = some (q % row.getD (2 * i) 0) ∧ (expand ps row)[2 * i + 1]? = some (q / row.getD (2 * i) 0)
  | [], ps, i, q, _, _, hi => by simp at hi
  | [a], ps, i, q, _, _, hi => by simp at hi
  | a :: b :: r, [], i, q, _, h, _ => by simp at h
  | a :: b :: r, p :: ps, 0, q, _, h, _ => by
    have e : p = q := Option.some.inj h
    subst e
    exact ⟨rfl, rfl⟩
  | a :: b :: r, p :: ps, i + 1, q, hl, h, hi => by
    have ih := expand_at r ps i q (by simp only [List.length_cons] at hl; omega) (by simpa using h) (by simp only [List.length_cons] at hi; omega)
    show (p % a :: p / a :: expand ps r)[2 * i + 2]? = some (q % (a :: b :: r).getD (2 * i + 2) 0) ∧ (p % a :: p / a :: expand ps r)[2 * i + 3]? = some (q / (a :: b :: r).getD (2 * i + 2) 0)
    simpa using ih
theorem expand_end : ∀ (row ps : List Nat) (i q : Nat), ps.length = (row.length + 1) / 2 → ps[i]? = some q → ¬ i * 2 + 1 < row.length → (expand ps row)[2 * i]? = some q ∧ row.length = 2 * i + 1
  | [], ps, i, q, hl, h, _ => by
    have : ps = [] := List.length_eq_zero_iff.mp (by simpa using hl)
    subst this
    simp at h
  | [a], ps, i, q, hl, h, hi => by
    obtain ⟨p, rfl⟩ := List.length_eq_one_iff.mp (show ps.length = 1 by simpa using hl)
    cases i with
    | zero =>
      have e : p = q := by simpa using h
      subst e
      exact ⟨rfl, rfl⟩
    | succ i => simp at h
  | a :: b :: r, [], i, q, _, h, _ => by simp at h
  | a :: b :: r, p :: ps, 0, q, _, h, hi => by
    simp only [List.length_cons] at hi
    omega
  | a :: b :: r, p :: ps, i + 1, q, hl, h, hi => by
    have ih := expand_end r ps i q (by simp only [List.length_cons] at hl; omega) (by simpa using h) (by simp only [List.length_cons] at hi; omega)
    refine ⟨?_, by simp only [List.length_cons]; omega⟩
    show (p % a :: p / a :: expand ps r)[2 * i + 2]? = some q
    simpa using ih.1
/-- parts at a row -/
theorem mix_row {rows : List (List Nat)} (c : Chn rows) {j : Nat} {r s : List Nat} (hr : rows[j]? = some r) (hs : rows[j + 1]? = some s) (n : Nat) : expand (mix s n) r = mix r n ∧ (mix s n).length = (r.length + 1) / 2 := by
  obtain ⟨e, h⟩ := c.nx j r s hr hs
  subst e
  refine ⟨expand_mix r n (fun z => by rw [z] at h; simp at h), ?_⟩
  rw [mix_len, pairUp_len]
  omega
theorem mix_short {r : List Nat} (h : r.length ≤ 1) (n : Nat) : mix r n = [n] := by
  match r, h with
  | [], _ => rfl
  | [_], _ => rfl

/-! ### how many places are always enough -/
theorem log2_le_pow {p : Nat} (hp : p ≠ 0) : 2 ^ p.log2 ≤ p := Nat.log2_self_le hp
theorem log2_one {p : Nat} (hp : 2 ≤ p) : 1 ≤ p.log2 := by
  apply Classical.byContradiction
  intro h
  have e : p.log2 = 0 := by omega
  have h2 : p < 2 ^ (p.log2 + 1) := Nat.lt_log2_self
  rw [e] at h2
  omega
theorem places_enough {p n b : Nat} (hp : 2 ≤ p) (hb : n < 2 ^ b) : n < p ^ ((b + p.log2 - 1) / p.log2) := by
  have h1 := log2_one hp
  have h2 : b ≤ p.log2 * ((b + p.log2 - 1) / p.log2) := by
    have h3 := Nat.div_add_mod (b + p.log2 - 1) p.log2
    have h4 := Nat.mod_lt (b + p.log2 - 1) (show 0 < p.log2 by omega)
    omega
  have h5 : 2 ^ b ≤ p ^ ((b + p.log2 - 1) / p.log2) := by
    refine Nat.le_trans (Nat.pow_le_pow_right (by decide) h2) ?_
    rw [Nat.pow_mul]
    exact Nat.pow_le_pow_left (log2_le_pow (by omega)) _
  omega
theorem places_small {p b : Nat} (hp : 2 ≤ p) (hp2 : p < 1024) (hb : b ≤ 1001) : p ^ ((b + p.log2 - 1) / p.log2) < 2 ^ 4000 ∧ (b + p.log2 - 1) / p.log2 ≤ 2000 := by
  have h1 := log2_one hp
  have hL : p.log2 < 10 := by
    apply Classical.byContradiction
    intro h
    have h2 : 2 ^ 10 ≤ 2 ^ p.log2 := Nat.pow_le_pow_right (by decide) (by omega)
    have h3 := log2_le_pow (p := p) (by omega)
    omega
  generalize hk : (b + p.log2 - 1) / p.log2 = k
  have h4 : p.log2 * k ≤ b + p.log2 - 1 := by
    rw [← hk]
    exact Nat.mul_div_le _ _
  have h6 : k ≤ p.log2 * k := Nat.le_mul_of_pos_left _ (by omega)
  refine ⟨?_, by omega⟩
  have h5 : p ^ k ≤ 2 ^ ((p.log2 + 1) * k) := by
    rw [Nat.pow_mul]
    exact Nat.pow_le_pow_left (Nat.le_of_lt Nat.lt_log2_self) _
  have h7 : (p.log2 + 1) * k = p.log2 * k + k := by rw [Nat.add_mul, Nat.one_mul]
  refine Nat.lt_of_le_of_lt h5 (Nat.pow_lt_pow_right (by decide) (by omega))
theorem fit_rep {p b : Nat} (hp : 2 ≤ p) (hp2 : p < 1024) (hb : b ≤ 1001) : Fit (List.replicate ((b + p.log2 - 1) / p.log2) p) := by
  obtain ⟨h1, h2⟩ := places_small hp hp2 hb
  refine ⟨fun d hd => ?_, by rw [prodL_rep]; exact h1, by rw [List.length_replicate]; omega⟩
  rw [List.eq_of_mem_replicate hd]
  omega
theorem strip_drop {l : List Nat} (h : l.getLast? = some 0) : strip l.dropLast = strip l := by
  have e : l = l.dropLast ++ [0] := by
    have hne : l ≠ [] := fun z => by rw [z] at h; cases h
    have h2 := List.dropLast_concat_getLast hne
    rw [List.getLast?_eq_getLast hne] at h
    rw [Option.some.inj h] at h2
    exact h2.symm
  have z := strip_zeros l.dropLast [0] (fun d hd => List.mem_singleton.mp hd)
  rw [← e] at z
  exact z.symm
/-- the number to a power, by halves -/
theorem pow_turn (x m p f n : Nat) (hx : 0 < m) : (f * (x ^ m) % p = n) → ((if m % 2 = 1 then f * x % p else f) * ((x * x % p) ^ (m / 2)) % p = n) := by
  intro h
  rw [← h]
  have e0 : (x * x % p) ^ (m / 2) % p = (x * x) ^ (m / 2) % p := (Nat.pow_mod (x * x) (m / 2) p).symm
  have e1 : (x * x) ^ (m / 2) = x ^ (2 * (m / 2)) := by
    rw [Nat.pow_mul, Nat.pow_two]
  by_cases c : m % 2 = 1
  · rw [if_pos c]
    have e2 : x ^ m = x * x ^ (2 * (m / 2)) := by
      rw [← Nat.pow_succ']
      congr 1
      omega
    rw [e2, ← Nat.mul_assoc]
    refine mm (Nat.mod_mod _ _) ?_
    rw [e0, e1]
  · rw [if_neg c]
    have e2 : x ^ m = x ^ (2 * (m / 2)) := by
      congr 1
      omega
    rw [e2]
    refine mm rfl ?_
    rw [e0, e1]
/-- the places at which some's figure is the greater one -/
def bpl (p n s : Nat) : List Nat := (List.range (min (dig p n).length (dig p s).length)).filter fun i => decide ((dig p n).getD i 0 < (dig p s).getD i 0)
/-- how often, and the core, of the ways -/
def waysO (p n s : Nat) : Int := (lg p n : Int) - (lg p s : Int) - (lg p (n - s) : Int)
def waysC (p n s : Nat) : Nat := cf p n * ((cf p s * cf p (n - s) % p) ^ (p - 2) % p) % p
theorem dig_len_small {p n : Nat} (hp : 2 ≤ p) (hn : n < 2 ^ 1000) : (dig p n).length ≤ 1000 := dig_len_le hp (Nat.lt_of_lt_of_le hn (Nat.pow_le_pow_left hp _))
theorem lg_le {p : Nat} (hp : 2 ≤ p) (n : Nat) : lg p n ≤ n := by
  have h := dig_sum hp n
  have h2 : lg p n ≤ (p - 1) * lg p n := Nat.le_mul_of_pos_left _ (by omega)
  omega

/-! ### places of a greater figure; the ways -/
def gtp (p n s i : Nat) : Bool := decide (p ^ i ≤ n) && decide (n / p ^ i % p < s / p ^ i % p)
theorem dig_getD {p : Nat} (hp : 2 ≤ p) (n i : Nat) : (dig p n).getD i 0 = n / p ^ i % p := by
  by_cases h : p ^ i ≤ n
  · rw [List.getD_eq_getElem?_getD, dig_get hp n i h]
    rfl
  · rw [List.getD_eq_getElem?_getD, dig_none hp n i (by omega), Nat.div_eq_of_lt (by omega), Nat.zero_mod]
    rfl
theorem mem_bpl {p n s : Nat} (hp : 2 ≤ p) (hs : s ≤ n) (i : Nat) : i ∈ bpl p n s ↔ gtp p n s i = true := by
  unfold bpl gtp
  rw [List.mem_filter, List.mem_range, Bool.and_eq_true, decide_eq_true_eq, decide_eq_true_eq, decide_eq_true_eq, dig_getD hp, dig_getD hp]
  constructor
  · rintro ⟨h1, h2⟩
    exact ⟨(dig_len_iff hp).mp (by omega), h2⟩
  · rintro ⟨h1, h2⟩
    have h3 : p ^ i ≤ s := by
      apply Classical.byContradiction
      intro z
      rw [Nat.div_eq_of_lt (show s < p ^ i by omega), Nat.zero_mod] at h2
      omega
    have a := (dig_len_iff hp (n := n) (k := i)).mpr h1
    have b := (dig_len_iff hp (n := s) (k := i)).mpr h3
    exact ⟨by omega, h2⟩
theorem bpl_any {p n s : Nat} (hp : 2 ≤ p) (hs : s ≤ n) (r : Int) : ((bpl p n s).any fun d => ((d : Int) == r)) = (decide (0 ≤ r) && gtp p n s r.toNat) := by
  by_cases h : ((bpl p n s).any fun d => ((d : Int) == r)) = true
  · rw [h]
    obtain ⟨d, hd, e⟩ := List.any_eq_true.mp h
    have e2 : (d : Int) = r := by simpa using e
    subst e2
    have := (mem_bpl hp hs d).mp hd
    rw [Int.toNat_natCast, this]
    simp
  · rw [Bool.not_eq_true] at h
    rw [h]
    symm
    apply Classical.byContradiction
    intro z
    rw [Bool.not_eq_false, Bool.and_eq_true, decide_eq_true_eq] at z
    have hm := (mem_bpl hp hs r.toNat).mpr z.2
    have := List.any_eq_false.mp h _ hm
    apply this
    have e : ((r.toNat : Nat) : Int) = r := Int.toNat_of_nonneg z.1
    rw [e]
    simp
theorem ways_eq (p n s : Nat) : cf p n * ((cf p s) ^ (p - 2) % p) % p * ((cf p (n - s)) ^ (p - 2) % p) % p = waysC p n s := by
  unfold waysC
  have e1 : cf p n * (cf p s ^ (p - 2) % p) % p * (cf p (n - s) ^ (p - 2) % p) % p = cf p n * cf p s ^ (p - 2) * cf p (n - s) ^ (p - 2) % p := mm (by rw [Nat.mod_mod]; exact mm rfl (Nat.mod_mod _ _)) (Nat.mod_mod _ _)
  have e2 : (cf p s * cf p (n - s) % p) ^ (p - 2) % p = cf p s ^ (p - 2) * cf p (n - s) ^ (p - 2) % p := by
    rw [← Nat.pow_mod, Nat.mul_pow]
  rw [e1, e2, Nat.mul_mod_mod, Nat.mul_assoc]
/-- the number that figures tell -/
def worth (p : Nat) : List Nat → Nat
  | [] => 0
  | d :: ds => worth p ds * p + d
theorem worth_dig {p : Nat} (hp : 2 ≤ p) : ∀ n, worth p (dig p n) = n := by
  intro n
  refine dig_ind hp (C := fun n => worth p (dig p n) = n) rfl ?_ n
  intro n hn ih
  rw [dig_step hp hn]
  show worth p (dig p (n / p)) * p + n % p = n
  rw [ih, Nat.mul_comm]
  exact Nat.div_add_mod n p
theorem worth_le {p : Nat} : ∀ (ds es : List Nat), ds.length = es.length → (∀ (i d e : Nat), ds[i]? = some d → es[i]? = some e → d ≤ e) → worth p ds ≤ worth p es
  | [], _, _, _ => Nat.zero_le _
  | d :: ds, [], h, _ => by cases h
  | d :: ds, e :: es, h, hle => by
    have h1 := worth_le (p := p) ds es (Nat.succ.inj h) fun i a b ha hb => hle (i + 1) a b (by simpa using ha) (by simpa using hb)
    have h2 := hle 0 d e rfl rfl
    exact Nat.add_le_add (Nat.mul_le_mul_right _ h1) h2
/-- reading from the highest figure on -/
theorem worth_rev (p : Nat) : ∀ (ds : List Nat) (a : Nat), ds.reverse.foldl (fun f d => f * p + d) a = (ds.reverse.foldl (fun f d => f * p + d) a) := fun _ _ => rfl
theorem worth_foldl (p : Nat) (ds : List Nat) : ds.reverse.foldl (fun f d => f * p + d) 0 = worth p ds := by
  induction ds with
  | nil => rfl
  | cons d ds ih =>
    rw [List.reverse_cons, List.foldl_append, ih]
    rfl
end Cc

/-! list(zip(xs, ys)) of two lists: a new list of new pairs. -/
namespace Zl
open PySem PySem.Spec PyProof.Rows L2

theorem zip_nolen : typeLookup (.type "zip") "__len__" = pure none := am_miss_of_fast (by decide +kernel)
theorem zip_nohint : typeLookup (.type "zip") "__length_hint__" = pure none := am_miss_of_fast (by decide +kernel)

/-- the zip at z amid its walk, i pairs given out; S the list that is filled -/
structure ZS (h : Heap) (S z TI TO i1 i2 a b : Addr) (xs ys : Array Value) (i : Nat) : Prop where
  pair : IsPair h TI (.ref i1) (.ref i2)
  it1 : h.IsListIter i1 a i
  it2 : h.IsListIter i2 b i
  l1 : h.IsList a xs
  l2 : h.IsList b ys
  zip : (IsZip h z TI TO .none ∧ ∃ u v, IsPair h TO u v) ∨ ∃ (T : Addr) (f : Bool) (oT : Obj), IsZipHeld h z TI TO T f ∧ h.get? T = some oT ∧ T ≠ z ∧ T ≠ i1 ∧ T ≠ i2 ∧ T ≠ S

section
variable {prog : Program} {w : World} {A : Around} {s : Shared} {S z TI TO i1 i2 a b : Addr} {xs ys : Array Value} {i : Nat}
theorem ZS.keeps {h h' : Heap} (Z : ZS h S z TI TO i1 i2 a b xs ys i) (hn : ∀ c ∈ [z, TI, TO, i1, i2, a, b], c ≠ S) (hk : ∀ c o, c ≠ S → h.get? c = some o → h'.get? c = some o) : ZS h' S z TI TO i1 i2 a b xs ys i := by
  have n : ∀ {c}, c ∈ [z, TI, TO, i1, i2, a, b] → ∀ o, h.get? c = some o → h'.get? c = some o := fun hc o e => hk _ o (hn _ hc) e
  refine ⟨n (by simp) _ Z.pair, Z.it1.at fun o e => n (by simp) o e, Z.it2.at fun o e => n (by simp) o e, Z.l1.at fun o e => n (by simp) o e, Z.l2.at fun o e => n (by simp) o e, ?_⟩
  rcases Z.zip with ⟨q1, u, v, q2⟩ | ⟨T, f, oT, q1, q2, r1, r2, r3, r4⟩
  · exact .inl ⟨n (by simp) _ q1, u, v, n (by simp) _ q2⟩
  · exact .inr ⟨T, f, oT, n (by simp) _ q1, hk T _ r4 q2, r1, r2, r3, r4⟩

theorem zs_next {Q : Option Value → Shared → Prop} {E : Value → Shared → Prop} {x y : Value} (D : ZipApart z TI TO i1 i2 a b) (Z : ZS s.heap S z TI TO i1 i2 a b xs ys i) (hS : S < s.heap.objs.size) (hx : xs[i]? = some x) (hy : ys[i]? = some y)
    (hQ : ∀ h', ZS h' S z TI TO i1 i2 a b xs ys (i + 1) → IsPair h' s.heap.objs.size x y → h'.objs.size = s.heap.objs.size + 1 → (∀ c o, c ∉ [z, TO, i1, i2] → s.heap.get? c = some o → h'.get? c = some o) → Q (some (.ref s.heap.objs.size)) { s with heap := h' }) :
    wpAny (model prog w) A (pyNext (.ref z)) Q E s := by
  have far : ∀ {c o}, s.heap.get? c = some o → s.heap.objs.size ≠ c := fun e => Nat.ne_of_gt (Heap.lt_size e)
  have f1 : s.heap.objs.size ≠ i1 := by obtain ⟨_, e, _⟩ := Z.it1; exact far e
  have f2 : s.heap.objs.size ≠ i2 := by obtain ⟨_, e, _⟩ := Z.it2; exact far e
  rcases Z.zip with ⟨q1, u, v, q2⟩ | ⟨T, f, oT, q1, q2, r1, r2, r3, r4⟩
  · refine wpAny_pyNext_zip_item D q1 Z.pair q2 Z.it1 Z.it2 Z.l1 Z.l2 hx hy fun g b1 b2 b3 b4 b5 b6 kp => ?_
    refine hQ g ⟨kp _ _ D.TIz D.TITO D.TIi1 D.TIi2 Z.pair, b3, b4, Z.l1.at fun o e => kp _ o D.l1z D.l1TO D.l1i1 D.l1i2 e, Z.l2.at fun o e => kp _ o D.l2z D.l2TO D.l2i1 D.l2i2 e, ?_⟩ b5 b6 fun c o hc e => ?_
    · exact .inr ⟨_, false, _, b1, b5, far q1, f1, f2, Nat.ne_of_gt hS⟩
    · simp only [List.mem_cons, List.not_mem_nil, or_false, not_or] at hc
      exact kp c o hc.1 hc.2.1 hc.2.2.1 hc.2.2.2 e
  · refine wpAny_pyNext_zip_item_held D q1 q2 Z.pair Z.it1 Z.it2 Z.l1 Z.l2 hx hy fun g b1 b3 b4 b5 b6 kp => ?_
    refine hQ g ⟨kp _ _ D.TIz D.TIi1 D.TIi2 Z.pair, b3, b4, Z.l1.at fun o e => kp _ o D.l1z D.l1i1 D.l1i2 e, Z.l2.at fun o e => kp _ o D.l2z D.l2i1 D.l2i2 e, ?_⟩ b5 b6 fun c o hc e => ?_
    · exact .inr ⟨T, true, oT, b1, kp T _ r1 r2 r3 q2, r1, r2, r3, r4⟩
    · simp only [List.mem_cons, List.not_mem_nil, or_false, not_or] at hc
      exact kp c o hc.1 hc.2.2.1 hc.2.2.2 e
theorem zs_done {Q : Option Value → Shared → Prop} {E : Value → Shared → Prop} (hh : A.handled = none) (D : ZipApart z TI TO i1 i2 a b) (Z : ZS s.heap S z TI TO i1 i2 a b xs ys i) (he : xs[i]? = none ∨ ys[i]? = none)
    (hQ : ∀ h', (∀ c o, c ∉ [z, TO, i1, i2] → s.heap.get? c = some o → h'.get? c = some o) → Q none { s with heap := h' }) : wpAny (model prog w) A (pyNext (.ref z)) Q E s := by
  rcases Z.zip with ⟨q1, u, v, q2⟩ | ⟨T, f, oT, q1, q2, _, _, _, _⟩
  · refine wpAny_pyNext_zip_end hh D q1 Z.pair q2 Z.it1 Z.it2 Z.l1 Z.l2 he fun g kp => hQ g fun c o hc e => ?_
    simp only [List.mem_cons, List.not_mem_nil, or_false, not_or] at hc
    exact kp c o hc.1 hc.2.1 hc.2.2.1 hc.2.2.2 e
  · refine wpAny_pyNext_zip_end_held hh D q1 q2 Z.pair Z.it1 Z.it2 Z.l1 Z.l2 he fun g kp => hQ g fun c o hc e => ?_
    simp only [List.mem_cons, List.not_mem_nil, or_false, not_or] at hc
    exact kp c o hc.1 hc.2.2.1 hc.2.2.2 e

/-- the pairs made so far, rising beyond lo -/
structure Made (h : Heap) (lo : Addr) (xs ys : Array Value) (ts : List Addr) : Prop where
  rise : ts.Pairwise (· < ·)
  above : ∀ t ∈ ts, lo < t
  pairs : ∀ (j : Nat) (t : Addr), ts[j]? = some t → ∃ x y, xs[j]? = some x ∧ ys[j]? = some y ∧ IsPair h t x y
theorem Made.low {h : Heap} {lo : Addr} {ts : List Addr} (M : Made h lo xs ys ts) {t : Addr} (ht : t ∈ ts) : t < h.objs.size := by
  obtain ⟨j, hj⟩ := List.mem_iff_getElem?.mp ht
  obtain ⟨_, _, _, _, e⟩ := M.pairs j t hj
  exact Heap.lt_size e
theorem Made.keeps {h h' : Heap} {lo : Addr} {ts : List Addr} (M : Made h lo xs ys ts) (hk : ∀ c o, lo < c → h.get? c = some o → h'.get? c = some o) : Made h' lo xs ys ts :=
  ⟨M.rise, M.above, fun j t e => by
    obtain ⟨x, y, e1, e2, e3⟩ := M.pairs j t e
    exact ⟨x, y, e1, e2, hk t _ (M.above t (List.mem_of_getElem? e)) e3⟩⟩
theorem Made.more {h h' : Heap} {lo n : Addr} {ts : List Addr} {x y : Value} (M : Made h lo xs ys ts) (hk : ∀ c o, lo < c → h.get? c = some o → h'.get? c = some o) (hlo : lo < n) (hn : h.objs.size ≤ n) (hx : xs[ts.length]? = some x) (hy : ys[ts.length]? = some y) (hp : IsPair h' n x y) :
    Made h' lo xs ys (ts ++ [n]) := by
  refine ⟨List.pairwise_append.mpr ⟨M.rise, List.pairwise_singleton _ _, fun t ht v hv => ?_⟩, fun t ht => ?_, fun j t hj => ?_⟩
  · rw [List.mem_singleton.mp hv]
    exact Nat.lt_of_lt_of_le (M.low ht) hn
  · rcases List.mem_append.mp ht with q | q
    · exact M.above t q
    · rw [List.mem_singleton.mp q]
      exact hlo
  · by_cases hl : j < ts.length
    · rw [List.getElem?_append_left hl] at hj
      exact (M.keeps hk).pairs j t hj
    · by_cases he : j = ts.length
      · subst he
        have q : n = t := by simpa using hj
        subst q
        exact ⟨x, y, hx, hy, hp⟩
      · rw [List.getElem?_eq_none (by rw [List.length_append, List.length_singleton]; omega)] at hj
        cases hj

theorem zs_loop {R : Result → Shared → Prop} (hh : A.handled = none) (D : ZipApart z TI TO i1 i2 a b) (n m : Nat) (hn : n = min xs.size ys.size) (hz : n ≤ sizeLine) (hSm : m ≤ S) (hl : ∀ c ∈ [z, TO, i1, i2], m ≤ c ∧ c < S) (hf : ∀ c ∈ [z, TI, TO, i1, i2, a, b], c ≠ S) (res : Value) {h0 : Heap}
    (hR : ∀ h' tk acc c ts, (∀ d o, d < m → h0.get? d = some o → h'.get? d = some o) → h'.get? S = some { cls := .type "list", dict := none, data := .seq acc c, slots := #[] } → ts.length = n → Made h' S xs ys ts → acc.toList = ts.map Value.ref →
      R (.ok (.ret res)) { s with heap := h', toks := tk }) :
    ∀ (k i : Nat) (h : Heap) (tk c : Nat) (acc : Array Value) (ts : List Addr), n - i = k → i ≤ n → ZS h S z TI TO i1 i2 a b xs ys i → (∀ d o, d < m → h0.get? d = some o → h.get? d = some o) →
      h.get? S = some { cls := .type "list", dict := none, data := .seq acc c, slots := #[] } → acc.toList = ts.map Value.ref → ts.length = i → Made h S xs ys ts →
      codeAny (model prog w) A (.builtin "list.extend.loop" ⟨[.ref S, .ref z, res], []⟩) R { s with heap := h, toks := tk } := by
  have off : ∀ {c}, c < m → c ∉ [z, TO, i1, i2] := fun hc q => absurd (hl _ q).1 (Nat.not_le.mpr hc)
  have offS : S ∉ [z, TO, i1, i2] := fun q => absurd (hl _ q).2 (Nat.lt_irrefl _)
  have offG : ∀ {c}, S < c → c ∉ [z, TO, i1, i2] := fun hc q => absurd (hl _ q).2 (Nat.not_lt.mpr (Nat.le_of_lt hc))
  intro k
  induction k with
  | zero =>
    intro i h tk c acc ts hk hi Z keep hS hacc hlen M
    refine codeAny_builtin PySem.F.entry_extend_loop ?_
    rw [Around.under_plainId PySem.F.plain_extend_loop _]
    show wpAny _ A.in1 (pyNext (.ref z) >>= _) _ _ _
    refine wpAny_bind (zs_done (s := ⟨h, s.gens, s.drawn, tk, s.os⟩) (A := A.in1) hh D Z ?_ fun g kp => ?_)
    · rcases Nat.le_total xs.size ys.size with q | q
      · exact .inl (Array.getElem?_eq_none (by omega))
      · exact .inr (Array.getElem?_eq_none (by omega))
    · exact wpAny_pure (hR g tk acc c ts (fun d o hd e => kp d o (off hd) (keep d o hd e)) (kp S _ offS hS) (by omega) (M.keeps fun d o hd e => kp d o (offG hd) e) hacc)
  | succ k ih =>
    intro i h tk c acc ts hk hi Z keep hS hacc hlen M
    have h1 : i < xs.size := by omega
    have h2 : i < ys.size := by omega
    have hSl : S < h.objs.size := Heap.lt_size hS
    have hsz : acc.size = i := by rw [← Array.length_toList, hacc, List.length_map, hlen]
    refine codeAny_builtin PySem.F.entry_extend_loop ?_
    rw [Around.under_plainId PySem.F.plain_extend_loop _]
    show wpAny _ A.in1 (pyNext (.ref z) >>= _) _ _ _
    refine wpAny_bind (zs_next (s := ⟨h, s.gens, s.drawn, tk, s.os⟩) (A := A.in1) D Z hSl (Array.getElem?_eq_getElem h1) (Array.getElem?_eq_getElem h2) fun g Z' hp hgs kp => ?_)
    dsimp only at hp hgs kp ⊢
    have hS' := kp S _ offS hS
    have upd : ∀ d o, d ≠ S → g.get? d = some o → (g.update S (Obj.mapSeq (·.push (Value.ref h.objs.size)))).get? d = some o := fun d o hd e => (Heap.get?_update_other _ _ (Ne.symm hd)).trans e
    show wpAny _ A.in1 (updateSeq S (·.push (Value.ref h.objs.size)) >>= _) _ _ _
    refine wpAny_bind ?_
    refine wpAny_updateSeq hS' rfl (wpAny_pure ⟨plainId_quiet PySem.F.plain_extend_loop _, ih (i + 1) _ tk _ (acc.push (Value.ref h.objs.size)) (ts ++ [h.objs.size]) (by omega) (by omega) (Z'.keeps hf fun d o hd e => upd d o hd e) (fun d o hd e => ?_)
      (Heap.get?_update_self _ hS' rfl) (by rw [Array.toList_push, hacc, List.map_append]; rfl) (by rw [List.length_append, hlen]; rfl) ?_⟩) (by rw [hsz]; omega) (by show (acc.push (Value.ref h.objs.size)).size ≤ sizeLine + 1; rw [Array.size_push, hsz]; omega)
    · exact upd d o (fun q => absurd hd (by rw [q]; exact Nat.not_lt.mpr hSm)) (kp d o (off hd) (keep d o hd e))
    · refine M.more (fun d o hd e => upd d o (Nat.ne_of_gt hd) (kp d o (offG hd) e)) hSl (Nat.le_refl _) (by rw [hlen]; exact Array.getElem?_eq_getElem h1) (by rw [hlen]; exact Array.getElem?_eq_getElem h2) (upd _ _ (Nat.ne_of_gt hSl) hp)

theorem zs_extend {R : Result → Shared → Prop} {S m : Nat} (hh : A.handled = none) (D : ZipApart z TI TO i1 i2 a b) (n : Nat) (hn : n = min xs.size ys.size) (hz : n ≤ sizeLine) (hSm : m ≤ S) (hl : ∀ c ∈ [z, TO, i1, i2], m ≤ c ∧ c < S) (hf : ∀ c ∈ [z, TI, TO, i1, i2, a, b], c ≠ S) (res : Value) (c₀ : Nat)
    (Z : ZS s.heap S z TI TO i1 i2 a b xs ys 0) (hz0 : IsZip s.heap z TI TO .none) (hS : s.heap.get? S = some { cls := .type "list", data := .seq #[] c₀ })
    (hR : ∀ h' tk acc c ts, (∀ d o, d < m → s.heap.get? d = some o → h'.get? d = some o) → h'.get? S = some { cls := .type "list", dict := none, data := .seq acc c, slots := #[] } → ts.length = n → Made h' S xs ys ts → acc.toList = ts.map Value.ref →
      R (.ok (.ret res)) { s with heap := h', toks := tk }) :
    wpAny (model prog w) A.in1 (Builtin.List.listExtendWith (.ref S) (.ref z) res)
      (fun fin s' => match fin with | .done f => R (.ok f) s' | .again c' => c'.quiet = true ∧ codeAny (model prog w) A c' R s') (fun e s' => R (.error e) s') s := by
  have hzS : S ≠ z := fun q => hf z (by simp) q.symm
  have hT : ∀ {h : Heap} {tk : Nat}, IsZip h z TI TO .none → (⟨h, s.gens, s.drawn, tk, s.os⟩ : Shared).TypeIs (.ref z) "zip" := fun q => ⟨_, q, rfl⟩
  unfold Builtin.List.listExtendWith
  refine wpAny_bind (wpAny_typeOf (T := "zip") ⟨_, hz0, rfl⟩ ?_)
  have e1 : Builtin.List.listSameRef (.ref S) (.ref z) = false := by simp [Builtin.List.listSameRef, hzS]
  have e2 : (Value.type "zip" == Value.type "list") = false := by decide
  have e3 : (Value.type "zip" == Value.type "tuple") = false := by decide
  simp only [e1, e2, e3, Bool.or_false, Bool.false_eq_true, if_false]
  refine wpAny_bind (wpAny_pyIter_zip hz0 ?_)
  refine wpAny_bind (wpAny_holding ?_)
  unfold Builtin.List.listLengthHint
  refine wpAny_bind (wpAny_specialOf (T := "zip") ⟨_, hz0, rfl⟩ zip_nolen ?_)
  show wpAny _ A.in1 (specialOf (Value.ref z) (Str.ofString "__length_hint__") >>= _) _ _ _
  refine wpAny_bind (wpAny_specialOf (T := "zip") ⟨_, hz0, rfl⟩ zip_nohint ?_)
  refine wpAny_pure ?_
  refine wpAny_ite_split (fun _ => ?_) (fun q => absurd (by simp) q)
  refine wpAny_bind (wpAny_rule ?_)
  refine wpAny_bind ?_
  show wpAny _ _ (updateSeq S (·.push .none) >>= fun _ => updateSeq S (·.pop)) _ _ _
  refine wpAny_bind (wpAny_updateSeq hS rfl ?_)
  have g1 := Heap.get?_update_self (Obj.mapSeq (·.push Value.none)) hS rfl
  refine wpAny_updateSeq (hz := by seq_fits) g1 rfl ?_
  have g2 := Heap.get?_update_self (Obj.mapSeq (·.pop)) g1 rfl
  have up : ∀ d o, d ≠ S → s.heap.get? d = some o → ((s.heap.update S (Obj.mapSeq (·.push Value.none))).update S (Obj.mapSeq (·.pop))).get? d = some o := fun d o hd e =>
    (Heap.get?_update_other _ _ (Ne.symm hd)).trans ((Heap.get?_update_other _ _ (Ne.symm hd)).trans e)
  refine wpAny_pure ⟨plainId_quiet PySem.F.plain_extend_loop _, ?_⟩
  exact zs_loop (s := s) (h0 := s.heap) hh D n m hn hz hSm hl hf res hR n 0 _ s.toks _ #[] [] (by omega) (Nat.zero_le _) (Z.keeps hf up) (fun d o hd e => up d o (fun q => absurd hd (by rw [q]; exact Nat.not_lt.mpr hSm)) e) g2 rfl rfl
    ⟨List.Pairwise.nil, (fun _ q => nomatch q), (fun j t q => by simp at q)⟩

theorem zs_call {Q : Value → Shared → Prop} {E : Value → Shared → Prop} {m : Nat} (hh : A.handled = none) (D : ZipApart z TI TO i1 i2 a b) (n : Nat) (hn : n = min xs.size ys.size) (hz : n ≤ sizeLine) (hl : ∀ c ∈ [z, TO, i1, i2], m ≤ c) (hb : ∀ c ∈ [z, TI, TO, i1, i2, a, b], c < s.heap.objs.size) (hm : m ≤ s.heap.objs.size)
    (Z : ∀ S, ZS s.heap S z TI TO i1 i2 a b xs ys 0) (hz0 : IsZip s.heap z TI TO .none)
    (hQ : ∀ h' tk acc c ts, (∀ d o, d < m → s.heap.get? d = some o → h'.get? d = some o) → h'.get? s.heap.objs.size = some { cls := .type "list", dict := none, data := .seq acc c, slots := #[] } → ts.length = n → Made h' s.heap.objs.size xs ys ts → acc.toList = ts.map Value.ref →
      Q (.ref s.heap.objs.size) { s with heap := h', toks := tk }) :
    wpAny (model prog w) A (call (.type "list") [.ref z]) Q E s := by
  refine callType_codes (Q₁ := fun obj s₁ => obj = .ref s.heap.objs.size ∧ s₁ = { s with heap := s.heap.push { cls := .type "list", data := .seq #[] } }) PySem.F.called_list (PySem.F.typeCall_list_1 _) PySem.F.entry_list_init
    (code_list_new _ ⟨rfl, rfl⟩) fun obj s₁ h₁ => ?_
  obtain ⟨rfl, rfl⟩ := h₁
  have hS : (s.heap.push { cls := .type "list", data := .seq #[] }).get? s.heap.objs.size = some { cls := .type "list", data := .seq #[] } := Heap.get?_push_size _ rfl
  have hf : ∀ c ∈ [z, TI, TO, i1, i2, a, b], c ≠ s.heap.objs.size := fun c hc => Nat.ne_of_lt (hb c hc)
  refine ⟨⟨_, hS, rfl⟩, PySem.F.args_list_init_2 _ _, ?_⟩
  show wpAny _ _ (do let old ← Builtin.List.listItems (.ref s.heap.objs.size); Builtin.List.listUpdate (.ref s.heap.objs.size) (fun _ => #[]); letGo old.toList.reverse; Builtin.List.listExtendWith (.ref s.heap.objs.size) (.ref z) .none) _ _ _
  refine wpAny_bind ?_
  unfold Builtin.List.listItems
  refine wpAny_bind (wpAny_seqItems hS rfl (wpAny_pure ?_))
  show wpAny _ _ (updateSeq s.heap.objs.size (fun _ => #[]) >>= fun _ => letGo (#[] : Array Value).toList.reverse >>= fun _ => Builtin.List.listExtendWith (.ref s.heap.objs.size) (.ref z) .none) _ _ _
  refine wpAny_bind (wpAny_updateSeq hS rfl ?_)
  have g1 := Heap.get?_update_self (Obj.mapSeq (fun _ => (#[] : Array Value))) hS rfl
  have up : ∀ d o, d ≠ s.heap.objs.size → s.heap.get? d = some o → ((s.heap.push { cls := .type "list", data := .seq #[] }).update s.heap.objs.size (Obj.mapSeq (fun _ => (#[] : Array Value)))).get? d = some o :=
    fun d o hd e => (Heap.get?_update_other _ _ (Ne.symm hd)).trans (Heap.get?_push_of_some _ e)
  refine wpAny_bind (wpAny_letGo ?_)
  refine zs_extend (S := s.heap.objs.size) (A := A.in1) (m := m) hh D n hn hz hm (fun c hc => ⟨hl c hc, hb c ?_⟩) hf .none _ ((Z s.heap.objs.size).keeps hf up) (up _ _ (hf z (by simp)) hz0) g1 fun h' tk acc c ts kp e1 e2 e3 e4 => ?_
  · simp only [List.mem_cons, List.not_mem_nil, or_false] at hc ⊢
    rcases hc with q | q | q | q <;> simp [q]
  · exact ⟨rfl, hQ h' tk acc c ts (fun d o hd e => kp d o hd (up d o (Nat.ne_of_lt (Nat.lt_of_lt_of_le hd hm)) e)) e1 e2 e3 e4⟩
end

/-! ### over the layer -/
/-- the pairs tracked at their places -/
def putP : Hp → List Addr → List (V × V) → Hp
  | H, t :: ts, p :: ps => putP (upd H t (.tup [p.1, p.2])) ts ps
  | H, _, _ => H
theorem putP_off {c : Addr} : ∀ (ts : List Addr) (ps : List (V × V)) (H : Hp), c ∉ ts → putP H ts ps c = H c
  | [], _, _, _ => rfl
  | _ :: _, [], _, _ => rfl
  | t :: ts, p :: ps, H, h => by
    show putP (upd H t (.tup [p.1, p.2])) ts ps c = H c
    rw [putP_off ts ps _ (fun q => h (List.mem_cons_of_mem _ q)), upd_ne (fun q => h (by rw [q]; exact List.mem_cons_self))]
theorem putP_at : ∀ (ts : List Addr) (ps : List (V × V)) (H : Hp), ts.Nodup → ∀ (j : Nat) (t : Addr) (p : V × V), ts[j]? = some t → ps[j]? = some p → putP H ts ps t = some (.tup [p.1, p.2])
  | [], _, _, _, j, t, p, h, _ => by simp at h
  | _ :: _, [], _, _, j, t, p, _, h => by simp at h
  | u :: ts, q :: ps, H, nd, 0, t, p, h1, h2 => by
    have e1 : u = t := Option.some.inj h1
    have e2 : q = p := Option.some.inj h2
    subst e1 e2
    show putP (upd H u (.tup [q.1, q.2])) ts ps u = _
    rw [putP_off ts ps _ (List.nodup_cons.mp nd).1, upd_same]
  | u :: ts, q :: ps, H, nd, j + 1, t, p, h1, h2 => putP_at ts ps _ (List.nodup_cons.mp nd).2 j t p (by simpa using h1) (by simpa using h2)
theorem vals_ref : ∀ ts : List Addr, Vals (ts.map V.ref) (ts.map Value.ref)
  | [] => .nil
  | _ :: ts => .cons rfl (vals_ref ts)

/-- list(zip(..)): D the new list, ts the new pairs -/
def tListZip (K : PySem.W.Frag) (ta : TA) : TE := fun σ H Q => ta σ H fun vs H1 => ∃ (a b : Addr) (xs ys : List V), vs = [.ref a, .ref b] ∧ SqL K H1 a xs ∧ SqL K H1 b ys ∧
  ∀ (D : Addr) (ts : List Addr) (H2 : Hp), H1 D = none → (∀ c o, H1 c = some o → H2 c = some o) → H2 D = some (.lst (ts.map V.ref)) → ts.length = min xs.length ys.length →
    (∀ (j : Nat) (t : Addr) (x y : V), ts[j]? = some t → xs[j]? = some x → ys[j]? = some y → H2 t = some (.tup [x, y])) → Q (.ref D) H2
section
variable {X : Cx} {e e2 : Expr} {ta : TA} {p p2 pos pos2 : Pos}
theorem pe_listZip (hc : X.calm = true) (hgl : Gl X "list") (hml : X.mg "list" = none) (hgz : Gl X "zip") (hmz : X.mg "zip" = none) (ha : PA X [e, e2] ta)
    (hs : starEach [e, e2] X.env = (false, eval e X.env) :: starEach [e2] X.env := by rfl) (hpl : (backTo pos2 (starEach [e2] X.env)).any (·.1) = false := by rfl)
    (na : starEach [Expr.Call (.Name "zip" p2) [e, e2] [] pos2] X.env = (false, eval (Expr.Call (.Name "zip" p2) [e, e2] [] pos2) X.env) :: starEach [] X.env := by rfl) :
    PE X (.Call (.Name "list" p) [.Call (.Name "zip" p2) [e, e2] [] pos2] [] pos) (tListZip X.K ta) := by
  refine ⟨fun pins s σ H Q I h => ?_⟩
  refine Call_ (ld_blt I hgl hml boot_list (PyProof.Rows.callWith_type1 (args_cons ?_ na) na))
  refine Call_ (ld_blt I hgz hmz PyProof.Rows.boot_zip (PyProof.Rows.callWith_type1 (thn (ha.run pos2 pins s σ H _ I h) fun us s1 ⟨vs, H1, I1, r1, q1⟩ => ?_) hs hpl))
  obtain ⟨a, b, xs, ys, ex, hqx, hqy, q⟩ := q1
  subst ex
  obtain ⟨u1, u2, rfl, w1, w2⟩ := vals2 r1
  obtain rfl : u1 = Value.ref a := w1
  obtain rfl : u2 = Value.ref b := w2
  obtain ⟨its, rv, p1, z1⟩ := I1.list hqx
  obtain ⟨its2, rv2, p2', z2⟩ := I1.list hqy
  have la : a < s1.heap.objs.size := p1.lt
  have lb : b < s1.heap.objs.size := p2'.lt
  have len1 := rv.length
  have len2 := rv2.length
  refine call_zip_2 p1.isList p2'.isList fun h1 hz hTI hTO hi1 hi2 hsz hk => args_nil ?_
  have I2 : Inv X pins σ H1 { s1 with heap := h1 } := I1.kept (t' := s1.toks) hk
  refine zs_call (s := { s1 with heap := h1 }) (m := s1.heap.objs.size) (I1.ok.hd hc) (PySem.W.ktu_apart s1.heap.objs.size a b la lb) (min its.toArray.size its2.toArray.size) rfl (Nat.le_trans (Nat.min_le_left _ _) (by rw [List.size_toArray]; omega)) (fun c hc => ?_) (fun c hc => ?_) (by dsimp only; omega)
    (fun S => ⟨hTI, hi1, hi2, p1.isList.at fun o e => hk _ o e, p2'.isList.at fun o e => hk _ o e, .inl ⟨hz, _, _, hTO⟩⟩) hz fun h' tk acc c ts kp hS hlen M hacc => ?_
  · simp only [List.mem_cons, List.not_mem_nil, or_false] at hc
    rcases hc with q | q | q | q <;> rw [q] <;> omega
  · show c < h1.objs.size
    have e5 : h1.objs.size = s1.heap.objs.size + 5 := hsz
    rw [e5]
    simp only [List.mem_cons, List.not_mem_nil, or_false] at hc
    rcases hc with q | q | q | q | q | q | q <;> rw [q]
    · exact Nat.add_lt_add_left (by decide) _
    · exact Nat.add_lt_add_left (by decide) _
    · exact Nat.add_lt_add_left (by decide) _
    · exact Nat.lt_add_of_pos_right (by decide)
    · exact Nat.add_lt_add_left (by decide) _
    · exact Nat.lt_add_right _ la
    · exact Nat.lt_add_right _ lb
  · dsimp only at hS M kp ⊢
    have nd : ts.Nodup := List.Pairwise.imp (fun {u v} (h : u < v) => Nat.ne_of_lt h) M.rise
    have fresh : ∀ t ∈ ts, H1 t = none := fun t ht => I2.hok.fresh (Nat.le_of_lt (M.above t ht))
    have freshD : H1 h1.objs.size = none := I2.hok.fresh (Nat.le_refl _)
    have DnotIn : h1.objs.size ∉ ts := fun q => Nat.lt_irrefl _ (M.above _ q)
    have lz : ts.length = min xs.length ys.length := by rw [hlen, List.size_toArray, List.size_toArray, len1, len2]
    generalize hps : xs.zip ys = ps
    have psAt : ∀ (j : Nat) (x y : V), xs[j]? = some x → ys[j]? = some y → ps[j]? = some (x, y) := fun j x y ex ey => by
      rw [← hps]
      exact List.getElem?_zip_eq_some.mpr ⟨ex, ey⟩
    have at2 : ∀ (j : Nat) (t : Addr) (x y : V), ts[j]? = some t → xs[j]? = some x → ys[j]? = some y → putP (upd H1 h1.objs.size (.lst (ts.map V.ref))) ts ps t = some (.tup [x, y]) := fun j t x y e1 ex ey => putP_at ts ps _ nd j t (x, y) e1 (psAt j x y ex ey)
    have off : ∀ c, c ∉ ts → c ≠ h1.objs.size → putP (upd H1 h1.objs.size (.lst (ts.map V.ref))) ts ps c = H1 c := fun c q1 q2 => by rw [putP_off ts ps _ q1, upd_ne q2]
    have grow : ∀ c o, H1 c = some o → putP (upd H1 h1.objs.size (.lst (ts.map V.ref))) ts ps c = some o := fun c o e => by
      rw [off c (fun z => by rw [fresh c z] at e; cases e) (fun z => by rw [z, freshD] at e; cases e)]
      exact e
    have eD : putP (upd H1 h1.objs.size (.lst (ts.map V.ref))) ts ps h1.objs.size = some (.lst (ts.map V.ref)) := by rw [putP_off ts ps _ DnotIn, upd_same]
    have hk2 : ∀ d o, s1.heap.get? d = some o → h'.get? d = some o := fun d o e => kp d o (Heap.lt_size e) (hk d o e)
    have e5 : h1.objs.size = s1.heap.objs.size + 5 := hsz
    have low : ∀ d o, s1.heap.get? d = some o → d ∉ ts ∧ d ≠ h1.objs.size := fun d o e => by
      have y : d < h1.objs.size := by
        rw [e5]
        exact Nat.lt_add_right _ (Heap.lt_size e)
      exact ⟨fun z => Nat.lt_irrefl _ (Nat.lt_trans y (M.above d z)), Nat.ne_of_lt y⟩
    refine ⟨.ref h1.objs.size, putP (upd H1 h1.objs.size (.lst (ts.map V.ref))) ts ps, ?_, rfl, q _ ts _ freshD grow eD lz at2⟩
    refine I1.call' (ch := []) rfl ⟨fun d o e _ _ _ => hk2 d o e, fun d o e _ _ _ => ⟨o.slots, hk2 d o e⟩, fun d o e n _ => ?_, fun d o e _ => ⟨o, hk2 d o e⟩, fun d zs e => grow d _ e, fun d o u e => grow d _ e, fun d zs e => ⟨#[], by rw [grow d _ e]; simp⟩⟩ (fun d u e => ?_) I1.bare fun d z => by simp at z
    · obtain ⟨y1, y2⟩ := low d o e
      rw [off d y1 y2]
      exact n
    · by_cases hd : d ∈ ts
      · obtain ⟨j, hj⟩ := List.mem_iff_getElem?.mp hd
        obtain ⟨x, y, ex, ey, hp⟩ := M.pairs j d hj
        have jl : j < ts.length := (List.getElem?_eq_some_iff.mp hj).1
        have jx : j < xs.length := by omega
        have jy : j < ys.length := by omega
        obtain ⟨vx, gx⟩ : ∃ vx, xs[j]? = some vx := ⟨xs[j], List.getElem?_eq_getElem jx⟩
        obtain ⟨vy, gy⟩ : ∃ vy, ys[j]? = some vy := ⟨ys[j], List.getElem?_eq_getElem jy⟩
        rw [at2 j d vx vy hj gx gy] at e
        cases e
        obtain ⟨ux, kx, rx⟩ := rv.get gx
        obtain ⟨uy, ky, ry⟩ := rv2.get gy
        have ex2 : x = ux := Option.some.inj (ex.symm.trans (by simpa using kx))
        have ey2 : y = uy := Option.some.inj (ey.symm.trans (by simpa using ky))
        subst ex2 ey2
        exact ⟨by show 2 ≤ sizeLine; decide, [x, y], .cons rx (.cons ry .nil), ⟨_, hp, rfl, _, rfl⟩⟩
      · by_cases hd2 : d = h1.objs.size
        · subst hd2
          rw [eD] at e
          cases e
          refine ⟨by rw [List.length_map, lz]; omega, acc.toList, c, by rw [hacc]; exact vals_ref ts, ?_⟩
          rw [Array.toArray_toList]
          exact hS
        · rw [off d hd hd2] at e
          exact (I1.hok d u e).stay (fun d2 v _ y => hk2 d2 v y) (fun d2 y => grow d2 _ y) fun d2 zs y => grow d2 _ y
end
end Zl

/-! Short words of our own: a def as the top leaves it, what it promises, its call; what a reading evaluates to. -/
namespace Rl
open PySem PySem.Spec PyProof.Rows L2 Evl

/-! ### defs and their promises -/
structure Dfn (K : PySem.W.Frag) (mg : Str → Option Value) (x : Str) (st : Stmt) (ps : List Str) : Prop where
  ex : ∃ (f : Addr) (fd : FuncData), Fun K x x st f fd ∧ mg x = some (.ref f) ∧ Binds K fd ps []
structure Can (P : Program) (w : World) (K : PySem.W.Frag) (mg : Str → Option Value) (base : Heap) (k : Nat) (x : Str) (ps : List Str) (sp : Sp) : Prop where
  ex : ∃ (f : Addr) (fd : FuncData), FnOk P w K mg base CX0 k f fd ps sp ∧ mg x = some (.ref f) ∧ PySem.W.keepIn K (.ref f) = true ∧ Binds K fd ps []
/-- a method m of the class at C -/
structure Mfn (K : PySem.W.Frag) (C : Addr) (m qual : Str) (st : Stmt) (ps : List Str) : Prop where
  ex : ∃ (f : Addr) (fd : FuncData), Fun K m qual st f fd ∧ Meth K C m f ∧ Binds K fd ps []
structure CanM (P : Program) (w : World) (K : PySem.W.Frag) (mg : Str → Option Value) (base : Heap) (k : Nat) (C : Addr) (m : Str) (ps : List Str) (sp : Sp) : Prop where
  ex : ∃ (f : Addr) (fd : FuncData), FnOk P w K mg base CX0 k f fd ps sp ∧ Meth K C m f ∧ Binds K fd ps []
/-- the making of an instance of the class at C -/
structure Ifn (K : PySem.W.Frag) (C : Addr) (qual : Str) (st : Stmt) (ps : List Str) : Prop where
  ex : ∃ (f : Addr) (fd : FuncData), Fun K "__init__" qual st f fd ∧ Mk K C f ∧ Binds K fd ps []
structure CanI (P : Program) (w : World) (K : PySem.W.Frag) (mg : Str → Option Value) (base : Heap) (k : Nat) (C : Addr) (ps : List Str) (sp : Sp) : Prop where
  ex : ∃ (f : Addr) (fd : FuncData), FnOk P w K mg base CX0 k f fd ps sp ∧ Mk K C f ∧ Binds K fd ps []
section
variable {P : Program} {w : World} {K : PySem.W.Frag} {mg : Str → Option Value} {base : Heap} {x m qual : Str} {st : Stmt} {N ps : List Str} {sp : Sp} {k : Nat} {C : Addr}
abbrev Body (P : Program) (w : World) (K : PySem.W.Frag) (mg : Str → Option Value) (base : Heap) (N : List Str) (qual : Str) (st : Stmt) (k : Nat) (sp : Sp) : Prop :=
  ∀ (f : Addr) (cdv : Value) (A : Around) (outer : List Env) (s : Shared) (H : Hp) (vs : List V) (Q : VK) (E : XK), Room k (A.deeper (envOfC qual (defScope st) s.heap.objs.size f cdv)) → sp vs H Q E →
    ∃ t, PSs (cxOf CX0 P w K mg base N qual (defScope st) f cdv A outer s H E).nox (defBody st) t ∧ t { nx := fun _ H' => Q .non H', rt := Q } (start N vs) H
theorem Dfn.can (d : Dfn K mg x st ps) (S : FnScope N ps (defScope st)) (len : ∀ vs H Q E, sp vs H Q E → vs.length = ps.length) (hb : Body P w K mg base N x st k sp) : Can P w K mg base (k + 1) x ps sp := by
  obtain ⟨f, fd, F, hm, b⟩ := d.ex
  exact ⟨f, fd, F.ok S len (fun cdv A outer s H vs Q E hr h => hb f cdv A outer s H vs Q E hr h), hm, F.kp, b⟩
theorem Mfn.can (d : Mfn K C m qual st ps) (S : FnScope N ps (defScope st)) (len : ∀ vs H Q E, sp vs H Q E → vs.length = ps.length) (hb : Body P w K mg base N qual st k sp) : CanM P w K mg base (k + 1) C m ps sp := by
  obtain ⟨f, fd, F, hm, b⟩ := d.ex
  exact ⟨f, fd, F.ok S len (fun cdv A outer s H vs Q E hr h => hb f cdv A outer s H vs Q E hr h), hm, b⟩
theorem Ifn.can (d : Ifn K C qual st ps) (S : FnScope N ps (defScope st)) (len : ∀ vs H Q E, sp vs H Q E → vs.length = ps.length) (hb : Body P w K mg base N qual st k sp) : CanI P w K mg base (k + 1) C ps sp := by
  obtain ⟨f, fd, F, hm, b⟩ := d.ex
  exact ⟨f, fd, F.ok S len (fun cdv A outer s H vs Q E hr h => hb f cdv A outer s H vs Q E hr h), hm, b⟩
end
section
variable {X : Cx} {k : Nat} {x m : Str} {ps : List Str} {sp : Sp} {p pos apos : Pos} {e o : Expr} {es : List Expr} {ta : TE} {t : TA} {C : Addr}
theorem pe_callC (c : Can X.prog X.w X.K X.mg X.base k x ps sp) (hr : Room k X.A) (hg : Gl X x) (ha : PA X (e :: es) t) (hdb : (x == ("__debug__" : Str)) = false := by decide) (he : starEach (e :: es) X.env = (false, eval e X.env) :: starEach es X.env := by rfl)
    (hpl : (backTo pos (starEach es X.env)).any (·.1) = false := by rfl) : PE X (.Call (.Name x p) (e :: es) [] pos) (tCall sp [] E0 t) := by
  obtain ⟨f, fd, F, hm, hk, b⟩ := c.ex
  exact pe_call F hr hg hm hk b .nil pass0 ha hdb he hpl
theorem pe_makeC (c : CanI X.prog X.w X.K X.mg X.base k C ps sp) (hr : Room (k + 1) X.A) (hg : Gl X x) (hm : X.mg x = some (.ref C)) (ha : PA X (e :: es) t) (hdb : (x == ("__debug__" : Str)) = false := by decide) (he : starEach (e :: es) X.env = (false, eval e X.env) :: starEach es X.env := by rfl)
    (hpl : (backTo pos (starEach es X.env)).any (·.1) = false := by rfl) : PE X (.Call (.Name x p) (e :: es) [] pos) (tMake C sp [] E0 t) := by
  obtain ⟨f, fd, F, M, b⟩ := c.ex
  exact pe_make M F hr hg hm b .nil pass0 ha hdb he hpl
end

/-! ### isqrt -/
def rIsqrt : List V → Hp → VK → Prop := fun vs H Q => ∃ a : Int, vs = [.int a] ∧ 0 ≤ a ∧ a < 2 ^ 64 ∧ Q (.int ((Float64.isqrt a.toNat : Nat) : Int)) H
theorem cr_isqrt {X : Cx} : CallR X (.builtin "math.isqrt") rIsqrt := by
  intro pins s σ H vs us Q I r h
  obtain ⟨a, rfl, h0, h1, q⟩ := h
  obtain ⟨u, rfl, rx⟩ := vals1 r
  obtain ⟨t, rfl⟩ := rx
  exact PySem.W.mg_isqrt h0 h1 ⟨.int _, H, I.tok _, ⟨_, rfl⟩, q⟩

/-! ### what evaluates to what: more of it -/
section
variable {K : PySem.W.Frag} {σ : L2.St} {H H' : Hp} {ta tb tc te tx : TE} {t u : TT} {x y z v : V} {r r' : R2} {D : Ends} {tu tw tz : TS} {g : TG}
theorem Ex.same (e : Ex H H') : Same H H' := e
theorem ev_chain {w : V} {b1 b2 : Bool} (ha : Ev ta σ H x) (hb : Ev tb σ H y) (h1 : RV r x y H (.bl b1)) (hc : b1 = true → Ev tc σ H w) (h2 : b1 = true → RV r' y w H (.bl b2)) : Ev (tChain r r' ta tb tc) σ H (.bl (b1 && b2)) := fun H1 e Q q =>
  ha H1 e _ fun H2 e2 => hb H2 (e.trans e2) _ fun H3 e3 => h1 H3 ((e.trans e2).trans e3) _ fun H4 e4 => ⟨b1, rfl, by
    have e14 := (e2.trans e3).trans e4
    cases b1 with
    | false =>
      show Q (.bl false) H4
      exact q H4 e14
    | true =>
      show tc σ H4 _
      exact hc rfl H4 (e.trans e14) _ fun H5 e5 => h2 rfl H5 ((e.trans e14).trans e5) Q fun H6 e6 => q H6 ((e14.trans e5).trans e6)⟩
theorem et_truth {k : Bool} (h : Ev te σ H x) (hk : ∀ H1, Ex H H1 → TruV K x H1 k) : EvT (fun σ H Q => te σ H fun x H' => ∃ k, TruV K x H' k ∧ Q k H') σ H k := fun H1 e Q q =>
  h H1 e _ fun H2 e2 => ⟨k, hk H2 (e.trans e2), q H2 e2⟩
theorem ev_fld {f : Str} {a C dx : Addr} {fs : List (Str × V)} (h : Ev te σ H (.ref a)) (ho : H a = some (.ins C dx fs)) (hc : Cls K C) (hn : NoAttr K C f) (hl : fs.lookup f = some v) : Ev (tFld K te f) σ H v := fun H1 e Q q =>
  h H1 e _ fun H2 e2 => ⟨a, C, dx, fs, v, rfl, (e.trans e2) a _ ho, hc, hn, hl, q H2 e2⟩
theorem ev_bits {i : Int} (h : Ev te σ H (.int i)) : Ev (tBits te) σ H (.int (Builtin.Int.intBits i : Nat)) := fun H1 e Q q => h H1 e _ fun H2 e2 => ⟨i, rfl, q H2 e2⟩
theorem rc_isqrt {a : Int} (h0 : 0 ≤ a) (h1 : a < 2 ^ 64) : RC rIsqrt [.int a] H (.int ((Float64.isqrt a.toNat : Nat) : Int)) := fun H1 _ _ q => ⟨a, rfl, h0, h1, q H1 (Ex.refl H1)⟩
theorem rc_typ {T : String} (h : TyB K H x T) (hm : ∀ H1, Ex H H1 → TyB K H1 x T) : RC (rTyp K) [x] H (.ty T) := fun H1 e _ q => ⟨x, T, rfl, hm H1 e, q H1 (Ex.refl H1)⟩
theorem rc_all {a : Addr} {bs : List Bool} (h : SqL K H a (bs.map V.bl)) : RC (rAll K) [.ref a] H (.bl (bs.all id)) := fun H1 e _ q => ⟨a, bs, rfl, ex_l e h, q H1 (Ex.refl H1)⟩
theorem rc_any {a : Addr} {bs : List Bool} (h : SqL K H a (bs.map V.bl)) : RC (rAny K) [.ref a] H (.bl (bs.any id)) := fun H1 e _ q => ⟨a, bs, rfl, ex_l e h, q H1 (Ex.refl H1)⟩
theorem rc_sum {a : Addr} {ns : List Int} (h : SqL K H a (ns.map V.int)) : RC (rSum K) [.ref a] H (.int ns.sum) := fun H1 e _ q => ⟨a, ns, rfl, ex_l e h, q H1 (Ex.refl H1)⟩
theorem rc_isi {c : V} {tv cv : Value} {b : Bool} (hc : ClsV c cv) (hm : ∀ H1, Ex H H1 → TyX K H1 x tv) (hk : PySem.W.kitOne K tv cv = some b) : RC (rIsi K) [x, c] H (.bl b) := fun H1 e _ q => ⟨x, c, tv, cv, b, rfl, hc, hm H1 e, hk, q H1 (Ex.refl H1)⟩
/-- a call of a built-in with a list that is made on the way -/
theorem ev_cbNew {rr : List V → Hp → VK → Prop} {xs : List V} (h : EvL te σ H xs) (hr : ∀ p H1, Ex H H1 → H1 p = some (.lst xs) → RC rr [.ref p] H1 z) : Ev (tCB rr (tCons te tNil)) σ H z := fun H1 e Q q =>
  h H1 e _ fun p H2 hp e2 h2 => hr p H2 (e.trans e2) h2 H2 (Ex.refl H2) Q fun H3 e3 => q H3 (e2.trans e3)
theorem ev_lenT {p : Addr} {xs : List V} (ha : Ev ta σ H (.ref p)) (h : SqT K H p xs) : Ev (tCB (rLenS K) (tCons ta tNil)) σ H (.int (xs.length : Int)) := fun H1 e Q q =>
  ha H1 e _ fun H2 e2 => ⟨p, xs, rfl, Or.inr (ex_t (e.trans e2) h), q H2 e2⟩
/-! numbers from 0 on -/
theorem rv_modN {n p : Nat} (hp : 0 < p) : RV (rI (fun _ j => 0 < j) fun i j => .int (i % j)) (.int (n : Int)) (.int (p : Int)) H (.int ((n % p : Nat) : Int)) := fun H1 _ _ q => ⟨_, _, rfl, rfl, Int.natCast_pos.mpr hp, q H1 (Ex.refl H1)⟩
theorem rv_mod {i j : Int} (hp : 0 < j) : RV (rI (fun _ j => 0 < j) fun i j => .int (i % j)) (.int i) (.int j) H (.int (i % j)) := fun H1 _ _ q => ⟨_, _, rfl, rfl, hp, q H1 (Ex.refl H1)⟩
theorem cdivw {i : Int} {p : Nat} (hp : 0 < p) (hs : p < 2 ^ 8000) : CDivW i (p : Int) := wide_div (b := 8000) (Int.natCast_pos.mpr hp) (by rw [Int.natAbs_natCast]; exact hs) (by decide) (by decide)
theorem rv_divN {n p : Nat} (hp : 0 < p) (hs : p < 2 ^ 8000) : RV (rI CDivW fun i j => .int (i / j)) (.int (n : Int)) (.int (p : Int)) H (.int ((n / p : Nat) : Int)) := fun H1 _ _ q => ⟨_, _, rfl, rfl, cdivw hp hs, q H1 (Ex.refl H1)⟩
theorem cmulx {n m : Nat} (hn : n < 2 ^ 60000000) (hm : m < 2 ^ 60000000) : CMulX (n : Int) (m : Int) := mulx_ok (a := 60000000) (b := 60000000) (by rw [Int.natAbs_natCast]; exact hn) (by rw [Int.natAbs_natCast]; exact hm) (by decide)
theorem rv_mulN {n m : Nat} (h : CMulX (n : Int) (m : Int)) : RV (rI CMulX fun i j => .int (i * j)) (.int (n : Int)) (.int (m : Int)) H (.int ((n * m : Nat) : Int)) := fun H1 _ Q q => ⟨_, _, rfl, rfl, h, by show Q (V.int ((n : Int) * (m : Int))) H1; rw [← Int.natCast_mul]; exact q H1 (Ex.refl H1)⟩
theorem rv_addN {n m : Nat} : RV (rI0 fun i j => .int (i + j)) (.int (n : Int)) (.int (m : Int)) H (.int ((n + m : Nat) : Int)) := fun H1 _ Q q => ⟨_, _, rfl, rfl, by show Q (V.int ((n : Int) + (m : Int))) H1; rw [← Int.natCast_add]; exact q H1 (Ex.refl H1)⟩
theorem rv_subN {n m : Nat} (h : m ≤ n) : RV (rI0 fun i j => .int (i - j)) (.int (n : Int)) (.int (m : Int)) H (.int ((n - m : Nat) : Int)) := fun H1 _ Q q => ⟨_, _, rfl, rfl, by show Q (V.int ((n : Int) - (m : Int))) H1; rw [← Int.ofNat_sub h]; exact q H1 (Ex.refl H1)⟩
/-! new instances -/
def EvM (te : TE) (σ : L2.St) (H : Hp) (C : Addr) (fs : List (Str × V)) : Prop := ∀ H1, Ex H H1 → ∀ Q : VK, (∀ p dx H2, H1 p = none → Ex H1 H2 → H2 p = some (.ins C dx fs) → Q (.ref p) H2) → te σ H1 Q
/-- __init__ of one field -/
def spInit1 (C : Addr) (f : Str) : Sp := fun vs H Q _ => ∃ (p dx : Addr) (x : V), vs = [.ref p, x] ∧ H p = some (.ins C dx []) ∧ Q .non (upd H p (.ins C dx [(f, x)]))
theorem em_make {C : Addr} {f : Str} {E : XK} (h : Ev te σ H x) : EvM (tMake C (spInit1 C f) [] E (tCons te tNil)) σ H C [(f, x)] := fun H1 e Q q =>
  h H1 e _ fun H2 e2 p dx hp hd hne => ⟨p, dx, x, rfl, upd_same, rfl, by
    refine q p dx _ (fresh_back e2 hp) (e2.trans fun a o ha => ?_) upd_same
    rw [upd_ne (ne_of_none ha hp), upd_ne (ne_of_none ha hp), upd_ne (ne_of_none ha hd)]
    exact ha⟩
theorem ev_fldM {C : Addr} {f : Str} {fs : List (Str × V)} (h : EvM te σ H C fs) (hc : Cls K C) (hn : NoAttr K C f) (hl : fs.lookup f = some v) : Ev (tFld K te f) σ H v := fun H1 e Q q =>
  h H1 e _ fun p dx H2 hp e2 h2 => ⟨p, C, dx, fs, v, rfl, h2, hc, hn, hl, q H2 e2⟩
theorem ev_methM {C : Addr} {m : Str} {sp : Sp} {E : XK} {fs : List (Str × V)} {tA : TA} {vs : List V} (h : EvM te σ H C fs) (hm : fs.lookup m = none) (ha : ∀ H1, Ex H H1 → EvA tA σ H1 vs) (hs : ∀ p dx H1, Ex H H1 → H1 p = some (.ins C dx fs) → SpV sp (.ref p :: vs) H1 z) : Ev (tMeth C m sp [] E te tA) σ H z := fun H1 e Q q =>
  h H1 e _ fun p dx H2 hp e2 h2 => ⟨p, dx, fs, rfl, h2, hm, ha H2 (e.trans e2) H2 (Ex.refl H2) _ fun H3 e3 => by
    rw [List.append_nil]
    exact hs p dx H3 ((e.trans e2).trans e3) (e3 p _ h2) H3 (Ex.refl H3) Q (fun H4 e4 => q H4 ((e2.trans e3).trans e4)) E⟩
theorem ev_meth {C a dx : Addr} {m : Str} {sp : Sp} {E : XK} {fs : List (Str × V)} {tA : TA} {vs : List V} (h : Ev te σ H (.ref a)) (ho : H a = some (.ins C dx fs)) (hm : fs.lookup m = none) (ha : EvA tA σ H vs) (hs : SpV sp (.ref a :: vs) H z) : Ev (tMeth C m sp [] E te tA) σ H z := fun H1 e Q q =>
  h H1 e _ fun H2 e2 => ⟨a, dx, fs, rfl, (e.trans e2) a _ ho, hm, ha H2 (e.trans e2) _ fun H3 e3 => by
    rw [List.append_nil]
    exact hs H3 ((e.trans e2).trans e3) Q (fun H4 e4 => q H4 ((e2.trans e3).trans e4)) E⟩

/-! ### loops over anything that walks -/
/-- what a for walks, heaps growing on the way -/
def EvI (wi : TI) (σ : L2.St) (H : Hp) (J : It) : Prop := ∀ H1, Ex H H1 → ∀ R : It → Hp → Prop, (∀ H2, Ex H1 H2 → R J H2) → wi σ H1 R
theorem ei_enum {a : Addr} {xs : List V} {tA : TA} (h : EvA tA σ H [.ref a]) (hx : SqL K H a xs) : EvI (iEnum K tA) σ H (Ite K a) := fun H1 e R q => h H1 e _ fun H2 e2 => ⟨a, xs, rfl, ex_l (e.trans e2) hx, q H2 e2⟩
theorem ei_list {a : Addr} {xs : List V} (h : Ev te σ H (.ref a)) (hx : SqL K H a xs) : EvI (iList K te) σ H (Itl K a) := fun H1 e R q => h H1 e _ fun H2 e2 => ⟨a, rfl, ⟨xs, ex_l (e.trans e2) hx⟩, q H2 e2⟩
theorem ei_rev {a : Addr} {xs : List V} {tA : TA} (h : EvA tA σ H [.ref a]) (hx : SqL K H a xs) : EvI (iRev K tA) σ H (Itv K a xs.length) := fun H1 e R q => h H1 e _ fun H2 e2 => ⟨a, xs, rfl, ex_l (e.trans e2) hx, q H2 e2⟩
theorem ei_rng2 {tA : TA} {lo hi : Int} (h : EvA tA σ H [.int lo, .int hi]) (hb : -100000000 ≤ lo ∧ lo ≤ 100000000 ∧ -100000000 ≤ hi ∧ hi ≤ 100000000) : EvI (iRng2 tA) σ H (Itr lo (hi - lo).toNat) := fun H1 e R q => h H1 e _ fun H2 e2 => ⟨lo, hi, rfl, ⟨by omega, by omega, by omega, by omega⟩, q H2 e2⟩
theorem ei_rng1 {tA : TA} {hi : Int} (h : EvA tA σ H [.int hi]) (hb : -100000000 ≤ hi ∧ hi ≤ 100000000) : EvI (iRng1 tA) σ H (Itr 0 hi.toNat) := fun H1 e R q => h H1 e _ fun H2 e2 => ⟨hi, rfl, by omega, by omega, q H2 e2⟩
theorem ei_rng3 {tA : TA} {lo hi c : Int} {n : Nat} (h : EvA tA σ H [.int lo, .int hi, .int c]) (hb : RgC lo hi c n) : EvI (iRng3 tA) σ H (Itc lo c n) := fun H1 e R q => h H1 e _ fun H2 e2 => ⟨lo, hi, c, n, rfl, hb, q H2 e2⟩
theorem s_forW {wi : TI} {J : It} {n : Nat} {G : Hp → Prop} {Y : Nat → Hp → V → Hp → Prop} (hi : EvI wi σ H J) (w : Walk J n G Y) (Pv : Nat → L2.St → Hp → Prop) (h0 : ∀ H1, Ex H H1 → Pv 0 σ H1) (hG : ∀ i σ' H', i ≤ n → Pv i σ' H' → G H')
    (hs : ∀ i x σ' H1 H2, i < n → Pv i σ' H1 → Y i H1 x H2 → g x σ' H2 fun σ2 H3 => tu { D with nx := Pv (i + 1), ct := Pv (i + 1), bk := D.nx } σ2 H3) (hd : ∀ σ' H', Pv n σ' H' → D.nx σ' H') : tFor wi g tu D σ H :=
  hi H (Ex.refl H) _ fun H1 e => for_it w Pv (h0 H1 e) hG hs hd
theorem q_forW {wi : TI} {J : It} {n : Nat} {G : Hp → Prop} {Y : Nat → Hp → V → Hp → Prop} (hi : EvI wi σ H J) (w : Walk J n G Y) (Pv : Nat → L2.St → Hp → Prop) (h0 : ∀ H1, Ex H H1 → Pv 0 σ H1) (hG : ∀ i σ' H', i ≤ n → Pv i σ' H' → G H')
    (hs : ∀ i x σ' H1 H2, i < n → Pv i σ' H1 → Y i H1 x H2 → g x σ' H2 fun σ2 H3 => tu { D with nx := Pv (i + 1), ct := Pv (i + 1), bk := tz D } σ2 H3) (hd : ∀ σ' H', Pv n σ' H' → tz D σ' H') : tSeq (tFor wi g tu) tz D σ H :=
  s_forW (D := { D with nx := tz D }) hi w Pv h0 hG hs hd
/-- a new pair's places, stored by two names -/
theorem g_pair {T : Addr} {a b : V} {i j : Nat} {R : L2.St → Hp → Prop} {H1 : Hp} (hT : H1 T = some (.tup [a, b])) (k : R ((σ.set i (some a)).set j (some b)) H1) : gTup K 2 (gCons (gName i) (gCons (gName j) gNil)) (.ref T) σ H1 R :=
  ⟨T, [a, b], rfl, st_of hT, rfl, a, [b], rfl, b, [], rfl, rfl, k⟩
theorem g_trip {T : Addr} {a b c : V} {i j l : Nat} {R : L2.St → Hp → Prop} {H1 : Hp} (hT : H1 T = some (.tup [a, b, c])) (k : R (((σ.set i (some a)).set j (some b)).set l (some c)) H1) : gTup K 3 (gCons (gName i) (gCons (gName j) (gCons (gName l) gNil))) (.ref T) σ H1 R :=
  ⟨T, [a, b, c], rfl, st_of hT, rfl, a, [b, c], rfl, b, [c], rfl, c, [], rfl, rfl, k⟩
/-- a, b = e, e's value a tuple of two -/
theorem s_asg2 {a b : V} {i j : Nat} {xs : List V} (h : EvU te σ H [a, b]) (k : ∀ H1, Ex H H1 → D.nx ((σ.set i (some a)).set j (some b)) H1) : tAsg te (gTup K 2 (gCons (gName i) (gCons (gName j) gNil))) D σ H :=
  h H (Ex.refl H) _ fun p H1 _ e h1 => g_pair h1 (k H1 e)
theorem q_asg2 {a b : V} {i j : Nat} (h : EvU te σ H [a, b]) (k : ∀ H1, Ex H H1 → tz D ((σ.set i (some a)).set j (some b)) H1) : tSeq (tAsg te (gTup K 2 (gCons (gName i) (gCons (gName j) gNil)))) tz D σ H :=
  s_asg2 (xs := []) (D := { D with nx := tz D }) h k
/-- a, b = x, y -/
theorem s_par {i j : Nat} {tA : TA} {a b : V} (h : EvA tA σ H [a, b]) (k : ∀ H1, Ex H H1 → D.nx ((σ.set i (some a)).set j (some b)) H1) : tPar i j tA D σ H := h H (Ex.refl H) _ fun H1 e => ⟨a, b, rfl, k H1 e⟩
theorem q_par {i j : Nat} {tA : TA} {a b : V} (h : EvA tA σ H [a, b]) (k : ∀ H1, Ex H H1 → tz D ((σ.set i (some a)).set j (some b)) H1) : tSeq (tPar i j tA) tz D σ H := s_par (D := { D with nx := tz D }) h k
theorem s_par3 {i j l : Nat} {tA : TA} {a b c : V} (h : EvA tA σ H [a, b, c]) (k : ∀ H1, Ex H H1 → D.nx (((σ.set i (some a)).set j (some b)).set l (some c)) H1) : tPar3 i j l tA D σ H := h H (Ex.refl H) _ fun H1 e => ⟨a, b, c, rfl, k H1 e⟩
theorem q_par3 {i j l : Nat} {tA : TA} {a b c : V} (h : EvA tA σ H [a, b, c]) (k : ∀ H1, Ex H H1 → tz D (((σ.set i (some a)).set j (some b)).set l (some c)) H1) : tSeq (tPar3 i j l tA) tz D σ H := s_par3 (D := { D with nx := tz D }) h k
/-- a tuple promised by a call -/
def SpU (sp : Sp) (vs : List V) (H : Hp) (xs : List V) : Prop := ∀ H1, Ex H H1 → ∀ Q : VK, (∀ p H2, H1 p = none → Ex H1 H2 → H2 p = some (.tup xs) → Q (.ref p) H2) → ∀ E : XK, sp vs H1 Q E
theorem eu_call {sp : Sp} {vs xs : List V} {E : XK} {tA : TA} (h : EvA tA σ H vs) (hs : SpU sp vs H xs) : EvU (tCall sp [] E tA) σ H xs := fun H1 e Q q =>
  h H1 e _ fun H2 e2 => by
    rw [List.append_nil]
    exact hs H2 (e.trans e2) Q (fun p H3 hp e3 h3 => q p H3 (fresh_back e2 hp) (e2.trans e3) h3) E
def RetU (xs : List V) (H : Hp) (Q : VK) : Prop := ∀ p H2, H p = none → Ex H H2 → H2 p = some (.tup xs) → Q (.ref p) H2
theorem RetU.go {xs : List V} {Q : VK} (k : RetU xs H Q) (e : Ex H H') {p : Addr} {H2 : Hp} (hp : H' p = none) (e2 : Ex H' H2) (h : H2 p = some (.tup xs)) : Q (.ref p) H2 := k p H2 (fresh_back e hp) (e.trans e2) h
theorem ev_callN {sp : Sp} {vs : List V} {E : XK} {tA : TA} (h : EvA tA σ H vs) (hs : SpV sp vs H z) : Ev (tCall sp [] E tA) σ H z := fun H1 e Q q =>
  h H1 e _ fun H2 e2 => by
    rw [List.append_nil]
    exact hs H2 (e.trans e2) Q (fun H3 e3 => q H3 (e2.trans e3)) E
theorem el_callN {sp : Sp} {vs xs : List V} {E : XK} {tA : TA} (h : EvA tA σ H vs) (hs : SpL sp vs H xs) : EvL (tCall sp [] E tA) σ H xs := fun H1 e Q q =>
  h H1 e _ fun H2 e2 => by
    rw [List.append_nil]
    exact hs H2 (e.trans e2) Q (fun p H3 hp e3 h3 => q p H3 (fresh_back e2 hp) (e2.trans e3) h3) E

/-! ### comprehensions over anything that walks -/
theorem el_lcW {wi : TI} {J : It} {n : Nat} {G : Hp → Prop} {Y : Nat → Hp → V → Hp → Prop} {vs : List Nat} (f : Nat → Bool) (v : Nat → V) (hi : EvI wi σ H J) (w : Walk J n G Y) (hn : n ≤ 40000) (hG : ∀ H1, Ex H H1 → G H1)
    (hs : ∀ (i : Nat) (x : V) H1 H2 (R : L2.St → Hp → Prop), Ex H H1 → i < n → Y i H1 x H2 → (∀ σ2 H3, Ex H1 H3 → wipe σ2 vs = wipe σ vs → EvT t σ2 H3 (f i) → (f i = true → Ev te σ2 H3 (v i)) → R σ2 H3) → g x (wipe σ vs) H2 R) :
    EvL (tLc wi g t te vs) σ H (given n f v) := fun H0 e Q q => hi H0 e _ fun H1 e1 Dl hD =>
  lc_it w (Cw H1 f v Dl) ⟨hD, Ex.new hD, upd_same⟩ (fun i H' _ p => hG H' ((e.trans e1).trans p.2.1)) (fun i x H2 H3 hi p y => hs i x H2 H3 _ ((e.trans e1).trans p.2.1) hi y fun σ2 H4 e4 hw ht he => ⟨hw, by
      obtain ⟨p1, p2, p3⟩ := p
      refine ht H4 (Ex.refl H4) _ fun H5 e5 => ?_
      cases hf : f i with
      | true =>
        show te σ2 H5 fun y H4 => ∃ acc, H4 Dl = some (.lst acc) ∧ acc.length < sizeLine ∧ Cw H1 f v Dl (i + 1) (upd H4 Dl (.lst (acc ++ [y])))
        refine he hf H5 e5 _ fun H6 e6 => ⟨given i f v, e6 Dl _ (e5 Dl _ (e4 Dl _ p3)), sz_lt (by have := given_len i f v; omega), p1, Ex.mut (((p2.trans e4).trans e5).trans e6) p1, ?_⟩
        rw [given_yes hf]
        exact upd_same
      | false =>
        show Cw H1 f v Dl (i + 1) H5
        refine ⟨p1, (p2.trans e4).trans e5, ?_⟩
        rw [given_no hf]
        exact e5 Dl _ (e4 Dl _ p3)⟩) (fun H' p => q Dl H' (fresh_back e1 p.1) (e1.trans p.2.1) p.2.2)
theorem given_all (n : Nat) (v : Nat → V) : given n (fun _ => true) v = (List.range n).map v := by
  unfold given
  rw [List.filter_eq_self.mpr (fun _ _ => rfl)]
end

/-! ### primes from 2 to 997 -/
def primeB (n : Nat) : Bool := (List.range (Float64.isqrt n - 1)).all fun i => decide (n % (2 + i) ≠ 0)
def primeZ (n : Int) : Bool := (decide (2 ≤ n) && decide (n ≤ 997)) && primeB n.toNat
theorem isqrt_le : ∀ p : Nat, p < 998 → Float64.isqrt p ≤ p := by decide +kernel

/-! ### lists of numbers from 0 on -/
def nl (l : List Nat) : List V := l.map fun n : Nat => V.int (n : Int)
theorem nl_len (l : List Nat) : (nl l).length = l.length := List.length_map _
theorem nl_app (l m : List Nat) : nl (l ++ m) = nl l ++ nl m := List.map_append
theorem nl_drop (l : List Nat) (k : Nat) : nl (l.drop k) = (nl l).drop k := List.map_drop
theorem nl_get {l : List Nat} {j : Nat} {d : Nat} (h : l[j]? = some d) : (nl l)[j]? = some (.int (d : Int)) := by
  unfold nl
  rw [List.getElem?_map, h]
  rfl
theorem nl_getD {l : List Nat} {j : Nat} (h : j < l.length) : (nl l)[j]? = some (.int ((l.getD j 0 : Nat) : Int)) := by
  refine nl_get ?_
  rw [List.getD_eq_getElem?_getD, List.getElem?_eq_getElem h]
  rfl
theorem nl_some {l : List Nat} {j : Nat} {x : V} (h : (nl l)[j]? = some x) : ∃ d, l[j]? = some d ∧ x = .int (d : Int) := by
  unfold nl at h
  rw [List.getElem?_map] at h
  cases e : l[j]? with
  | none => rw [e] at h; cases h
  | some d => rw [e] at h; exact ⟨d, rfl, (Option.some.inj h).symm⟩
theorem getD_of {l : List Nat} {j d : Nat} (h : l[j]? = some d) : l.getD j 0 = d := by
  rw [List.getD_eq_getElem?_getD, h]
  rfl
theorem at_nl {l : List Nat} {z : Int} {j : Nat} (e : z = (j : Int)) (h : j < l.length) : atI (nl l) z = some (.int ((l.getD j 0 : Nat) : Int)) := by
  rw [e]
  exact atI_nat (nl_getD h)
theorem at_last {l : List V} {v : V} (h : l[l.length - 1]? = some v) : atI l (-1) = some v := by
  have hl : l.length ≠ 0 := fun z => by
    rw [List.length_eq_zero_iff.mp z] at h
    cases h
  have e : ixN l.length (-1) = some (l.length - 1) := by
    unfold ixN
    rw [if_neg (by decide), if_pos (by omega)]
    congr 1
    omega
  unfold atI
  rw [e]
  exact h
theorem cut_from (xs : List V) (k : Nat) : cutV xs (some (k : Int)) none = xs.drop k := by
  unfold cutV
  rw [HT.sIx_nat, HT.sIx_none]
  by_cases h : k ≤ xs.length
  · rw [Nat.min_eq_left h, List.take_of_length_le (by rw [List.length_drop]; exact Nat.le_refl _)]
  · rw [Nat.min_eq_right (by omega), List.drop_of_length_le (Nat.le_refl _), List.drop_of_length_le (by omega)]
    exact List.take_nil
theorem cut_to (xs : List V) (k : Nat) : cutV xs none (some (k : Int)) = xs.take k := by
  unfold cutV
  rw [HT.sIx_nat, HT.sIx_none, List.drop_zero, Nat.sub_zero]
  by_cases h : k ≤ xs.length
  · rw [Nat.min_eq_left h]
  · rw [Nat.min_eq_right (by omega), List.take_of_length_le (Nat.le_refl _), List.take_of_length_le (by omega)]
theorem cut_init (xs : List V) : cutV xs none (some (-1)) = xs.dropLast := by
  unfold cutV
  have e : HT.sIx xs.length xs.length (some (-1)) = xs.length - 1 := by
    show (if (-1 : Int) < 0 then ((-1 : Int) + (xs.length : Int)).toNat else min (-1 : Int).toNat xs.length) = xs.length - 1
    rw [if_pos (by decide)]
    omega
  rw [e, HT.sIx_none, List.drop_zero, Nat.sub_zero, List.dropLast_eq_take]
section
variable {K : PySem.W.Frag} {σ : L2.St} {H H' : Hp} {ta tb te : TE} {t : TT} {x y z v : V} {D : Ends} {tu tz : TS} {g : TG}
theorem el_cat {p : Addr} {xs ys : List V} (ha : Ev ta σ H (.ref p)) (hp : H p = some (.lst xs)) (hb : EvL tb σ H ys) (hz : xs.length + ys.length ≤ 100000) : EvL (tOp rCat ta tb) σ H (xs ++ ys) := fun H1 e Q q =>
  ha H1 e _ fun H2 e2 => hb H2 (e.trans e2) _ fun b H3 hb3 e3 h3 => ⟨p, b, xs, ys, rfl, rfl, ((e.trans e2).trans e3) p _ hp, h3, sz_of hz, fun l hl => q l _ (fresh_back (e2.trans e3) hl) ((e2.trans e3).trans (Ex.new hl)) upd_same⟩
theorem el_catL {xs ys : List V} (ha : EvL ta σ H xs) (hb : EvL tb σ H ys) (hz : xs.length + ys.length ≤ 100000) : EvL (tOp rCat ta tb) σ H (xs ++ ys) := fun H1 e Q q =>
  ha H1 e _ fun a H2 ha2 e2 h2 => hb H2 (e.trans e2) _ fun b H3 hb3 e3 h3 => ⟨a, b, xs, ys, rfl, rfl, e3 a _ h2, h3, sz_of hz, fun l hl => q l _ (fresh_back (e2.trans e3) hl) ((e2.trans e3).trans (Ex.new hl)) upd_same⟩
theorem el_rep {xs : List V} {k : Int} (ha : EvL ta σ H xs) (hb : Ev tb σ H (.int k)) (h0 : -100000 ≤ k ∧ k ≤ 100000) (hz : xs.length * k.toNat ≤ 100000) : EvL (tOp rRep ta tb) σ H (List.replicate k.toNat xs).flatten := fun H1 e Q q =>
  ha H1 e _ fun a H2 ha2 e2 h2 => hb H2 (e.trans e2) _ fun H3 e3 => ⟨a, k, xs, rfl, rfl, e3 a _ h2, by omega, by omega, sz_of hz, fun l hl => q l _ (fresh_back (e2.trans e3) hl) ((e2.trans e3).trans (Ex.new hl)) upd_same⟩
theorem flat_one (x : V) : ∀ k : Nat, (List.replicate k [x]).flatten = List.replicate k x
  | 0 => rfl
  | k + 1 => by
    rw [List.replicate_succ, List.flatten_cons, flat_one x k]
    rfl
theorem nl_rep (p k : Nat) : nl (List.replicate k p) = List.replicate k (V.int (p : Int)) := List.map_replicate
/-- xs.pop() -/
theorem s_pop {l : Addr} {xs : List V} (hl : H l = some (.lst xs)) (ha : Ev ta σ H (.ref l)) (hy : xs[xs.length - 1]? = some y) (k : ∀ H1, Ex H H1 → D.nx σ (upd H1 l (.lst xs.dropLast))) : tDrop (tBM0 K "list" rPop ta) D σ H := ha H (Ex.refl H) _ fun H1 e1 =>
  ⟨Or.inl ⟨rfl, xs, sq_of (e1 l _ hl)⟩, l, xs, y, rfl, rfl, e1 l _ hl, hy, k H1 e1⟩
theorem rgc2 (n : Nat) (h : n ≤ 100000) : RgC 0 ((n : Int) - 1) 2 (n / 2) := by
  have e : Builtin.Range.rangeSize 0 ((n : Int) - 1) 2 = ((n / 2 : Nat) : Int) := by
    unfold Builtin.Range.rangeSize
    rw [if_pos (by decide)]
    split <;> omega
  refine ⟨by decide, by decide, ?_, e⟩
  unfold Builtin.Range.small
  rw [e]
  simp only [Builtin.Range.rangeFitsLong, Bool.and_eq_true, Bool.or_eq_true, decide_eq_true_eq, beq_iff_eq, show (2 : Int) > 0 by decide, if_true]
  refine ⟨⟨⟨⟨by omega, by omega⟩, by omega⟩, by omega⟩, ?_⟩
  omega
/-- over a list that is made on the way -/
def EvIN (wi : TI) (σ : L2.St) (H : Hp) (J : Addr → It) (xs : List V) : Prop := ∀ H1, Ex H H1 → ∀ R : It → Hp → Prop, (∀ p H2, H1 p = none → Ex H1 H2 → H2 p = some (.lst xs) → R (J p) H2) → wi σ H1 R
theorem ein_rev {xs : List V} (h : EvL te σ H xs) : EvIN (iRev K (tCons te tNil)) σ H (fun a => Itv K a xs.length) xs := fun H1 e R q => h H1 e _ fun p H2 hp e2 h2 => ⟨p, xs, rfl, sq_of h2, q p H2 hp e2 h2⟩
theorem ein_enum {xs : List V} (h : EvL te σ H xs) : EvIN (iEnum K (tCons te tNil)) σ H (fun a => Ite K a) xs := fun H1 e R q => h H1 e _ fun p H2 hp e2 h2 => ⟨p, xs, rfl, sq_of h2, q p H2 hp e2 h2⟩
theorem ein_list {xs : List V} (h : EvL te σ H xs) : EvIN (iList K te) σ H (fun a => Itl K a) xs := fun H1 e R q => h H1 e _ fun p H2 hp e2 h2 => ⟨p, rfl, ⟨xs, sq_of h2⟩, q p H2 hp e2 h2⟩
theorem s_forWN {wi : TI} {J : Addr → It} {xs : List V} {n : Nat} {G : Addr → Hp → Prop} {Y : Addr → Nat → Hp → V → Hp → Prop} (hi : EvIN wi σ H J xs) (w : ∀ p, Walk (J p) n (G p) (Y p)) (Pv : Addr → Nat → L2.St → Hp → Prop) (h0 : ∀ p H1, H p = none → Ex H H1 → H1 p = some (.lst xs) → Pv p 0 σ H1)
    (hG : ∀ p i σ' H', i ≤ n → Pv p i σ' H' → G p H') (hs : ∀ p i x σ' H1 H2, i < n → Pv p i σ' H1 → Y p i H1 x H2 → g x σ' H2 fun σ2 H3 => tu { D with nx := Pv p (i + 1), ct := Pv p (i + 1), bk := D.nx } σ2 H3) (hd : ∀ p σ' H', Pv p n σ' H' → D.nx σ' H') : tFor wi g tu D σ H :=
  hi H (Ex.refl H) _ fun p H1 hp e h1 => for_it (w p) (Pv p) (h0 p H1 hp e h1) (hG p) (hs p) (hd p)
theorem q_forWN {wi : TI} {J : Addr → It} {xs : List V} {n : Nat} {G : Addr → Hp → Prop} {Y : Addr → Nat → Hp → V → Hp → Prop} (hi : EvIN wi σ H J xs) (w : ∀ p, Walk (J p) n (G p) (Y p)) (Pv : Addr → Nat → L2.St → Hp → Prop) (h0 : ∀ p H1, H p = none → Ex H H1 → H1 p = some (.lst xs) → Pv p 0 σ H1)
    (hG : ∀ p i σ' H', i ≤ n → Pv p i σ' H' → G p H') (hs : ∀ p i x σ' H1 H2, i < n → Pv p i σ' H1 → Y p i H1 x H2 → g x σ' H2 fun σ2 H3 => tu { D with nx := Pv p (i + 1), ct := Pv p (i + 1), bk := tz D } σ2 H3) (hd : ∀ p σ' H', Pv p n σ' H' → tz D σ' H') : tSeq (tFor wi g tu) tz D σ H :=
  s_forWN (D := { D with nx := tz D }) hi w Pv h0 hG hs hd
theorem el_lcWN {wi : TI} {J : Addr → It} {xs : List V} {n : Nat} {G : Addr → Hp → Prop} {Y : Addr → Nat → Hp → V → Hp → Prop} {vs : List Nat} (f : Nat → Bool) (v : Nat → V) (hi : EvIN wi σ H J xs) (w : ∀ p, Walk (J p) n (G p) (Y p)) (hn : n ≤ 40000) (hG : ∀ p H1, Ex H H1 → H1 p = some (.lst xs) → G p H1)
    (hs : ∀ p (i : Nat) (x : V) H1 H2 (R : L2.St → Hp → Prop), Ex H H1 → H1 p = some (.lst xs) → i < n → Y p i H1 x H2 → (∀ σ2 H3, Ex H1 H3 → wipe σ2 vs = wipe σ vs → EvT t σ2 H3 (f i) → (f i = true → Ev te σ2 H3 (v i)) → R σ2 H3) → g x (wipe σ vs) H2 R) :
    EvL (tLc wi g t te vs) σ H (given n f v) := fun H0 e Q q => hi H0 e _ fun pp H1 hpp e1 hx Dl hD =>
  lc_it (w pp) (fun i H' => Cw H1 f v Dl i H' ∧ H' pp = some (.lst xs)) ⟨⟨hD, Ex.new hD, upd_same⟩, by rw [upd_ne (ne_of_none hx hD)]; exact hx⟩ (fun i H' _ p => hG pp H' ((e.trans e1).trans p.1.2.1) p.2) (fun i x H2 H3 hi p y => hs pp i x H2 H3 _ ((e.trans e1).trans p.1.2.1) p.2 hi y fun σ2 H4 e4 hw ht he => ⟨hw, by
      obtain ⟨⟨p1, p2, p3⟩, p4⟩ := p
      have npD : pp ≠ Dl := ne_of_none hx p1
      refine ht H4 (Ex.refl H4) _ fun H5 e5 => ?_
      cases hf : f i with
      | true =>
        show te σ2 H5 fun y H4 => ∃ acc, H4 Dl = some (.lst acc) ∧ acc.length < sizeLine ∧ (Cw H1 f v Dl (i + 1) (upd H4 Dl (.lst (acc ++ [y]))) ∧ (upd H4 Dl (.lst (acc ++ [y]))) pp = some (.lst xs))
        refine he hf H5 e5 _ fun H6 e6 => ⟨given i f v, e6 Dl _ (e5 Dl _ (e4 Dl _ p3)), sz_lt (by have := given_len i f v; omega), ⟨p1, Ex.mut (((p2.trans e4).trans e5).trans e6) p1, ?_⟩, ?_⟩
        · rw [given_yes hf]
          exact upd_same
        · rw [upd_ne npD]
          exact e6 pp _ (e5 pp _ (e4 pp _ p4))
      | false =>
        show Cw H1 f v Dl (i + 1) H5 ∧ H5 pp = some (.lst xs)
        refine ⟨⟨p1, (p2.trans e4).trans e5, ?_⟩, e5 pp _ (e4 pp _ p4)⟩
        rw [given_no hf]
        exact e5 Dl _ (e4 Dl _ p3)⟩) (fun H' p => q Dl H' (fresh_back e1 p.1.1) (e1.trans p.1.2.1) p.1.2.2)
/-- rows of numbers: a list of lists -/
def RowsAt (H : Hp) (R : Addr) (rows : List (List Nat)) : Prop := ∃ as : List Addr, H R = some (.lst (as.map V.ref)) ∧ as.length = rows.length ∧ ∀ (i : Nat) (a : Addr) (r : List Nat), as[i]? = some a → rows[i]? = some r → H a = some (.lst (nl r))
theorem RowsAt.mono {R : Addr} {rows : List (List Nat)} (h : RowsAt H R rows) (e : Ex H H') : RowsAt H' R rows := by
  obtain ⟨as, h1, h2, h3⟩ := h
  exact ⟨as, e _ _ h1, h2, fun i a r e1 e2 => e _ _ (h3 i a r e1 e2)⟩
end
/-! ### sizes -/
theorem small4 {n : Nat} (h : n < 2 ^ 4000) : n < 2 ^ 8000 := Nat.lt_of_lt_of_le h (Nat.pow_le_pow_right (by decide) (by decide))
theorem small60 {n : Nat} (h : n < 2 ^ 4000) : n < 2 ^ 60000000 := Nat.lt_of_lt_of_le h (Nat.pow_le_pow_right (by decide) (by decide))
theorem lt_big {n : Nat} (h : n ≤ 10000000) : n < 2 ^ 4000 := Nat.lt_of_lt_of_le (Nat.lt_of_le_of_lt h (show 10000000 < 2 ^ 24 by decide)) (Nat.pow_le_pow_right (by decide) (by decide))
theorem cmul_small {n m : Nat} (hn : n < 2 ^ 4000) (hm : m < 2 ^ 4000) : CMulX (n : Int) (m : Int) := cmulx (small60 hn) (small60 hm)

/-! ### an object that is made on the way, by what is true of it -/
section
variable {K : PySem.W.Frag} {σ : L2.St} {H H' : Hp} {ta tb te : TE} {x y z v : V}
def EvR (te : TE) (σ : L2.St) (H : Hp) (Pr : Addr → Hp → Prop) : Prop := ∀ H1, Ex H H1 → ∀ Q : VK, (∀ R H2, H1 R = none → Ex H1 H2 → Pr R H2 → Q (.ref R) H2) → te σ H1 Q
theorem er_callL {sp : Sp} {E : XK} {xs : List V} {Pr : Addr → Hp → Prop} (h : EvL te σ H xs) (hs : ∀ a H1, Ex H H1 → H1 a = some (.lst xs) → ∀ (Q : VK) (E : XK), (∀ R H2, H1 R = none → Ex H1 H2 → Pr R H2 → Q (.ref R) H2) → sp [.ref a] H1 Q E) : EvR (tCall sp [] E (tCons te tNil)) σ H Pr := fun H1 e Q q =>
  h H1 e _ fun p H2 hp e2 h2 => hs p H2 (e.trans e2) h2 Q E fun R H3 hR e3 hPr => q R H3 (fresh_back e2 hR) (e2.trans e3) hPr
theorem el_call2R {sp : Sp} {E : XK} {xs : List V} {Pr : Addr → Hp → Prop} (h1 : Ev ta σ H x) (h2 : EvR tb σ H Pr) (hs : ∀ R H1, Ex H H1 → Pr R H1 → SpL sp [x, .ref R] H1 xs) : EvL (tCall sp [] E (tCons ta (tCons tb tNil))) σ H xs := fun H1 e Q q =>
  h1 H1 e _ fun H2 e2 => h2 H2 (e.trans e2) _ fun R H3 hR e3 hPr => hs R H3 ((e.trans e2).trans e3) hPr H3 (Ex.refl H3) Q (fun p H4 hp e4 h4 => q p H4 (fresh_back (e2.trans e3) hp) ((e2.trans e3).trans e4) h4) E
theorem bits_pos {p : Nat} (hp : 0 < p) : Builtin.Int.intBits (p : Int) = p.log2 + 1 := by
  unfold Builtin.Int.intBits
  rw [if_neg (by simp; omega), Int.natAbs_natCast]
theorem nl_dropLast (l : List Nat) : nl l.dropLast = (nl l).dropLast := by
  unfold nl
  rw [List.map_dropLast]
end
theorem dec_nat (a b : Nat) : decide (V.int (a : Int) = V.int (b : Int)) = decide (a = b) := decide_eq_decide.mpr ⟨fun h => by have := V.int.inj h; omega, fun h => by rw [h]⟩
theorem dec_int (a b : Int) : decide (V.int a = V.int b) = decide (a = b) := decide_eq_decide.mpr ⟨fun h => V.int.inj h, fun h => by rw [h]⟩

section
variable {K : PySem.W.Frag} {σ : L2.St} {H H' : Hp} {ta tb te : TE} {x y z v : V} {D : Ends} {tz : TS}
/-- a list of new pairs -/
def PairsAt (H : Hp) (R : Addr) (xs ys : List V) : Prop := ∃ ts : List Addr, H R = some (.lst (ts.map V.ref)) ∧ ts.length = min xs.length ys.length ∧ ∀ (j : Nat) (t : Addr) (x y : V), ts[j]? = some t → xs[j]? = some x → ys[j]? = some y → H t = some (.tup [x, y])
theorem er_zip {xs ys : List V} (ha : EvL ta σ H xs) (hb : EvL tb σ H ys) : EvR (Zl.tListZip K (tCons ta (tCons tb tNil))) σ H (fun R H' => PairsAt H' R xs ys) := fun H1 e Q q =>
  ha H1 e _ fun a H2 _ e2 h2 => hb H2 (e.trans e2) _ fun b H3 _ e3 h3 => ⟨a, b, xs, ys, rfl, sq_of (e3 _ _ h2), sq_of h3, fun Dl ts H4 hD e4 h4 hl hp => q Dl H4 (fresh_back (e2.trans e3) hD) ((e2.trans e3).trans e4) ⟨ts, h4, hl, hp⟩⟩
theorem q_asgR {i : Nat} {Pr : Addr → Hp → Prop} (h : EvR te σ H Pr) (k : ∀ p H1, H p = none → Ex H H1 → Pr p H1 → tz D (σ.set i (some (.ref p))) H1) : tSeq (tAsg te (gName i)) tz D σ H := h H (Ex.refl H) _ fun p H1 hp e h1 => k p H1 hp e h1
theorem rv_eqD {d e : PyData} (hx : ∀ H1, Ex H H1 → Dp K H1 x d) (hy : ∀ H1, Ex H H1 → Dp K H1 y e) (sd : SeqAt.shaped d = true) (se : SeqAt.shaped e = true) : RV (rEqD K) x y H (.bl (PyData.eqv d e)) := fun H1 ex Q q => ⟨d, e, hx H1 ex, hy H1 ex, sd, se, q H1 (Ex.refl H1)⟩
theorem rv_neD {d e : PyData} (hx : ∀ H1, Ex H H1 → Dp K H1 x d) (hy : ∀ H1, Ex H H1 → Dp K H1 y e) (sd : SeqAt.shaped d = true) (se : SeqAt.shaped e = true) : RV (rNeD K) x y H (.bl (!PyData.eqv d e)) := fun H1 ex Q q => ⟨d, e, hx H1 ex, hy H1 ex, sd, se, q H1 (Ex.refl H1)⟩
/-- a pair of numbers, as data -/
def two (a b : Int) : PyData := .tuple [.int a, .int b]
theorem two_shaped (a b : Int) : SeqAt.shaped (two a b) = true := rfl
theorem dp_two {a b : Int} {p : Addr} (h : SqT K H p [.int a, .int b]) : ∀ H1, Ex H H1 → Dp K H1 (.ref p) (two a b) := fun H1 e => .tup (ex_t e h) (.cons (.int a) (.cons (.int b) .nil))
theorem two_eqv (a b c d : Int) : PyData.eqv (two a b) (two c d) = (decide (a = c) && decide (b = d)) := by
  show ((a == c) && ((b == d) && true)) = _
  rw [Bool.and_true]
  rfl
theorem inV_nl (r : Int) (l : List Nat) : inV (.int r) (nl l) = l.any fun d => ((d : Int) == r) := by
  unfold inV nl
  rw [List.any_map]
  rfl
theorem flat_nl (l : List Nat) : (nl l).all flatV = true := by
  unfold nl
  rw [List.all_map]
  exact List.all_eq_true.mpr fun _ _ => rfl
theorem primeZ_lt {p : Int} (h : primeZ p = true) : ∃ q : Nat, p = (q : Int) ∧ 2 ≤ q ∧ q < 998 := by
  unfold primeZ at h
  rw [Bool.and_eq_true, Bool.and_eq_true, decide_eq_true_eq, decide_eq_true_eq] at h
  exact ⟨p.toNat, by omega, by omega, by omega⟩
end

/-! ### what a call may hand back, told by a property -/
section
variable {K : PySem.W.Frag} {σ : L2.St} {H H' : Hp} {ta tb te : TE} {x y z v : V} {D : Ends} {tz : TS}
def EvX (te : TE) (σ : L2.St) (H : Hp) (Pr : V → Prop) : Prop := ∀ H1, Ex H H1 → ∀ Q : VK, (∀ v H2, Pr v → Ex H1 H2 → Q v H2) → te σ H1 Q
/-- a new tuple, its items told by a property -/
def EvUX (te : TE) (σ : L2.St) (H : Hp) (Pr : List V → Prop) : Prop := ∀ H1, Ex H H1 → ∀ Q : VK, (∀ p xs H2, Pr xs → H1 p = none → Ex H1 H2 → H2 p = some (.tup xs) → Q (.ref p) H2) → te σ H1 Q
theorem evx {Pr : V → Prop} (h : Ev te σ H v) (hp : Pr v) : EvX te σ H Pr := fun H1 e Q q => h H1 e Q fun H2 e2 => q v H2 hp e2
theorem q_asgX {i : Nat} {Pr : V → Prop} (h : EvX te σ H Pr) (k : ∀ v H1, Pr v → Ex H H1 → tz D (σ.set i (some v)) H1) : tSeq (tAsg te (gName i)) tz D σ H := h H (Ex.refl H) _ fun v H1 hp e => k v H1 hp e
theorem q_asg2X {Pr : List V → Prop} {i j : Nat} (h : EvUX te σ H Pr) (hPr : ∀ xs, Pr xs → ∃ a b, xs = [a, b]) (k : ∀ a b H1, Pr [a, b] → Ex H H1 → tz D ((σ.set i (some a)).set j (some b)) H1) : tSeq (tAsg te (gTup K 2 (gCons (gName i) (gCons (gName j) gNil)))) tz D σ H :=
  h H (Ex.refl H) _ fun p xs H1 hp _ e h1 => by
    obtain ⟨a, b, rfl⟩ := hPr xs hp
    exact g_pair h1 (k a b H1 hp e)
/-- ten to a power -/
theorem rv_pow10 (k : Nat) (hk : k ≤ 1000) : RV (rI CPow fun i j => .int (i ^ j.toNat)) (.int 10) (.int (k : Int)) H (.int ((10 ^ k : Nat) : Int)) := fun H1 _ Q q => ⟨10, (k : Int), rfl, rfl, ⟨by omega, by omega, by decide⟩, by
  show Q (V.int ((10 : Int) ^ (k : Int).toNat)) H1
  rw [Int.toNat_natCast, show ((10 : Int) ^ k) = ((10 ^ k : Nat) : Int) from (Int.natCast_pow 10 k).symm]
  exact q H1 (Ex.refl H1)⟩
end

/-! ### draws -/
def drP : List Nat := [3, 33, 37, 39, 81, 99, 117, 121, 133, 151, 159, 171, 183, 187, 193, 199].map (· + 1000000)
def drawV (c : Int) (k m : Nat) : Nat := ((c * 48271 + (k : Int) * 69621) % ((drP.getD (k % 16) 1 : Nat) : Int) % (m : Int)).toNat
theorem drawV_lt {c : Int} {k m : Nat} (hm : 0 < m) : drawV c k m < m := by
  unfold drawV
  have h1 := Int.emod_nonneg ((c * 48271 + (k : Int) * 69621) % ((drP.getD (k % 16) 1 : Nat) : Int)) (show (m : Int) ≠ 0 by omega)
  have h2 := Int.emod_lt_of_pos ((c * 48271 + (k : Int) * 69621) % ((drP.getD (k % 16) 1 : Nat) : Int)) (show (0 : Int) < (m : Int) by omega)
  omega
theorem drP_pos : ∀ j, j < 16 → 0 < drP.getD j 1 := by decide
theorem drP_len : drP.length = 16 := rfl
def valueV (c : Int) (k m : Nat) : Nat := if ((10 ^ 18 : Nat) : Int) ≤ c then ((c - ((10 ^ 18 : Nat) : Int)) % ((10 ^ 40 : Nat) : Int)).toNat else drawV ((c + 977 * (k : Int)) * (c + 31 * (k : Int) + 5)) (k % 9 + 1) m
theorem valueV_lt {c : Int} {k m : Nat} (hm : 0 < m) (hm2 : m ≤ 1000000) : valueV c k m < 10 ^ 40 := by
  unfold valueV
  split
  · have h1 := Int.emod_nonneg (c - ((10 ^ 18 : Nat) : Int)) (show ((10 ^ 40 : Nat) : Int) ≠ 0 by decide)
    have h2 := Int.emod_lt_of_pos (c - ((10 ^ 18 : Nat) : Int)) (show (0 : Int) < ((10 ^ 40 : Nat) : Int) by decide)
    omega
  · exact Nat.lt_of_lt_of_le (drawV_lt hm) (Nat.le_trans hm2 (by decide))
theorem big40 : 10 ^ 40 < 2 ^ 133 := by decide
theorem lt900 {n : Nat} (h : n < 10 ^ 40) : n < 2 ^ 900 := Nat.lt_trans h (Nat.lt_of_lt_of_le big40 (Nat.pow_le_pow_right (by decide) (by decide)))
/-- what the law's own search for a prime finds to go on for -/
def compB (n : Nat) : Bool := ((List.range 30).filter fun i => decide (2 + i < n)).any fun i => decide (n % (2 + i) = 0)
theorem compB_prime : ∀ n, n < 998 → 2 ≤ n → compB n = !primeB n := by decide +kernel
theorem compB_991 : compB 991 = false := by decide +kernel
theorem prime_of {n : Nat} (h2 : 2 ≤ n) (h : n < 998) (hc : compB n = false) : primeZ (n : Int) = true := by
  have e := compB_prime n h h2
  rw [hc] at e
  unfold primeZ
  rw [decide_eq_true (by omega), decide_eq_true (by omega), Int.toNat_natCast]
  rw [Bool.true_and, Bool.true_and]
  cases hb : primeB n with
  | true => rfl
  | false => rw [hb] at e; cases e
/-- a script -/
structure Scr (ns : List Int) : Prop where
  len : ns.length ≤ 63
  bits : ∀ z ∈ ns, Builtin.Int.intBits z ≤ 1048576
theorem Scr.cell {ns : List Int} (h : Scr ns) (k : Nat) : Builtin.Int.intBits (ns.getD k 0) ≤ 1048576 := by
  by_cases hk : k < ns.length
  · rw [List.getD_eq_getElem?_getD, List.getElem?_eq_getElem hk]
    exact h.bits _ (List.getElem_mem hk)
  · rw [List.getD_eq_getElem?_getD, List.getElem?_eq_none (by omega)]
    exact Nat.zero_le _

section
variable {σ : L2.St} {H : Hp} {ta tb : TE} {y z : V} {r : R2}
/-- the first operand a new tuple -/
theorem ev_opT1 {xs : List V} (ha : EvU ta σ H xs) (hb : Ev tb σ H y) (hr : ∀ p H1, H1 p = some (.tup xs) → Ex H H1 → RV r (.ref p) y H1 z) : Ev (tOp r ta tb) σ H z := fun H1 e Q q =>
  ha H1 e _ fun p H2 _ e2 hp => hb H2 (e.trans e2) _ fun H3 e3 => hr p H3 (e3 p _ hp) ((e.trans e2).trans e3) H3 (Ex.refl H3) Q fun H4 e4 => q H4 ((e2.trans e3).trans e4)
end

theorem menu4 {x1 x2 : Nat} (h1 : x1 < 30) (h2 : x2 < 990) : ∀ x3, x3 < 4 → ∃ n0 : Nat, (nl [2, 3, 2 + x1, 2 + x2])[x3]? = some (.int (n0 : Int)) ∧ 2 ≤ n0 ∧ n0 ≤ 991
  | 0, _ => ⟨2, rfl, by omega, by omega⟩
  | 1, _ => ⟨3, rfl, by omega, by omega⟩
  | 2, _ => ⟨2 + x1, rfl, by omega, by omega⟩
  | 3, _ => ⟨2 + x2, rfl, by omega, by omega⟩
theorem bl_of {p q : Prop} [Decidable p] [Decidable q] (h : p ↔ q) : V.bl (decide p) = V.bl (decide q) := congrArg V.bl (decide_eq_decide.mpr h)

theorem menu3 : ∀ x3, x3 < 3 → ∃ n0 : Nat, (nl [20, 300, 900000])[x3]? = some (.int (n0 : Int)) ∧ 0 < n0 ∧ n0 ≤ 900000
  | 0, _ => ⟨20, rfl, by decide, by decide⟩
  | 1, _ => ⟨300, rfl, by decide, by decide⟩
  | 2, _ => ⟨900000, rfl, by decide, by decide⟩
theorem el_revL {K : PySem.W.Frag} {σ : L2.St} {H : Hp} {te : TE} {a : Addr} {xs : List V} (h : Ev te σ H (.ref a)) (hs : SqL K H a xs) : EvL (tRevL K te) σ H xs.reverse := fun H1 e Q q =>
  h H1 e _ fun H2 e2 => ⟨a, xs, rfl, ex_l (e.trans e2) hs, fun p hp => q p _ (fresh_back e2 hp) (e2.trans (Ex.new hp)) upd_same⟩

/-! ### loops over what is made on the way, by what is true of it -/
section
variable {K : PySem.W.Frag} {σ : L2.St} {H H' : Hp} {ta tb te : TE} {t : TT} {x y z v : V} {D : Ends} {tu tz : TS} {g : TG}
def EvIP (wi : TI) (σ : L2.St) (H : Hp) (J : Addr → It) (Pr : Addr → Hp → Prop) : Prop := ∀ H1, Ex H H1 → ∀ R : It → Hp → Prop, (∀ p H2, H1 p = none → Ex H1 H2 → Pr p H2 → R (J p) H2) → wi σ H1 R
theorem eip_tup {xs : List V} (h : EvU te σ H xs) : EvIP (iTup K te) σ H (fun a => Itt K a) (fun a H2 => H2 a = some (.tup xs)) := fun H1 e R q => h H1 e _ fun p H2 hp e2 h2 => ⟨p, rfl, ⟨xs, st_of h2⟩, q p H2 hp e2 h2⟩
theorem s_forWP {wi : TI} {J : Addr → It} {Pr : Addr → Hp → Prop} {n : Nat} {G : Addr → Hp → Prop} {Y : Addr → Nat → Hp → V → Hp → Prop} (hi : EvIP wi σ H J Pr) (w : ∀ p, Walk (J p) n (G p) (Y p)) (Pv : Addr → Nat → L2.St → Hp → Prop) (h0 : ∀ p H1, H p = none → Ex H H1 → Pr p H1 → Pv p 0 σ H1)
    (hG : ∀ p i σ' H', i ≤ n → Pv p i σ' H' → G p H') (hs : ∀ p i x σ' H1 H2, i < n → Pv p i σ' H1 → Y p i H1 x H2 → g x σ' H2 fun σ2 H3 => tu { D with nx := Pv p (i + 1), ct := Pv p (i + 1), bk := D.nx } σ2 H3) (hd : ∀ p σ' H', Pv p n σ' H' → D.nx σ' H') : tFor wi g tu D σ H :=
  hi H (Ex.refl H) _ fun p H1 hp e h1 => for_it (w p) (Pv p) (h0 p H1 hp e h1) (hG p) (hs p) (hd p)
theorem q_forWP {wi : TI} {J : Addr → It} {Pr : Addr → Hp → Prop} {n : Nat} {G : Addr → Hp → Prop} {Y : Addr → Nat → Hp → V → Hp → Prop} (hi : EvIP wi σ H J Pr) (w : ∀ p, Walk (J p) n (G p) (Y p)) (Pv : Addr → Nat → L2.St → Hp → Prop) (h0 : ∀ p H1, H p = none → Ex H H1 → Pr p H1 → Pv p 0 σ H1)
    (hG : ∀ p i σ' H', i ≤ n → Pv p i σ' H' → G p H') (hs : ∀ p i x σ' H1 H2, i < n → Pv p i σ' H1 → Y p i H1 x H2 → g x σ' H2 fun σ2 H3 => tu { D with nx := Pv p (i + 1), ct := Pv p (i + 1), bk := tz D } σ2 H3) (hd : ∀ p σ' H', Pv p n σ' H' → tz D σ' H') : tSeq (tFor wi g tu) tz D σ H :=
  s_forWP (D := { D with nx := tz D }) hi w Pv h0 hG hs hd
end
section
variable {X : Cx} {k : Nat} {m : Str} {ps : List Str} {sp : Sp} {pos apos : Pos} {e o : Expr} {es : List Expr} {ta : TE} {t : TA} {C : Addr}
theorem pe_methC {pl : Sem Bool} (c : CanM X.prog X.w X.K X.mg X.base k C m ps sp) (cl : Cls X.K C) (hr : Room k X.A) (he : PE X o ta) (ha : PA X (e :: es) t) (hst : starEach (e :: es) X.env = (false, eval e X.env) :: starEach es X.env := by rfl) (hpl : (backTo pos (starEach es X.env)).any (·.1) = false := by rfl)
    (ht : eval (.Call (.Attribute o m apos) (e :: es) [] pos) X.env = (do { let ov ← eval o X.env; standAt apos.atName; let (g, u) ← holding [ov] (getMethod ov m pl); callWith pos g u (backTo pos (starEach (e :: es) X.env)) (backToKw pos (keywordEach [] X.env)) }) := by rfl) : PE X (.Call (.Attribute o m apos) (e :: es) [] pos) (tMeth C m sp [] E0 ta t) := by
  obtain ⟨f, fd, F, M, b⟩ := c.ex
  exact pe_meth he cl M F hr b .nil pass0 ha hst hpl ht
end
/-- range(a, b, c), c above 0 -/
theorem rgcP {b c : Nat} (hb : b ≤ 100000) (hc : 0 < c) (hc2 : c ≤ 100000) : RgC 0 (b : Int) (c : Int) ((b + c - 1) / c) := by
  have e : Builtin.Range.rangeSize 0 (b : Int) (c : Int) = (((b + c - 1) / c : Nat) : Int) := by
    unfold Builtin.Range.rangeSize
    rw [if_pos (by omega)]
    by_cases h : 0 < b
    · rw [if_pos (by omega)]
      have e1 : ((b : Int) - 0 - 1) = ((b - 1 : Nat) : Int) := by omega
      rw [e1, ← Int.natCast_ediv]
      have e2 : b + c - 1 = (b - 1) + c := by omega
      rw [e2, Nat.add_div_right _ hc]
      rfl
    · rw [if_neg (by omega)]
      have e2 : (b + c - 1) / c = 0 := Nat.div_eq_of_lt (by omega)
      rw [e2]
      rfl
  have h2 : (b + c - 1) / c ≤ b + c := Nat.le_trans (Nat.div_le_self _ _) (by omega)
  refine ⟨by omega, by rw [Int.natAbs_natCast]; omega, ?_, e⟩
  unfold Builtin.Range.small
  rw [e]
  clear e
  generalize (b + c - 1) / c = n at *
  simp only [Builtin.Range.rangeFitsLong, Bool.and_eq_true, Bool.or_eq_true, decide_eq_true_eq, beq_iff_eq, show (c : Int) > 0 by omega, if_true]
  refine ⟨⟨⟨⟨by omega, by omega⟩, by omega⟩, by omega⟩, ?_⟩
  omega
theorem rgc_lt {b c i : Nat} (hc : 0 < c) (h : i < (b + c - 1) / c) : i * c < b := by
  have h1 : (i + 1) * c ≤ b + c - 1 := (Nat.le_div_iff_mul_le hc).mp h
  rw [Nat.add_mul, Nat.one_mul] at h1
  omega

/-! ### small things -/
theorem len10 {α : Type} {l : List α} (h : l.length = 10) : ∃ a b c d e f g i j k, l = [a, b, c, d, e, f, g, i, j, k] := by
  match l, h with
  | [a, b, c, d, e, f, g, i, j, k], _ => exact ⟨a, b, c, d, e, f, g, i, j, k, rfl⟩
theorem len15 {α : Type} {l : List α} (h : l.length = 15) : ∃ a b c d e f g i j k m n o p q, l = [a, b, c, d, e, f, g, i, j, k, m, n, o, p, q] := by
  match l, h with
  | [a, b, c, d, e, f, g, i, j, k, m, n, o, p, q], _ => exact ⟨a, b, c, d, e, f, g, i, j, k, m, n, o, p, q, rfl⟩
def min60 (n : Nat) : Nat := if 60 < n then 60 else n
theorem min60_le (n : Nat) : min60 n ≤ 60 := by
  unfold min60
  split <;> omega
theorem min60_int (n : Nat) : V.int (if (60 : Int) < ((n : Nat) : Int) then 60 else ((n : Nat) : Int)) = V.int ((min60 n : Nat) : Int) := by
  unfold min60
  congr 1
  split <;> split <;> omega
def rMin2 : List V → Hp → VK → Prop := fun xs H Q => ∃ i j, xs = [.int i, .int j] ∧ Q (.int (if j < i then j else i)) H
theorem rc_min2 {H : Hp} (i j : Int) : RC rMin2 [.int i, .int j] H (.int (if j < i then j else i)) := fun H1 _ _ q => ⟨i, j, rfl, q H1 (Ex.refl H1)⟩
end Rl

/-! Primes, factorials, ways: what the figures tell of them. -/
namespace Cc
open Rl

theorem inv_all : ∀ n, n < 998 → 2 ≤ n → primeB n = true → ((List.range n).all fun a => a == 0 || a * (a ^ (n - 2) % n) % n == 1) = true := by decide +kernel
theorem fac_all : ∀ n, n < 998 → 2 ≤ n → primeB n = true → fac (n - 1) % n = n - 1 := by decide +kernel
/-- a prime to 997 -/
structure Pr (p : Nat) : Prop where
  two : 2 ≤ p
  lt : p < 998
  pr : primeB p = true
theorem pr_of {p : Nat} (h : primeZ (p : Int) = true) : Pr p := by
  obtain ⟨q, hq, h1, h2⟩ := primeZ_lt h
  have : p = q := by omega
  subst this
  refine ⟨h1, h2, ?_⟩
  unfold primeZ at h
  rw [Bool.and_eq_true] at h
  exact h.2
theorem Pr.inv {p a : Nat} (h : Pr p) (ha : a % p ≠ 0) : a * ((a % p) ^ (p - 2) % p) % p = 1 := by
  have h1 := List.all_eq_true.mp (inv_all p h.lt h.two h.pr) (a % p) (List.mem_range.mpr (Nat.mod_lt _ (by have := h.two; omega)))
  rw [Bool.or_eq_true, beq_iff_eq, beq_iff_eq] at h1
  rcases h1 with h1 | h1
  · exact absurd h1 ha
  · rw [Nat.mod_mul_mod] at h1
    exact h1
theorem Pr.mul {p a b : Nat} (h : Pr p) (ha : a % p ≠ 0) (hb : b % p ≠ 0) : a * b % p ≠ 0 := by
  intro z
  have h1 := h.inv ha
  have e1 : b * (a * ((a % p) ^ (p - 2) % p)) % p = b % p := by
    rw [Nat.mul_mod, h1, Nat.mul_one, Nat.mod_mod]
  have e2 : b * (a * ((a % p) ^ (p - 2) % p)) = a * b * ((a % p) ^ (p - 2) % p) := by
    rw [← Nat.mul_assoc, Nat.mul_comm b a]
  rw [e2, Nat.mul_mod, z, Nat.zero_mul, Nat.zero_mod] at e1
  exact hb e1.symm
theorem Pr.fac {p : Nat} (h : Pr p) : ∀ d, d < p → fac d % p ≠ 0
  | 0, _ => by
    show 1 % p ≠ 0
    rw [Nat.mod_eq_of_lt (by have := h.two; omega)]
    decide
  | d + 1, hd => by
    show Cc.fac d * (d + 1) % p ≠ 0
    refine h.mul (h.fac d (by omega)) ?_
    rw [Nat.mod_eq_of_lt hd]
    omega
theorem Pr.facs {p : Nat} (h : Pr p) : ∀ ds : List Nat, (∀ d ∈ ds, d < p) → facs ds % p ≠ 0
  | [], _ => h.fac 0 (by have := h.two; omega)
  | d :: ds, hd => h.mul (h.fac d (hd d (List.mem_cons_self ..))) (h.facs ds fun x hx => hd x (List.mem_cons_of_mem _ hx))
theorem Pr.cf {p : Nat} (h : Pr p) (n : Nat) : cf p n ≠ 0 := by
  refine h.mul ?_ (h.facs _ fun d hd => dig_lt h.two n d hd)
  rw [sgn_pow h.two]
  unfold sgn
  have := h.two
  split <;> omega
theorem Pr.cf' {p : Nat} (h : Pr p) (n : Nat) : Cc.cf p n % p ≠ 0 := by
  rw [Nat.mod_eq_of_lt (cf_lt h.two n)]
  exact h.cf n

/-! ### all numbers to n multiplied -/
def gp (p : Nat) : Nat → Nat
  | 0 => 1
  | n + 1 => if (n + 1) % p = 0 then gp p n else gp p n * (n + 1)
theorem divmod_up {p : Nat} (hp : 2 ≤ p) (n : Nat) : ((n + 1) % p = 0 ∧ n % p = p - 1 ∧ (n + 1) / p = n / p + 1) ∨ ((n + 1) % p = n % p + 1 ∧ (n + 1) / p = n / p) := by
  have h1 := Nat.div_add_mod n p
  have h2 := Nat.mod_lt n (show 0 < p by omega)
  by_cases h : n % p + 1 = p
  · left
    have e : n + 1 = p * (n / p + 1) := by
      rw [Nat.mul_add, Nat.mul_one]
      omega
    refine ⟨?_, by omega, ?_⟩
    · rw [e, Nat.mul_mod_right]
    · rw [e, Nat.mul_div_cancel_left _ (by omega)]
  · right
    have e : n + 1 = n % p + 1 + p * (n / p) := by omega
    constructor
    · rw [e, Nat.add_mul_mod_self_left, Nat.mod_eq_of_lt (by omega)]
    · rw [e, Nat.add_mul_div_left _ _ (by omega), Nat.div_eq_of_lt (by omega)]
      omega
theorem fac_gp {p : Nat} (hp : 2 ≤ p) : ∀ n, fac n = p ^ (n / p) * fac (n / p) * gp p n
  | 0 => by
    rw [Nat.zero_div]
    rfl
  | n + 1 => by
    show fac n * (n + 1) = p ^ ((n + 1) / p) * fac ((n + 1) / p) * (if (n + 1) % p = 0 then gp p n else gp p n * (n + 1))
    have ih := fac_gp hp n
    rcases divmod_up hp n with ⟨h1, h2, h3⟩ | ⟨h1, h3⟩
    · have e : n + 1 = p * (n / p + 1) := by
        have := Nat.div_add_mod (n + 1) p
        rw [h1, h3] at this
        omega
      rw [if_pos h1, h3, Nat.pow_succ]
      show fac n * (n + 1) = p ^ (n / p) * p * (fac (n / p) * (n / p + 1)) * gp p n
      have e3 : fac n * (n + 1) = p ^ (n / p) * fac (n / p) * gp p n * (p * (n / p + 1)) := by rw [← e, ← ih]
      rw [e3]
      · simp only [Nat.mul_assoc, Nat.mul_comm, Nat.mul_left_comm]
    · rw [if_neg (by omega), h3, ih]
      simp only [Nat.mul_assoc]
theorem sgn_up {p : Nat} (hp : 2 ≤ p) (k : Nat) : sgn p k * (p - 1) % p = sgn p (k + 1) := by
  rw [← sgn_pow hp, ← sgn_pow hp, Nat.mod_mul_mod, Nat.pow_succ]
theorem gp_mod {p : Nat} (h : Pr p) : ∀ n, gp p n % p = sgn p (n / p) * fac (n % p) % p
  | 0 => by
    rw [Nat.zero_div, Nat.zero_mod]
    rfl
  | n + 1 => by
    show (if (n + 1) % p = 0 then gp p n else gp p n * (n + 1)) % p = _
    have ih := gp_mod h n
    rcases divmod_up h.two n with ⟨h1, h2, h3⟩ | ⟨h1, h3⟩
    · rw [if_pos h1, h1, h3, ih, h2, Nat.mul_mod, fac_all p h.lt h.two h.pr, Nat.mod_mul_mod, sgn_up h.two]
      show _ = sgn p (n / p + 1) * 1 % p
      rw [Nat.mul_one, Nat.mod_eq_of_lt (sgn_lt h.two _)]
    · rw [if_neg (by omega), h3, Nat.mul_mod, ih, h1]
      show _ = sgn p (n / p) * (fac (n % p) * (n % p + 1)) % p
      rw [← h1, Nat.mod_mul_mod, Nat.mul_mod_mod, ← Nat.mul_assoc, Nat.mul_mod_mod]
/-- how often p goes into n!, and what is left then -/
theorem fac_cf {p : Nat} (h : Pr p) : ∀ n, ∃ u, fac n = p ^ lg p n * u ∧ u % p = cf p n := by
  refine dig_ind h.two ?_ ?_
  · exact ⟨1, rfl, by rw [cf_zero h.two, Nat.mod_eq_of_lt (by have := h.two; omega)]⟩
  · rintro n hn ⟨u, h1, h2⟩
    refine ⟨u * gp p n, ?_, ?_⟩
    · rw [fac_gp h.two n, h1, lg_step h.two hn, Nat.pow_add]
      simp only [Nat.mul_assoc]
    · have e := core_turn h.two (n := n) 1
      rw [Nat.one_mul, Nat.one_mul, Nat.mod_eq_of_lt (cf_lt h.two n)] at e
      rw [← e, Nat.mul_mod, h2, gp_mod h, Nat.mul_mod_mod, Nat.mul_comm (cf p (n / p))]
      refine mm ?_ rfl
      rw [Nat.mul_comm (fac (n % p) % p), Nat.mul_mod_mod, Nat.mod_mod]

/-! ### how often, and the carries -/
theorem sum_div {p : Nat} (hp : 2 ≤ p) (a b c : Nat) : (a + b + c) / p = a / p + b / p + (a % p + b % p + c) / p := by
  have h1 := Nat.div_add_mod a p
  have h2 := Nat.div_add_mod b p
  have e : a + b + c = (a % p + b % p + c) + p * (a / p + b / p) := by
    rw [Nat.mul_add]
    omega
  rw [e, Nat.add_mul_div_left _ _ (by omega)]
  have h3 : (a % p + b % p + c + p * (a / p + b / p)) % p = (a % p + b % p + c) % p := Nat.add_mul_mod_self_left ..
  omega
theorem carry_le {p : Nat} (hp : 2 ≤ p) (a b : Nat) {c : Nat} (hc : c ≤ 1) : (a % p + b % p + c) / p ≤ 1 := by
  have h1 := Nat.mod_lt a (show 0 < p by omega)
  have h2 := Nat.mod_lt b (show 0 < p by omega)
  have : (a % p + b % p + c) / p < 2 := Nat.div_lt_of_lt_mul (by omega)
  omega
theorem carry_turn {p : Nat} (hp : 2 ≤ p) (a b c : Nat) : (lg p (a + b + c) : Int) - lg p a - lg p b = ((a % p + b % p + c) / p : Nat) + ((lg p (a / p + b / p + (a % p + b % p + c) / p) : Int) - lg p (a / p) - lg p (b / p)) := by
  have h1 := lg_step' hp (a + b + c)
  have h2 := lg_step' hp a
  have h3 := lg_step' hp b
  have h4 := sum_div hp a b c
  rw [h4] at h1
  omega
theorem lg_sup {p : Nat} (hp : 2 ≤ p) : ∀ (f a b c : Nat), a + b + c ≤ f → c ≤ 1 → lg p a + lg p b ≤ lg p (a + b + c) := by
  intro f
  induction f with
  | zero =>
    intro a b c h _
    have ha : a = 0 := by omega
    have hb : b = 0 := by omega
    subst ha; subst hb
    rw [lg_zero]
    omega
  | succ f ih =>
    intro a b c h hc
    by_cases h0 : a + b + c = 0
    · have ha : a = 0 := by omega
      have hb : b = 0 := by omega
      subst ha; subst hb
      rw [lg_zero]
      omega
    · have h1 := sum_div hp a b c
      have h2 := div_lt hp h0
      have h3 := ih (a / p) (b / p) _ (by omega) (carry_le hp a b hc)
      have h4 := carry_turn hp a b c
      generalize (a % p + b % p + c) / p = z at h1 h3 h4
      omega
theorem waysO_nonneg {p n s : Nat} (hp : 2 ≤ p) (hs : s ≤ n) : 0 ≤ waysO p n s := by
  have h := lg_sup hp _ s (n - s) 0 (Nat.le_refl _) (by decide)
  rw [Nat.add_zero, Nat.add_sub_cancel' hs] at h
  unfold waysO
  omega
theorem gtp_up {p n s : Nat} (hp : 2 ≤ p) (i : Nat) : gtp p n s (i + 1) = gtp p (n / p) (s / p) i := by
  unfold gtp
  rw [Nat.pow_succ, Nat.mul_comm (p ^ i) p, ← Nat.div_div_eq_div_mul, ← Nat.div_div_eq_div_mul]
  congr 1
  exact decide_eq_decide.mpr (by rw [Nat.le_div_iff_mul_le (by omega), Nat.mul_comm])
theorem free_iff {p : Nat} (hp : 2 ≤ p) : ∀ n s, s ≤ n → (waysO p n s = 0 ↔ ∀ i, gtp p n s i = false) := by
  refine dig_ind hp ?_ ?_
  · intro s hs
    have : s = 0 := by omega
    subst this
    refine ⟨fun _ i => ?_, fun _ => rfl⟩
    unfold gtp
    rw [decide_eq_false (by have := Nat.pow_pos (n := i) (show 0 < p by omega); omega)]
    rfl
  · intro n hn ih s hs
    have d1 := Nat.div_add_mod n p
    have d2 := Nat.div_add_mod s p
    have d3 := Nat.div_add_mod (n - s) p
    have m1 := Nat.mod_lt n (show 0 < p by omega)
    have m2 := Nat.mod_lt s (show 0 < p by omega)
    have m3 := Nat.mod_lt (n - s) (show 0 < p by omega)
    have hd : s / p ≤ n / p := Nat.div_le_div_right hs
    have l1 := lg_step' hp n
    have l2 := lg_step' hp s
    have l3 := lg_step' hp (n - s)
    have g0 : gtp p n s 0 = decide (n % p < s % p) := by
      unfold gtp
      rw [Nat.pow_zero, Nat.div_one, Nat.div_one, decide_eq_true (show 1 ≤ n by omega), Bool.true_and]
    have sd := sum_div hp s (n - s) 0
    rw [Nat.add_zero, Nat.add_zero, Nat.add_sub_cancel' hs] at sd
    have cl := carry_le hp s (n - s) (c := 0) (by decide)
    rw [Nat.add_zero] at cl
    obtain ⟨z, hz⟩ : ∃ z, (s % p + (n - s) % p) / p = z := ⟨_, rfl⟩
    rw [hz] at sd cl
    have hz2 : z = 0 ∨ z = 1 := by omega
    rw [sd, Nat.mul_add, Nat.mul_add] at d1
    by_cases hc : n % p < s % p
    · refine ⟨fun y => ?_, fun y => ?_⟩
      · exfalso
        have h1 : z = 1 := by
          rcases hz2 with h | h
          · rw [h, Nat.mul_zero] at d1
            omega
          · exact h
        have h4 := lg_sup hp _ (s / p) ((n - s) / p) 1 (Nat.le_refl _) (by decide)
        rw [h1] at sd
        rw [← sd] at h4
        unfold waysO at y
        omega
      · have := y 0
        rw [g0, decide_eq_true hc] at this
        cases this
    · have h1 : z = 0 := by
        rcases hz2 with h | h
        · exact h
        · exfalso
          rw [h, Nat.mul_one] at d1
          omega
      rw [h1, Nat.add_zero] at sd
      have e : (n - s) / p = n / p - s / p := by omega
      have eq : waysO p n s = waysO p (n / p) (s / p) := by
        unfold waysO
        rw [← e]
        omega
      rw [eq, ih (s / p) hd]
      refine ⟨fun z i => ?_, fun z i => by rw [← gtp_up hp]; exact z (i + 1)⟩
      cases i with
      | zero => rw [g0, decide_eq_false hc]
      | succ i => rw [gtp_up hp]; exact z i

/-! ### the ways themselves -/
def ch : Nat → Nat → Nat
  | _, 0 => 1
  | 0, _ + 1 => 0
  | n + 1, k + 1 => ch n k + ch n (k + 1)
theorem ch_over : ∀ n k, n < k → ch n k = 0
  | _, 0, h => by omega
  | 0, _ + 1, _ => rfl
  | n + 1, k + 1, h => by
    show ch n k + ch n (k + 1) = 0
    rw [ch_over n k (by omega), ch_over n (k + 1) (by omega)]
theorem ch_self : ∀ n, ch n n = 1
  | 0 => rfl
  | n + 1 => by
    show ch n n + ch n (n + 1) = 1
    rw [ch_self n, ch_over n (n + 1) (by omega)]
theorem ch_zero : ∀ n, ch n 0 = 1
  | 0 => rfl
  | _ + 1 => rfl
theorem ch_fac : ∀ n k, k ≤ n → ch n k * (fac k * fac (n - k)) = fac n
  | n, 0, _ => by
    rw [ch_zero]
    show 1 * (1 * fac n) = fac n
    rw [Nat.one_mul, Nat.one_mul]
  | 0, k + 1, h => by omega
  | n + 1, k + 1, h => by
    show (ch n k + ch n (k + 1)) * (fac k * (k + 1) * fac (n + 1 - (k + 1))) = fac n * (n + 1)
    rw [Nat.add_sub_add_right]
    have h1 := ch_fac n k (by omega)
    by_cases hk : k = n
    · subst hk
      rw [ch_over k (k + 1) (by omega), Nat.add_zero, ch_self, Nat.sub_self]
      show 1 * (fac k * (k + 1) * 1) = fac k * (k + 1)
      rw [Nat.one_mul, Nat.mul_one]
    · have h2 := ch_fac n (k + 1) (by omega)
      have e : n - k = (n - (k + 1)) + 1 := by omega
      have e2 : fac (n - k) = fac (n - (k + 1)) * (n - k) := by
        rw [e]
        show fac (n - (k + 1)) * (n - (k + 1) + 1) = _
        rfl
      have a1 : ch n k * (fac k * (k + 1) * fac (n - k)) = fac n * (k + 1) := by
        rw [← h1]
        simp only [Nat.mul_assoc, Nat.mul_comm, Nat.mul_left_comm]
      have a2 : ch n (k + 1) * (fac k * (k + 1) * fac (n - k)) = fac n * (n - k) := by
        rw [← h2, e2]
        show _ = ch n (k + 1) * (fac k * (k + 1) * fac (n - (k + 1))) * (n - k)
        simp only [Nat.mul_assoc]
      rw [Nat.add_mul, a1, a2, ← Nat.mul_add]
      congr 1
      omega
theorem ch_split {p : Nat} (h : Pr p) {n s : Nat} (hs : s ≤ n) : ∃ u v w : Nat, fac n = p ^ lg p n * u ∧ u % p = cf p n ∧ v % p = cf p s ∧ w % p = cf p (n - s) ∧ ch n s * (v * w) = p ^ (waysO p n s).toNat * u := by
  obtain ⟨u, hu, hu2⟩ := fac_cf h n
  obtain ⟨v, hv, hv2⟩ := fac_cf h s
  obtain ⟨w, hw, hw2⟩ := fac_cf h (n - s)
  refine ⟨u, v, w, hu, hu2, hv2, hw2, ?_⟩
  have h0 := waysO_nonneg h.two hs
  have e := ch_fac n s hs
  rw [hu, hv, hw] at e
  have el : lg p n = lg p s + lg p (n - s) + (waysO p n s).toNat := by
    unfold waysO at h0 ⊢
    omega
  rw [el, Nat.pow_add, Nat.pow_add] at e
  refine Nat.eq_of_mul_eq_mul_left (show 0 < p ^ lg p s * p ^ lg p (n - s) from Nat.mul_pos (Nat.pow_pos (by have := h.two; omega)) (Nat.pow_pos (by have := h.two; omega))) ?_
  calc p ^ lg p s * p ^ lg p (n - s) * (ch n s * (v * w)) = ch n s * (p ^ lg p s * v * (p ^ lg p (n - s) * w)) := by simp only [Nat.mul_assoc, Nat.mul_comm, Nat.mul_left_comm]
    _ = _ := by rw [e]; simp only [Nat.mul_assoc]
theorem ch_free {p : Nat} (h : Pr p) {n s : Nat} (hs : s ≤ n) (h0 : waysO p n s = 0) : ch n s % p = waysC p n s ∧ ch n s % p ≠ 0 := by
  obtain ⟨u, v, w, _, hu, hv, hw, e⟩ := ch_split h hs
  rw [h0] at e
  have e2 : ch n s * (v * w) = u := by
    rw [e]
    show 1 * u = u
    rw [Nat.one_mul]
  have hq : v * w % p = cf p s * cf p (n - s) % p := by rw [Nat.mul_mod, hv, hw]
  have hne : v * w % p ≠ 0 := by
    rw [hq]
    exact h.mul (h.cf' s) (h.cf' (n - s))
  refine ⟨?_, fun z => h.cf n ?_⟩
  · unfold waysC
    rw [← hu, ← e2, ← hq]
    have hi := h.inv hne
    generalize (v * w % p) ^ (p - 2) % p = z at hi
    rw [Nat.mod_mul_mod, Nat.mul_assoc, Nat.mul_mod, hi, Nat.mul_one, Nat.mod_mod]
  · rw [← hu, ← e2, Nat.mul_mod, z, Nat.zero_mul, Nat.zero_mod]
theorem ch_bound {p : Nat} (h : Pr p) {n s : Nat} (hs : s ≤ n) (h0 : waysO p n s ≠ 0) : ch n s % p = 0 := by
  obtain ⟨u, v, w, _, hu, hv, hw, e⟩ := ch_split h hs
  have h1 := waysO_nonneg h.two hs
  obtain ⟨k, hk⟩ : ∃ k, (waysO p n s).toNat = k + 1 := ⟨(waysO p n s).toNat - 1, by omega⟩
  rw [hk, Nat.pow_succ, Nat.mul_comm (p ^ k) p, Nat.mul_assoc] at e
  by_cases hz : ch n s % p = 0
  · exact hz
  · exfalso
    refine h.mul hz (h.mul (a := v) (b := w) ?_ ?_) (by rw [e, Nat.mul_mod_right])
    · rw [hv]; exact h.cf s
    · rw [hw]; exact h.cf (n - s)
theorem ch_mod {p : Nat} (h : Pr p) {n s : Nat} (hs : s ≤ n) : decide (waysO p n s = 0) = decide (0 < ch n s % p) := by
  refine decide_eq_decide.mpr ⟨fun z => by have := (ch_free h hs z).2; omega, fun z => ?_⟩
  by_cases hz : waysO p n s = 0
  · exact hz
  · have := ch_bound h hs hz
    omega
theorem ch_le : ∀ n k, ch n k ≤ 2 ^ n
  | n, 0 => by
    rw [ch_zero]
    exact Nat.pow_pos (by decide)
  | 0, k + 1 => Nat.zero_le _
  | n + 1, k + 1 => by
    show ch n k + ch n (k + 1) ≤ 2 ^ (n + 1)
    have h1 := ch_le n k
    have h2 := ch_le n (k + 1)
    rw [Nat.pow_succ]
    omega
end Cc

/-! More short words: instances and their classes, effects on one known object. -/
namespace Rl
open PySem PySem.Spec PyProof.Rows L2 Evl Cc
/-- a class whose instances' type can be told -/
structure Oc (K : PySem.W.Frag) (C : Addr) : Prop where
  ha : PySem.W.findIn K (.ref C) "__class__" = some (some (.builtin "object.__class__"))
  hn : PySem.W.specialIn K (.builtin "object.__class__") "__get__" = some (some (.builtin "getset_descriptor.__get__"))
  htk : PySem.W.takesIn K (.builtin "object.__class__") = some true
  hm : PySem.W.mroIn K C (.type "object") = some true
section
variable {K : PySem.W.Frag} {σ : L2.St} {H H' : Hp} {ta tb te : TE} {t u : TT} {x y z v : V} {D : Ends} {tu tz : TS} {G : Hp → Prop} {r : R2}
theorem ev_isi {C B dx a : Addr} {fs : List (Str × V)} {b : Bool} (h : Ev te σ H (.ref a)) (ho : H a = some (.ins C dx fs)) (cl : Cls K C) (oc : Oc K C) (hk : PySem.W.kitOne K (.ref C) (.ref B) = some b) : Ev (tCB (rIsi K) (tCons te (tCons (tC (.ref B)) tNil))) σ H (.bl b) :=
  ev_cb (ea_cons h (ea_cons ev_c ea_nil)) (rc_isi (.own B) (fun H1 e => .base (.ins (e _ _ ho) cl oc.ha oc.hn oc.htk oc.hm)) hk)
/-- the first operand a new list -/
theorem ev_opL1 {xs : List V} (ha : EvL ta σ H xs) (hb : Ev tb σ H y) (hr : ∀ p H1, H1 p = some (.lst xs) → Ex H H1 → RV r (.ref p) y H1 z) : Ev (tOp r ta tb) σ H z := fun H1 e Q q =>
  ha H1 e _ fun p H2 _ e2 hp => hb H2 (e.trans e2) _ fun H3 e3 => hr p H3 (e3 p _ hp) ((e.trans e2).trans e3) H3 (Ex.refl H3) Q fun H4 e4 => q H4 ((e2.trans e3).trans e4)
theorem ev_is2 {a b : Nat} {x y : V} {r : R2} {H : Hp} (e : a = b) (h : RV r x y H (.int (a : Int))) : RV r x y H (.int (b : Int)) := by
  rw [← e]
  exact h
theorem er_call {sp : Sp} {E : XK} {tA : TA} {vs : List V} {Pr : Addr → Hp → Prop} (h : EvA tA σ H vs) (hs : ∀ H1, Ex H H1 → ∀ (Q : VK) (E : XK), (∀ R H2, H1 R = none → Ex H1 H2 → Pr R H2 → Q (.ref R) H2) → sp vs H1 Q E) : EvR (tCall sp [] E tA) σ H Pr := fun H1 e Q q =>
  h H1 e _ fun H2 e2 => by
    rw [List.append_nil]
    exact hs H2 (e.trans e2) Q E fun R H3 hR e3 hPr => q R H3 (fresh_back e2 hR) (e2.trans e3) hPr
def RetR (Pr : Addr → Hp → Prop) (H : Hp) (Q : VK) : Prop := ∀ R H2, H R = none → Ex H H2 → Pr R H2 → Q (.ref R) H2
/-! what a walk does besides: told by a property of the heap behind -/
def EvG (te : TE) (σ : L2.St) (H : Hp) (v : V) (G : Hp → Prop) : Prop := ∀ Q : VK, (∀ H1, G H1 → Q v H1) → te σ H Q
def EvTG (t : TT) (σ : L2.St) (H : Hp) (b : Bool) (G : Hp → Prop) : Prop := ∀ Q : Bool → Hp → Prop, (∀ H1, G H1 → Q b H1) → t σ H Q
theorem etg_B {b : Bool} (h : EvG te σ H (.bl b) G) : EvTG (tB te) σ H b G := fun Q q => h _ fun H1 g => ⟨b, rfl, q H1 g⟩
theorem etg_test {b : Bool} (h : EvG te σ H (.bl b) G) : EvTG (tTest te) σ H b G := fun Q q => h _ fun H1 g => ⟨b, rfl, q H1 g⟩
theorem etg_not {a : Bool} (h : EvTG t σ H a G) : EvTG (tNot t) σ H (!a) G := fun Q q => h _ fun H1 g => q H1 g
theorem etg_or {a b : Bool} {G2 : Hp → Prop} (h1 : EvTG t σ H a G) (h2 : a = false → ∀ H1, G H1 → EvTG u σ H1 b G2) (h3 : a = true → ∀ H1, G H1 → G2 H1) : EvTG (tOr t u) σ H (a || b) G2 := fun Q q => h1 _ fun H1 g => by
  cases a with
  | true =>
    show Q true H1
    exact q H1 (h3 rfl H1 g)
  | false =>
    show u σ H1 Q
    exact h2 rfl H1 g Q q
theorem etg_of {b : Bool} (h : EvT t σ H b) (hG : ∀ H1, Ex H H1 → G H1) : EvTG t σ H b G := fun Q q => h H (Ex.refl H) _ fun H1 e => q H1 (hG H1 e)
theorem s_whenG (h : EvTG t σ H false G) (k : ∀ H1, G H1 → D.nx σ H1) : tIfS t tu tNext D σ H := h _ fun H1 g => by
  show tNext D σ H1
  exact k H1 g
theorem q_whenG (h : EvTG t σ H false G) (k : ∀ H1, G H1 → tz D σ H1) : tSeq (tIfS t tu tNext) tz D σ H := s_whenG (D := { D with nx := tz D }) h k
theorem q_asgG {i : Nat} (h : EvG te σ H v G) (k : ∀ H1, G H1 → tz D (σ.set i (some v)) H1) : tSeq (tAsg te (gName i)) tz D σ H := h _ fun H1 g => k H1 g
theorem evg_call {sp : Sp} {E : XK} {tA : TA} {vs : List V} (h : EvA tA σ H vs) (hs : ∀ H1, Ex H H1 → ∀ (Q : VK) (E : XK), (∀ H2, G H2 → Q z H2) → sp vs H1 Q E) : EvG (tCall sp [] E tA) σ H z G := fun Q q =>
  h H (Ex.refl H) _ fun H2 e2 => by
    rw [List.append_nil]
    exact hs H2 e2 Q E q
end
/-! ### answers -/
/-- an answer: of Free what it leaves, of Bound its place -/
def AnsIs (cF cB : Addr) (H : Hp) (R : Addr) (o : Bool × Int) : Prop := ∃ dx, H R = some (bif o.1 then .ins cF dx [("rest", .int o.2)] else .ins cB dx [("place", .int o.2)])
def ansOf (p n s : Nat) : Bool × Int := if waysO p n s = 0 then (true, (waysC p n s : Int)) else (false, (((bpl p n s).getD 0 0 : Nat) : Int))
def dueB (p n s : Nat) (o : Bool × Int) : Bool := bif o.1 then decide (waysO p n s = 0) && decide ((waysC p n s : Int) = o.2) else decide (0 ≤ o.2) && gtp p n s o.2.toNat
theorem AnsIs.mono {cF cB : Addr} {H H' : Hp} {R : Addr} {o : Bool × Int} (h : AnsIs cF cB H R o) (e : Ex H H') : AnsIs cF cB H' R o := by
  obtain ⟨dx, h⟩ := h
  exact ⟨dx, e _ _ h⟩
theorem ans_free {p n s : Nat} (h : waysO p n s = 0) : ansOf p n s = (true, (waysC p n s : Int)) := by
  unfold ansOf
  rw [if_pos h]
theorem ans_bound {p n s : Nat} (h : ¬ waysO p n s = 0) : ansOf p n s = (false, (((bpl p n s).getD 0 0 : Nat) : Int)) := by
  unfold ansOf
  rw [if_neg h]
theorem bpl_some {p n s : Nat} (hp : 2 ≤ p) (hs : s ≤ n) (h : ¬ waysO p n s = 0) : 0 < (bpl p n s).length ∧ gtp p n s ((bpl p n s).getD 0 0) = true := by
  have h1 : ∃ i, gtp p n s i = true := by
    by_cases hz : ∃ i, gtp p n s i = true
    · exact hz
    · exfalso
      refine h ((free_iff hp n s hs).mpr fun i => ?_)
      cases hg : gtp p n s i with
      | false => rfl
      | true => exact absurd ⟨i, hg⟩ hz
  obtain ⟨i, hi⟩ := h1
  have h2 := (mem_bpl hp hs i).mpr hi
  cases hb : bpl p n s with
  | nil =>
    rw [hb] at h2
    cases h2
  | cons a l =>
    refine ⟨Nat.zero_lt_succ _, ?_⟩
    show gtp p n s a = true
    rw [← mem_bpl hp hs, hb]
    exact List.mem_cons_self ..
theorem due_own {p n s : Nat} (hp : 2 ≤ p) (hs : s ≤ n) : dueB p n s (ansOf p n s) = true := by
  by_cases h : waysO p n s = 0
  · rw [ans_free h]
    show (decide (waysO p n s = 0) && decide ((waysC p n s : Int) = (waysC p n s : Int))) = true
    rw [decide_eq_true h, decide_eq_true rfl]
    rfl
  · rw [ans_bound h]
    show (decide (0 ≤ (((bpl p n s).getD 0 0 : Nat) : Int)) && gtp p n s (((bpl p n s).getD 0 0 : Nat) : Int).toNat) = true
    rw [decide_eq_true (by omega), Int.toNat_natCast, (bpl_some hp hs h).2]
    rfl
/-- a row by its ways -/
def rowN (n : Nat) : List Nat := (List.range (n + 1)).map (ch n)
theorem rowN_len (n : Nat) : (rowN n).length = n + 1 := by
  unfold rowN
  rw [List.length_map, List.length_range]
theorem rowN_at {n i : Nat} (h : i ≤ n) : (rowN n)[i]? = some (ch n i) := by
  unfold rowN
  rw [List.getElem?_map, List.getElem?_range (by omega)]
  rfl
theorem rowN_up (n : Nat) : rowN (n + 1) = [1] ++ ((List.range n).map fun i => ch n i + ch n (i + 1)) ++ [1] := by
  unfold rowN
  rw [List.range_succ_eq_map, List.map_cons, List.map_map, List.range_succ, List.map_append]
  have e : (ch (n + 1) ∘ Nat.succ) n = 1 := by
    show ch n n + ch n (n + 1) = 1
    rw [ch_self, ch_over n (n + 1) (by omega)]
  rw [List.map_cons, List.map_nil, e, ch_zero]
  rfl
section
variable {K : PySem.W.Frag} {σ : L2.St} {H : Hp} {t1 t2 t3 t4 : TE}
/-- a list of four new tuples -/
theorem er_lst4 {x1 x2 x3 x4 : List V} (h1 : EvU t1 σ H x1) (h2 : EvU t2 σ H x2) (h3 : EvU t3 σ H x3) (h4 : EvU t4 σ H x4) : EvR (tLst (tCons t1 (tCons t2 (tCons t3 (tCons t4 tNil))))) σ H (fun L H2 => ∃ a1 a2 a3 a4, H2 L = some (.lst [.ref a1, .ref a2, .ref a3, .ref a4]) ∧ H2 a1 = some (.tup x1) ∧ H2 a2 = some (.tup x2) ∧ H2 a3 = some (.tup x3) ∧ H2 a4 = some (.tup x4)) := fun H1 e Q q =>
  h1 H1 e _ fun a1 H2 n1 e2 g1 => h2 H2 (e.trans e2) _ fun a2 H3 n2 e3 g2 => h3 H3 ((e.trans e2).trans e3) _ fun a3 H4 n3 e4 g3 => h4 H4 (((e.trans e2).trans e3).trans e4) _ fun a4 H5 n4 e5 g4 => ⟨sz_of (by show 4 ≤ 100000; decide), fun L hL =>
    q L _ (fresh_back (((e2.trans e3).trans e4).trans e5) hL) ((((e2.trans e3).trans e4).trans e5).trans (Ex.new hL)) ⟨a1, a2, a3, a4, upd_same, Ex.new hL _ _ (e5 _ _ (e4 _ _ (e3 _ _ g1))), Ex.new hL _ _ (e5 _ _ (e4 _ _ g2)), Ex.new hL _ _ (e5 _ _ g3), Ex.new hL _ _ g4⟩⟩
end
theorem ans_fst (p n s : Nat) : (ansOf p n s).1 = decide (waysO p n s = 0) := by
  by_cases h : waysO p n s = 0
  · rw [ans_free h, decide_eq_true h]
  · rw [ans_bound h, decide_eq_false h]
theorem len8 {α : Type} {l : List α} (h : l.length = 8) : ∃ a b c d e f g i, l = [a, b, c, d, e, f, g, i] := by
  match l, h with
  | [a, b, c, d, e, f, g, i], _ => exact ⟨a, b, c, d, e, f, g, i, rfl⟩
theorem len3 {α : Type} {l : List α} (h : l.length = 3) : ∃ a b c, l = [a, b, c] := by
  match l, h with
  | [a, b, c], _ => exact ⟨a, b, c, rfl⟩
end Rl

/-! How often a prime goes into a number, and what is left of it. -/
namespace Cc
open Rl
def vcF (p : Nat) : Nat → Nat → Nat × Nat
  | 0, n => (0, n % p)
  | f + 1, n => if n % p = 0 then ((vcF p f (n / p)).1 + 1, (vcF p f (n / p)).2) else (0, n % p)
def vc (p n : Nat) : Nat × Nat := vcF p n n
theorem vcF_spec {p : Nat} (hp : 2 ≤ p) : ∀ f n, 0 < n → n ≤ f → ∃ m, n = p ^ (vcF p f n).1 * m ∧ m % p ≠ 0 ∧ (vcF p f n).2 = m % p
  | 0, n, h, h2 => by omega
  | f + 1, n, h, h2 => by
    unfold vcF
    by_cases hz : n % p = 0
    · rw [if_pos hz]
      have d := Nat.div_add_mod n p
      have hq : 0 < n / p := by
        rcases Nat.eq_zero_or_pos (n / p) with e | e
        · rw [e] at d
          omega
        · exact e
      have hlt := div_lt hp (show n ≠ 0 by omega)
      obtain ⟨m, h1, h2, h3⟩ := vcF_spec hp f (n / p) hq (by omega)
      refine ⟨m, ?_, h2, h3⟩
      show n = p ^ ((vcF p f (n / p)).1 + 1) * m
      rw [Nat.pow_succ, Nat.mul_comm (p ^ _) p, Nat.mul_assoc, ← h1]
      omega
    · rw [if_neg hz]
      exact ⟨n, by show n = p ^ 0 * n; rw [Nat.pow_zero, Nat.one_mul], hz, rfl⟩
theorem vc_spec {p : Nat} (hp : 2 ≤ p) {n : Nat} (h : 0 < n) : ∃ m, n = p ^ (vc p n).1 * m ∧ m % p ≠ 0 ∧ (vc p n).2 = m % p := vcF_spec hp n n h (Nat.le_refl _)
theorem pow_only {p : Nat} (hp : 2 ≤ p) : ∀ (a b m k : Nat), p ^ a * m = p ^ b * k → m % p ≠ 0 → k % p ≠ 0 → a = b ∧ m = k
  | 0, 0, m, k, h, _, _ => ⟨rfl, by rw [Nat.pow_zero, Nat.one_mul, Nat.one_mul] at h; exact h⟩
  | 0, b + 1, m, k, h, hm, _ => by
    exfalso
    rw [Nat.pow_zero, Nat.one_mul, Nat.pow_succ, Nat.mul_comm (p ^ b) p, Nat.mul_assoc] at h
    rw [h, Nat.mul_mod_right] at hm
    exact hm rfl
  | a + 1, 0, m, k, h, _, hk => by
    exfalso
    rw [Nat.pow_zero, Nat.one_mul, Nat.pow_succ, Nat.mul_comm (p ^ a) p, Nat.mul_assoc] at h
    rw [← h, Nat.mul_mod_right] at hk
    exact hk rfl
  | a + 1, b + 1, m, k, h, hm, hk => by
    rw [Nat.pow_succ, Nat.pow_succ, Nat.mul_comm (p ^ a) p, Nat.mul_comm (p ^ b) p, Nat.mul_assoc, Nat.mul_assoc] at h
    obtain ⟨h1, h2⟩ := pow_only hp a b m k (Nat.eq_of_mul_eq_mul_left (by omega) h) hm hk
    exact ⟨by rw [h1], h2⟩
theorem vc_is {p n a m : Nat} (hp : 2 ≤ p) (h : n = p ^ a * m) (hm : m % p ≠ 0) : vc p n = (a, m % p) := by
  have hn : 0 < n := by
    rcases Nat.eq_zero_or_pos m with e | e
    · rw [e, Nat.zero_mod] at hm
      exact absurd rfl hm
    · rw [h]
      exact Nat.mul_pos (Nat.pow_pos (by omega)) e
  obtain ⟨k, h1, h2, h3⟩ := vc_spec hp hn
  obtain ⟨e1, e2⟩ := pow_only hp _ _ _ _ (h1.symm.trans h) h2 hm
  rw [← e1, ← e2, ← h3]
theorem vc_lt {p n : Nat} (hp : 2 ≤ p) (h : 0 < n) : (vc p n).2 < p := by
  obtain ⟨m, _, _, h3⟩ := vc_spec hp h
  rw [h3]
  exact Nat.mod_lt _ (by omega)
theorem vc_up {p n : Nat} (hp : 2 ≤ p) (h : 0 < n) (hz : n % p = 0) : vc p n = ((vc p (n / p)).1 + 1, (vc p (n / p)).2) ∧ 0 < n / p := by
  have d := Nat.div_add_mod n p
  have hq : 0 < n / p := by
    rcases Nat.eq_zero_or_pos (n / p) with e | e
    · rw [e] at d
      omega
    · exact e
  obtain ⟨m, h1, h2, h3⟩ := vc_spec hp hq
  refine ⟨?_, hq⟩
  rw [h3]
  refine vc_is hp ?_ h2
  rw [Nat.pow_succ, Nat.mul_comm (p ^ _) p, Nat.mul_assoc, ← h1]
  omega
theorem vc_end {p n : Nat} (hp : 2 ≤ p) (hz : n % p ≠ 0) : vc p n = (0, n % p) := vc_is hp (by rw [Nat.pow_zero, Nat.one_mul]) hz
/-- one number more -/
theorem cf_one {p n : Nat} (h : Pr p) (hn : 0 < n) : lg p n = (vc p n).1 + lg p (n - 1) ∧ cf p n = cf p (n - 1) * (vc p n).2 % p := by
  obtain ⟨u, h1, h2⟩ := fac_cf h n
  obtain ⟨u', h3, h4⟩ := fac_cf h (n - 1)
  obtain ⟨m, h5, h6, h7⟩ := vc_spec h.two hn
  have e : fac n = fac (n - 1) * n := by
    obtain ⟨k, rfl⟩ : ∃ k, n = k + 1 := ⟨n - 1, by omega⟩
    rfl
  have hu : u % p ≠ 0 := by rw [h2]; exact h.cf n
  have hu' : u' % p ≠ 0 := by rw [h4]; exact h.cf (n - 1)
  have e2 : p ^ lg p n * u = p ^ ((vc p n).1 + lg p (n - 1)) * (u' * m) := by
    have e3 : fac (n - 1) * n = (p ^ lg p (n - 1) * u') * (p ^ (vc p n).1 * m) := by rw [← h5, ← h3]
    rw [← h1, e, e3, Nat.pow_add]
    simp only [Nat.mul_assoc, Nat.mul_comm, Nat.mul_left_comm]
  obtain ⟨a1, a2⟩ := pow_only h.two _ _ _ _ e2 hu (h.mul hu' h6)
  refine ⟨a1, ?_⟩
  rw [← h2, a2, Nat.mul_mod, h4, h7]
theorem fac_vc {p : Nat} (h : Pr p) (n : Nat) : vc p (fac n) = (lg p n, cf p n) := by
  obtain ⟨u, h1, h2⟩ := fac_cf h n
  rw [← h2]
  exact vc_is h.two h1 (by rw [h2]; exact h.cf n)
/-- what the ways' core is -/
theorem waysC_mul {p n s : Nat} (h : Pr p) : waysC p n s * (cf p s * cf p (n - s)) % p = cf p n := by
  unfold waysC
  have hne : cf p s * cf p (n - s) % p ≠ 0 := h.mul (h.cf' s) (h.cf' (n - s))
  have hi := h.inv hne
  generalize (cf p s * cf p (n - s) % p) ^ (p - 2) % p = z at hi
  rw [Nat.mod_mul_mod, Nat.mul_assoc, Nat.mul_comm z, Nat.mul_mod, hi, Nat.mul_one, Nat.mod_mod, Nat.mod_eq_of_lt (cf_lt h.two n)]
theorem waysC_lt {p n s : Nat} (hp : 2 ≤ p) : waysC p n s < p := Nat.mod_lt _ (by omega)
/-- to divide by what p doesn't go into -/
theorem Pr.cancel {p a b c : Nat} (h : Pr p) (hc : c % p ≠ 0) (e : a * c % p = b * c % p) : a % p = b % p := by
  have hi := h.inv hc
  generalize (c % p) ^ (p - 2) % p = z at hi
  have e1 : a * c * z % p = b * c * z % p := mm e rfl
  rw [Nat.mul_assoc, Nat.mul_assoc, Nat.mul_mod, hi, Nat.mul_one, Nat.mod_mod, Nat.mul_mod b, hi, Nat.mul_one, Nat.mod_mod] at e1
  exact e1
theorem ways_sym {p n s : Nat} (hs : s ≤ n) : waysO p n (n - s) = waysO p n s ∧ waysC p n (n - s) = waysC p n s := by
  have e : n - (n - s) = s := by omega
  unfold waysO waysC
  rw [e, Nat.mul_comm (cf p (n - s))]
  exact ⟨by omega, rfl⟩
theorem ways_self {p n : Nat} (h : Pr p) : waysO p n n = 0 ∧ waysC p n n = 1 := by
  constructor
  · unfold waysO
    rw [Nat.sub_self, lg_zero]
    omega
  · have e := waysC_mul (n := n) (s := n) h
    rw [Nat.sub_self, cf_zero h.two, Nat.mul_one] at e
    have e2 := h.cancel (a := waysC p n n) (b := 1) (h.cf' n) (by rw [e, Nat.one_mul, Nat.mod_eq_of_lt (cf_lt h.two n)])
    rw [Nat.mod_eq_of_lt (waysC_lt h.two), Nat.mod_eq_of_lt (by have := h.two; omega)] at e2
    exact e2
theorem ways_fewer {p n s : Nat} (h : Pr p) (h0 : 0 < s) (hs : s ≤ n) : waysO p n s + ((vc p s).1 : Int) = waysO p (n - 1) (s - 1) + ((vc p n).1 : Int) ∧ waysC p n s * (vc p s).2 % p = waysC p (n - 1) (s - 1) * (vc p n).2 % p := by
  obtain ⟨l1, c1⟩ := cf_one h (n := n) (by omega)
  obtain ⟨l2, c2⟩ := cf_one h h0
  have e : n - 1 - (s - 1) = n - s := by omega
  constructor
  · unfold waysO
    rw [e]
    omega
  · refine h.cancel (c := cf p (s - 1) * cf p (n - s)) (h.mul (h.cf' _) (h.cf' _)) ?_
    have a1 := waysC_mul (n := n) (s := s) h
    have a2 := waysC_mul (n := n - 1) (s := s - 1) h
    rw [e] at a2
    have b1 : waysC p n s * (vc p s).2 * (cf p (s - 1) * cf p (n - s)) % p = cf p n := by
      rw [← a1, c2]
      have z : waysC p n s * (vc p s).2 * (cf p (s - 1) * cf p (n - s)) = waysC p n s * ((cf p (s - 1) * (vc p s).2) * cf p (n - s)) := by simp only [Nat.mul_assoc, Nat.mul_comm, Nat.mul_left_comm]
      rw [z]
      exact mm rfl (by rw [Nat.mod_mul_mod])
    have b2 : waysC p (n - 1) (s - 1) * (vc p n).2 * (cf p (s - 1) * cf p (n - s)) % p = cf p n := by
      rw [c1, ← a2]
      have z : waysC p (n - 1) (s - 1) * (vc p n).2 * (cf p (s - 1) * cf p (n - s)) = waysC p (n - 1) (s - 1) * (cf p (s - 1) * cf p (n - s)) * (vc p n).2 := by simp only [Nat.mul_assoc, Nat.mul_comm, Nat.mul_left_comm]
      rw [z, Nat.mod_mul_mod]
    rw [b1, b2]
theorem ch_pos : ∀ n k, k ≤ n → 0 < ch n k
  | n, 0, _ => by rw [ch_zero]; exact Nat.one_pos
  | 0, k + 1, h => by omega
  | n + 1, k + 1, h => by
    show 0 < ch n k + ch n (k + 1)
    have := ch_pos n k (by omega)
    omega
theorem ch_vc {p n s : Nat} (h : Pr p) (hs : s ≤ n) : ((vc p (ch n s)).1 : Int) = waysO p n s ∧ (vc p (ch n s)).2 = waysC p n s := by
  obtain ⟨u, v, w, _, hu, hv, hw, e⟩ := ch_split h hs
  have h0 := waysO_nonneg h.two hs
  obtain ⟨y, h1, h2, h3⟩ := vc_spec h.two (ch_pos n s hs)
  have hvw : v * w % p ≠ 0 := h.mul (by rw [hv]; exact h.cf s) (by rw [hw]; exact h.cf (n - s))
  have e2 : p ^ (vc p (ch n s)).1 * (y * (v * w)) = p ^ (waysO p n s).toNat * u := by
    rw [← e, ← Nat.mul_assoc, ← h1]
  obtain ⟨a1, a2⟩ := pow_only h.two _ _ _ _ e2 (h.mul h2 hvw) (by rw [hu]; exact h.cf n)
  refine ⟨by omega, ?_⟩
  have a3 := waysC_mul (n := n) (s := s) h
  have e3 : y * (v * w) % p = waysC p n s * (v * w) % p := by
    rw [a2, hu, ← a3]
    exact mm rfl (by rw [← hv, ← hw, ← Nat.mul_mod])
  have e4 := h.cancel hvw e3
  rw [h3, e4, Nat.mod_eq_of_lt (waysC_lt h.two)]
end Cc

/-! Short words for lists that are compared, for values told by a property. -/
namespace Rl
open PySem PySem.Spec PyProof.Rows L2 Evl Cc
section
variable {K : PySem.W.Frag} {σ : L2.St} {H H' : Hp} {ta tb te : TE} {t u : TT} {x y z v : V} {D : Ends} {tu tz : TS} {G : Hp → Prop} {r : R2}
/-- a list of numbers, as data -/
def ldat (l : List Nat) : PyData := .list ((l.map fun n : Nat => (n : Int)).map PyData.int)
theorem ldat_shaped (l : List Nat) : SeqAt.shaped (ldat l) = true := PySem.W.shaped_ints _
theorem ints_refl : ∀ l : List Int, PyData.eqvAll (l.map PyData.int) (l.map PyData.int) = true
  | [] => rfl
  | a :: l => by
    show ((a == a) && PyData.eqvAll (l.map PyData.int) (l.map PyData.int)) = true
    rw [ints_refl l, Bool.and_true]
    exact beq_self_eq_true a
theorem ldat_refl (l : List Nat) : PyData.eqv (ldat l) (ldat l) = true := ints_refl _
theorem dpa_ints : ∀ l : List Int, DpAll K H (l.map V.int) (l.map PyData.int)
  | [] => .nil
  | a :: l => .cons (.int a) (dpa_ints l)
theorem dp_nl {q : Addr} {l : List Nat} (h : H q = some (.lst (nl l))) : ∀ H1, Ex H H1 → Dp K H1 (.ref q) (ldat l) := fun H1 e => .lst (sq_of (e _ _ h)) (by
  have z := dpa_ints (K := K) (H := H1) (l.map fun n : Nat => (n : Int))
  rw [List.map_map] at z
  exact z)
/-- an argument told by a property -/
theorem ev_callX {sp : Sp} {E : XK} {Pr : V → Prop} (hx : EvX ta σ H Pr) (hb : Ev tb σ H y) (hs : ∀ v, Pr v → SpV sp [v, y] H z) : Ev (tCall sp [] E (tCons ta (tCons tb tNil))) σ H z := fun H1 e Q q =>
  hx H1 e _ fun v H2 hv e2 => hb H2 (e.trans e2) _ fun H3 e3 => by
    show sp ([v, y] ++ []) H3 Q E
    rw [List.append_nil]
    exact hs v hv H3 ((e.trans e2).trans e3) Q (fun H4 e4 => q H4 ((e2.trans e3).trans e4)) E
def min1 (n : Nat) : Nat := if 1 < n then 1 else n
theorem min1_le (n : Nat) : min1 n ≤ n := by
  unfold min1
  split <;> omega
theorem min1_int (n : Nat) : V.int (if (1 : Int) < ((n : Nat) : Int) then 1 else ((n : Nat) : Int)) = V.int ((min1 n : Nat) : Int) := by
  unfold min1
  congr 1
  split <;> split <;> omega
theorem len7 {α : Type} {l : List α} (h : l.length = 7) : ∃ a b c d e f g, l = [a, b, c, d, e, f, g] := by
  match l, h with
  | [a, b, c, d, e, f, g], _ => exact ⟨a, b, c, d, e, f, g, rfl⟩
theorem fac_small : ∀ i, i < 26 → fac i < 2 ^ 100 := by decide
theorem fac_pos : ∀ i, 0 < fac i
  | 0 => Nat.one_pos
  | i + 1 => Nat.mul_pos (fac_pos i) (Nat.succ_pos i)
theorem q_parUU {i j : Nat} {xs ys : List V} (ha : EvU ta σ H xs) (hb : EvU tb σ H ys) (k : ∀ p q H1, Ex H H1 → H1 p = some (.tup xs) → H1 q = some (.tup ys) → tz D ((σ.set i (some (.ref p))).set j (some (.ref q))) H1) : tSeq (tPar i j (tCons ta (tCons tb tNil))) tz D σ H :=
  ha H (Ex.refl H) _ fun p H1 _ e1 h1 => hb H1 e1 _ fun q H2 _ e2 h2 => ⟨.ref p, .ref q, rfl, k p q H2 (e1.trans e2) (e2 _ _ h1) h2⟩
theorem q_parUV {i j : Nat} {xs : List V} (ha : EvU ta σ H xs) (hb : Ev tb σ H y) (k : ∀ p H1, Ex H H1 → H1 p = some (.tup xs) → tz D ((σ.set i (some (.ref p))).set j (some y)) H1) : tSeq (tPar i j (tCons ta (tCons tb tNil))) tz D σ H :=
  ha H (Ex.refl H) _ fun p H1 _ e1 h1 => hb H1 e1 _ fun H2 e2 => ⟨.ref p, y, rfl, k p H2 (e1.trans e2) (e2 _ _ h1)⟩
end
end Rl

/-! Rows: places by their numbers, and back; the most. -/
namespace Cc
open Rl
/-! ### figures of mixed bases -/
def wsum : List Nat → List Nat → Nat
  | b :: r, d :: ds => d + b * wsum r ds
  | _, _ => 0
theorem wsum_mix : ∀ (r : List Nat) (j : Nat), r ≠ [] → wsum r (mix r j) = j
  | [], _, h => absurd rfl h
  | [b], j, _ => by
    show j + b * 0 = j
    omega
  | b :: c :: r, j, _ => by
    show j % b + b * wsum (c :: r) (mix (c :: r) (j / b)) = j
    rw [wsum_mix (c :: r) (j / b) (by simp)]
    exact Nat.mod_add_div j b
/-- parts joined, two by two -/
def joinUp : List Nat → List Nat → List Nat
  | a :: _ :: r, d :: e :: ds => (d + e * a) :: joinUp r ds
  | _, ds => ds
theorem wsum_join : ∀ (r ds : List Nat), r.length = ds.length → wsum (pairUp r) (joinUp r ds) = wsum r ds
  | [], [], _ => rfl
  | [a], [d], _ => rfl
  | a :: b :: r, [d], h => by simp at h
  | a :: b :: r, d :: e :: ds, h => by
    have ih := wsum_join r ds (by simpa using h)
    show d + e * a + a * b * wsum (pairUp r) (joinUp r ds) = d + a * (e + b * wsum r ds)
    rw [ih, Nat.mul_add, Nat.mul_assoc, Nat.mul_comm e a]
    omega
theorem joinUp_len : ∀ (r ds : List Nat), r.length = ds.length → (joinUp r ds).length = (pairUp r).length
  | [], [], _ => rfl
  | [a], [d], _ => rfl
  | a :: b :: r, [d], h => by simp at h
  | a :: b :: r, d :: e :: ds, h => by
    show (joinUp r ds).length + 1 = (pairUp r).length + 1
    rw [joinUp_len r ds (by simpa using h)]
theorem joinUp_eq : ∀ (r ds : List Nat), r.length = ds.length → joinUp r ds = ((List.range (r.length / 2)).map fun i => ds.getD (2 * i) 0 + ds.getD (2 * i + 1) 0 * r.getD (2 * i) 0) ++ ds.drop (r.length / 2 * 2)
  | [], [], _ => rfl
  | [a], [d], _ => by
    have e : [a].length / 2 = 0 := by simp
    rw [e]
    rfl
  | a :: b :: r, [d], h => by simp at h
  | a :: b :: r, d :: e :: ds, h => by
    have ih := joinUp_eq r ds (by simpa using h)
    have e1 : (a :: b :: r).length / 2 = r.length / 2 + 1 := by
      simp only [List.length_cons]
      omega
    rw [e1, List.range_succ_eq_map, List.map_cons, List.map_map]
    show (d + e * a) :: joinUp r ds = (d + e * a) :: _ ++ _
    rw [ih, Nat.add_mul]
    show _ = (d + e * a) :: ((List.range (r.length / 2)).map _ ++ (d :: e :: ds).drop (r.length / 2 * 2 + 2))
    congr 2
theorem mix_lt : ∀ (r : List Nat) (j : Nat), (∀ d ∈ r, 0 < d) → j < prodL r → ∀ (i f b : Nat), (mix r j)[i]? = some f → r[i]? = some b → f < b
  | [], j, _, _, i, f, b, _, h => by simp at h
  | [c], j, hp, hj, i, f, b, h1, h2 => by
    match i, h1, h2 with
    | 0, h1, h2 =>
      cases h1
      cases h2
      have : prodL [c] = c := Nat.mul_one c
      omega
    | i + 1, h1, h2 => simp at h2
  | c :: e :: r, j, hp, hj, i, f, b, h1, h2 => by
    match i, h1, h2 with
    | 0, h1, h2 =>
      cases h1
      cases h2
      exact Nat.mod_lt _ (hp _ (List.mem_cons_self ..))
    | i + 1, h1, h2 =>
      refine mix_lt (e :: r) (j / c) (fun d hd => hp d (List.mem_cons_of_mem _ hd)) ?_ i f b h1 (by simpa using h2)
      exact Nat.div_lt_of_lt_mul hj
theorem mix_len' {r : List Nat} (h : r ≠ []) (j : Nat) : (mix r j).length = r.length := by
  rw [mix_len]
  have := List.length_pos_iff.mpr h
  omega
theorem wsum_lt : ∀ (r ds : List Nat), r.length = ds.length → (∀ (i f b : Nat), ds[i]? = some f → r[i]? = some b → f < b) → wsum r ds < prodL r
  | [], [], _, _ => Nat.one_pos
  | b :: r, d :: ds, h, hl => by
    have ih := wsum_lt r ds (by simpa using h) fun i f c h1 h2 => hl (i + 1) f c (by simpa using h1) (by simpa using h2)
    have h0 := hl 0 d b rfl rfl
    show d + b * wsum r ds < b * prodL r
    have : b * (wsum r ds + 1) ≤ b * prodL r := Nat.mul_le_mul_left _ ih
    rw [Nat.mul_add, Nat.mul_one] at this
    omega
theorem mix_wsum : ∀ (r ds : List Nat), r ≠ [] → r.length = ds.length → (∀ (i f b : Nat), ds[i]? = some f → r[i]? = some b → f < b) → mix r (wsum r ds) = ds
  | [], _, h, _, _ => absurd rfl h
  | [b], [d], _, _, _ => by
    show [d + b * 0] = [d]
    rw [Nat.mul_zero, Nat.add_zero]
  | b :: c :: r, d :: ds, _, h, hl => by
    have ih := mix_wsum (c :: r) ds (by simp) (by simpa using h) fun i f x h1 h2 => hl (i + 1) f x (by simpa using h1) (by simpa using h2)
    have h0 := hl 0 d b rfl rfl
    show (d + b * wsum (c :: r) ds) % b :: mix (c :: r) ((d + b * wsum (c :: r) ds) / b) = d :: ds
    rw [Nat.add_mul_mod_self_left, Nat.mod_eq_of_lt h0, Nat.add_mul_div_left _ _ (by omega), Nat.div_eq_of_lt h0, Nat.zero_add, ih]
theorem wsum_rep (p : Nat) : ∀ ds : List Nat, wsum (List.replicate ds.length p) ds = worth p ds
  | [] => rfl
  | d :: ds => by
    show d + p * wsum (List.replicate ds.length p) ds = worth p ds * p + d
    rw [wsum_rep p ds, Nat.mul_comm]
    omega
/-- who counts on in mixed bases, none above p, rises -/
theorem worth_mono {p : Nat} : ∀ (r : List Nat) (i j : Nat), (∀ b ∈ r, 0 < b ∧ b ≤ p) → i < j → worth p (mix r i) < worth p (mix r j)
  | [], i, j, _, h => by
    show 0 * p + i < 0 * p + j
    omega
  | [b], i, j, _, h => by
    show 0 * p + i < 0 * p + j
    omega
  | b :: c :: r, i, j, hb, h => by
    show worth p (mix (c :: r) (i / b)) * p + i % b < worth p (mix (c :: r) (j / b)) * p + j % b
    obtain ⟨hb0, hbp⟩ := hb b (List.mem_cons_self ..)
    have hd : i / b ≤ j / b := Nat.div_le_div_right (by omega)
    have hi := Nat.mod_lt i hb0
    have hj := Nat.mod_lt j hb0
    rcases Nat.lt_or_eq_of_le hd with h1 | h1
    · have ih := worth_mono (c :: r) (i / b) (j / b) (fun x hx => hb x (List.mem_cons_of_mem _ hx)) h1
      have : (worth p (mix (c :: r) (i / b)) + 1) * p ≤ worth p (mix (c :: r) (j / b)) * p := Nat.mul_le_mul_right _ ih
      rw [Nat.add_mul, Nat.one_mul] at this
      omega
    · rw [h1]
      have e1 := Nat.div_add_mod i b
      have e2 := Nat.div_add_mod j b
      rw [h1] at e1
      omega
/-- the figure at a place of a number told by figures below p -/
theorem worth_at {p : Nat} (hp : 2 ≤ p) : ∀ (ds : List Nat) (i : Nat), (∀ d ∈ ds, d < p) → worth p ds / p ^ i % p = ds.getD i 0
  | [], i, _ => by
    show 0 / p ^ i % p = 0
    rw [Nat.zero_div, Nat.zero_mod]
  | d :: ds, i, h => by
    have h0 := h d (List.mem_cons_self ..)
    cases i with
    | zero =>
      show (worth p ds * p + d) / p ^ 0 % p = d
      rw [Nat.pow_zero, Nat.div_one, Nat.add_comm, Nat.add_mul_mod_self_right, Nat.mod_eq_of_lt h0]
    | succ i =>
      have ih := worth_at hp ds i fun x hx => h x (List.mem_cons_of_mem _ hx)
      show (worth p ds * p + d) / p ^ (i + 1) % p = ds.getD i 0
      rw [Nat.pow_succ, Nat.mul_comm (p ^ i) p, ← Nat.div_div_eq_div_mul, Nat.add_comm, Nat.add_mul_div_right _ _ (by omega), Nat.div_eq_of_lt h0, Nat.zero_add, ih]

/-! ### the free places of a row -/
/-- how many may stand at each place -/
def choice (p n : Nat) : List Nat := if dig p n = [] then [1] else (dig p n).map (· + 1)
def cnt (p n : Nat) : Nat := prodL (choice p n)
def place (p n j : Nat) : Nat := worth p (mix (choice p n) j)
def pad (p n s : Nat) : List Nat := dig p s ++ List.replicate ((choice p n).length - (dig p s).length) 0
def numb (p n s : Nat) : Nat := wsum (choice p n) (pad p n s)
theorem choice_ne (p n : Nat) : choice p n ≠ [] := by
  unfold choice
  split
  · simp
  · rename_i h
    intro z
    exact h (List.map_eq_nil_iff.mp z)
theorem choice_pos (p n : Nat) : ∀ b ∈ choice p n, 0 < b := by
  unfold choice
  split
  · intro b hb
    simp at hb
    omega
  · intro b hb
    obtain ⟨d, _, rfl⟩ := List.mem_map.mp hb
    exact Nat.succ_pos d
theorem choice_le {p : Nat} (hp : 2 ≤ p) (n : Nat) : ∀ b ∈ choice p n, 0 < b ∧ b ≤ p := by
  intro b hb
  refine ⟨choice_pos p n b hb, ?_⟩
  unfold choice at hb
  split at hb
  · simp at hb
    omega
  · obtain ⟨d, hd, rfl⟩ := List.mem_map.mp hb
    exact dig_lt hp n d hd
theorem choice_at {p n i b : Nat} (hp : 2 ≤ p) (h : (choice p n)[i]? = some b) : b = n / p ^ i % p + 1 := by
  rw [← dig_getD hp]
  unfold choice at h
  split at h
  · rename_i hz
    rw [hz]
    match i, h with
    | 0, h =>
      cases h
      rfl
    | i + 1, h => simp at h
  · rw [List.getElem?_map] at h
    cases e : (dig p n)[i]? with
    | none =>
      rw [e] at h
      cases h
    | some d =>
      rw [e] at h
      cases h
      rw [List.getD_eq_getElem?_getD, e]
      rfl
theorem choice_len (p n : Nat) : (dig p n).length ≤ (choice p n).length ∧ (choice p n).length ≤ (dig p n).length + 1 := by
  unfold choice
  split
  · rename_i h
    rw [h]
    exact ⟨Nat.zero_le _, Nat.le_refl _⟩
  · rw [List.length_map]
    exact ⟨Nat.le_refl _, Nat.le_succ _⟩
theorem cnt_pos (p n : Nat) : 0 < cnt p n := prodL_pos _ (choice_pos p n)
theorem mix_place {p n j : Nat} (hp : 2 ≤ p) (hj : j < cnt p n) : ∀ (i f : Nat), (mix (choice p n) j)[i]? = some f → f ≤ n / p ^ i % p := by
  intro i f h
  have hi : i < (choice p n).length := by
    have := (List.getElem?_eq_some_iff.mp h).1
    rw [mix_len' (choice_ne p n)] at this
    exact this
  have h2 := mix_lt (choice p n) j (choice_pos p n) hj i f _ h (List.getElem?_eq_getElem hi)
  have h3 := choice_at hp (List.getElem?_eq_getElem hi)
  omega
theorem mix_below {p n j : Nat} (hp : 2 ≤ p) (hj : j < cnt p n) : ∀ f ∈ mix (choice p n) j, f < p := by
  intro f hf
  obtain ⟨i, hi⟩ := List.mem_iff_getElem?.mp hf
  have h1 := mix_place hp hj i f hi
  have := Nat.mod_lt (n / p ^ i) (show 0 < p by omega)
  omega
theorem place_at {p n j : Nat} (hp : 2 ≤ p) (hj : j < cnt p n) (i : Nat) : place p n j / p ^ i % p = (mix (choice p n) j).getD i 0 := worth_at hp _ i (mix_below hp hj)
theorem place_figs {p n j : Nat} (hp : 2 ≤ p) (hj : j < cnt p n) (i : Nat) : place p n j / p ^ i % p ≤ n / p ^ i % p := by
  rw [place_at hp hj, List.getD_eq_getElem?_getD]
  cases e : (mix (choice p n) j)[i]? with
  | none => exact Nat.zero_le _
  | some f => exact mix_place hp hj i f e
theorem figs_le {p : Nat} (hp : 2 ≤ p) : ∀ n s, (∀ i, s / p ^ i % p ≤ n / p ^ i % p) → s ≤ n := by
  refine dig_ind hp ?_ ?_
  · intro s h
    have key : ∀ s, (∀ i, s / p ^ i % p ≤ 0 / p ^ i % p) → s ≤ 0 := dig_ind hp (fun _ => Nat.le_refl _) fun s hs ih h => by
      have h1 : s / p ≤ 0 := ih fun i => by
        have := h (i + 1)
        rw [Nat.pow_succ, Nat.mul_comm (p ^ i) p, ← Nat.div_div_eq_div_mul, ← Nat.div_div_eq_div_mul, Nat.zero_div] at this
        exact this
      have h2 := h 0
      rw [Nat.pow_zero, Nat.div_one, Nat.div_one, Nat.zero_mod] at h2
      have h3 := Nat.div_add_mod s p
      have h4 : s / p = 0 := Nat.le_zero.mp h1
      rw [h4] at h3
      omega
    exact key s h
  · intro n hn ih s h
    have h1 : s / p ≤ n / p := ih (s / p) fun i => by
      have := h (i + 1)
      rw [Nat.pow_succ, Nat.mul_comm (p ^ i) p, ← Nat.div_div_eq_div_mul, ← Nat.div_div_eq_div_mul] at this
      exact this
    have h2 := h 0
    rw [Nat.pow_zero, Nat.div_one, Nat.div_one] at h2
    have h3 := Nat.div_add_mod s p
    have h4 := Nat.div_add_mod n p
    have h5 : p * (s / p) ≤ p * (n / p) := Nat.mul_le_mul_left _ h1
    omega
theorem free_figs {p n s : Nat} (hp : 2 ≤ p) (hs : s ≤ n) : waysO p n s = 0 ↔ ∀ i, s / p ^ i % p ≤ n / p ^ i % p := by
  rw [free_iff hp n s hs]
  refine ⟨fun h i => ?_, fun h i => ?_⟩
  · have hg := h i
    unfold gtp at hg
    rw [Bool.and_eq_false_iff, decide_eq_false_iff_not, decide_eq_false_iff_not] at hg
    rcases hg with hg | hg
    · have : s / p ^ i = 0 := Nat.div_eq_of_lt (by omega)
      rw [this, Nat.zero_mod]
      exact Nat.zero_le _
    · omega
  · unfold gtp
    rw [Bool.and_eq_false_iff, decide_eq_false_iff_not, decide_eq_false_iff_not]
    right
    have := h i
    omega
theorem place_le {p n j : Nat} (hp : 2 ≤ p) (hj : j < cnt p n) : place p n j ≤ n := figs_le hp n _ (place_figs hp hj)
theorem place_free {p n j : Nat} (hp : 2 ≤ p) (hj : j < cnt p n) : waysO p n (place p n j) = 0 := (free_figs hp (place_le hp hj)).mpr (place_figs hp hj)
theorem place_mono {p n i j : Nat} (hp : 2 ≤ p) (h : i < j) : place p n i < place p n j := worth_mono _ _ _ (choice_le hp n) h
theorem pad_len {p n s : Nat} (hp : 2 ≤ p) (hs : s ≤ n) : (pad p n s).length = (choice p n).length := by
  unfold pad
  rw [List.length_append, List.length_replicate]
  have h1 := dig_len_mono hp hs
  have h2 := (choice_len p n).1
  omega
theorem pad_getD {p n s : Nat} (hp : 2 ≤ p) (i : Nat) : (pad p n s).getD i 0 = s / p ^ i % p := by
  rw [← dig_getD hp]
  unfold pad
  rw [List.getD_eq_getElem?_getD, List.getD_eq_getElem?_getD]
  by_cases h : i < (dig p s).length
  · rw [List.getElem?_append_left h]
  · rw [List.getElem?_append_right (by omega), List.getElem?_eq_none (l := dig p s) (by omega)]
    cases e : (List.replicate ((choice p n).length - (dig p s).length) 0)[i - (dig p s).length]? with
    | none => rfl
    | some x => exact List.eq_of_mem_replicate (List.mem_of_getElem? e)
theorem list_ext_getD {l m : List Nat} (hl : l.length = m.length) (h : ∀ i, l.getD i 0 = m.getD i 0) : l = m := by
  refine List.ext_getElem hl fun i h1 h2 => ?_
  have := h i
  rw [List.getD_eq_getElem?_getD, List.getD_eq_getElem?_getD, List.getElem?_eq_getElem h1, List.getElem?_eq_getElem h2] at this
  exact this
theorem pad_lt {p n s : Nat} (hp : 2 ≤ p) (hs : s ≤ n) (h0 : waysO p n s = 0) : ∀ (i f b : Nat), (pad p n s)[i]? = some f → (choice p n)[i]? = some b → f < b := by
  intro i f b h1 h2
  have e1 := pad_getD (n := n) (s := s) hp i
  rw [List.getD_eq_getElem?_getD, h1] at e1
  have e2 := choice_at hp h2
  have e3 := (free_figs hp hs).mp h0 i
  have e4 : f = s / p ^ i % p := e1
  omega
theorem numb_lt {p n s : Nat} (hp : 2 ≤ p) (hs : s ≤ n) (h0 : waysO p n s = 0) : numb p n s < cnt p n := wsum_lt _ _ (pad_len hp hs).symm (pad_lt hp hs h0)
theorem numb_place {p n j : Nat} (hp : 2 ≤ p) (hj : j < cnt p n) : numb p n (place p n j) = j := by
  have e : pad p n (place p n j) = mix (choice p n) j := by
    refine list_ext_getD ?_ fun i => ?_
    · rw [pad_len hp (place_le hp hj), mix_len' (choice_ne p n)]
    · rw [pad_getD hp, place_at hp hj]
  unfold numb
  rw [e, wsum_mix _ _ (choice_ne p n)]
theorem worth_pad {p n s : Nat} (hp : 2 ≤ p) : worth p (pad p n s) = s := by
  have key : ∀ (ds : List Nat) (k : Nat), worth p (ds ++ List.replicate k 0) = worth p ds := by
    intro ds
    induction ds with
    | nil =>
      intro k
      induction k with
      | zero => rfl
      | succ k ih =>
        show worth p (List.replicate k 0) * p + 0 = 0
        have : worth p (List.replicate k 0) = 0 := ih
        rw [this, Nat.zero_mul]
    | cons d ds ih =>
      intro k
      show worth p (ds ++ List.replicate k 0) * p + d = worth p ds * p + d
      rw [ih k]
  unfold pad
  rw [key, worth_dig hp]
theorem place_numb {p n s : Nat} (hp : 2 ≤ p) (hs : s ≤ n) (h0 : waysO p n s = 0) : place p n (numb p n s) = s := by
  unfold place numb
  rw [mix_wsum _ _ (choice_ne p n) (pad_len hp hs).symm (pad_lt hp hs h0), worth_pad hp]
/-- two rising lists with the same members -/
theorem rising_eq : ∀ (l m : List Nat), l.Pairwise (· < ·) → m.Pairwise (· < ·) → (∀ x, x ∈ l ↔ x ∈ m) → l = m
  | [], [], _, _, _ => rfl
  | [], b :: m, _, _, h => by
    have := (h b).mpr (List.mem_cons_self ..)
    simp at this
  | a :: l, [], _, _, h => by
    have := (h a).mp (List.mem_cons_self ..)
    simp at this
  | a :: l, b :: m, hl, hm, h => by
    obtain ⟨hl1, hl2⟩ := List.pairwise_cons.mp hl
    obtain ⟨hm1, hm2⟩ := List.pairwise_cons.mp hm
    have hab : a = b := by
      rcases List.mem_cons.mp ((h a).mp (List.mem_cons_self ..)) with e | e
      · exact e
      · rcases List.mem_cons.mp ((h b).mpr (List.mem_cons_self ..)) with e2 | e2
        · exact e2.symm
        · have h1 := hl1 b e2
          have h2 := hm1 a e
          omega
    subst hab
    refine congrArg (a :: ·) (rising_eq l m hl2 hm2 fun x => ⟨fun hx => ?_, fun hx => ?_⟩)
    · rcases List.mem_cons.mp ((h x).mp (List.mem_cons_of_mem _ hx)) with e | e
      · have := hl1 x hx
        omega
      · exact e
    · rcases List.mem_cons.mp ((h x).mpr (List.mem_cons_of_mem _ hx)) with e | e
      · have := hm1 x hx
        omega
      · exact e
theorem places_all {p n : Nat} (hp : 2 ≤ p) : (List.range (cnt p n)).map (place p n) = (List.range (n + 1)).filter fun s => decide (waysO p n s = 0) := by
  refine rising_eq _ _ ?_ ?_ fun x => ?_
  · rw [List.pairwise_map]
    exact List.pairwise_lt_range.imp fun h => place_mono hp h
  · exact List.Pairwise.filter _ List.pairwise_lt_range
  · rw [List.mem_map, List.mem_filter, List.mem_range, decide_eq_true_eq]
    constructor
    · rintro ⟨j, hj, rfl⟩
      rw [List.mem_range] at hj
      exact ⟨Nat.lt_succ_of_le (place_le hp hj), place_free hp hj⟩
    · rintro ⟨h1, h2⟩
      exact ⟨numb p n x, List.mem_range.mpr (numb_lt hp (by omega) h2), place_numb hp (by omega) h2⟩
theorem wsum_ge : ∀ (r ds : List Nat), (∀ b ∈ r, 0 < b) → r.length = ds.length → ∀ d ∈ ds, d ≤ wsum r ds
  | [], [], _, _, d, h => by cases h
  | b :: r, e :: ds, hb, hl, d, h => by
    show d ≤ e + b * wsum r ds
    have hb0 := hb b (List.mem_cons_self ..)
    rcases List.mem_cons.mp h with rfl | h
    · omega
    · have ih := wsum_ge r ds (fun x hx => hb x (List.mem_cons_of_mem _ hx)) (by simpa using hl) d h
      have : 1 * wsum r ds ≤ b * wsum r ds := Nat.mul_le_mul_right _ hb0
      omega
theorem choice_pow {p : Nat} (hp : 2 ≤ p) (n : Nat) : p ^ (choice p n).length ≤ p * (n + 1) := by
  have h := (choice_len p n)
  by_cases hz : n = 0
  · subst hz
    have e : (choice p 0).length = 1 := rfl
    rw [e, Nat.pow_one, Nat.mul_one]
    exact Nat.le_refl _
  · have hne : dig p n ≠ [] := by
      rw [dig_step hp hz]
      simp
    have e : (choice p n).length = (dig p n).length := by
      unfold choice
      rw [if_neg hne, List.length_map]
    obtain ⟨k, hk⟩ : ∃ k, (dig p n).length = k + 1 := ⟨(dig p n).length - 1, by have := List.length_pos_iff.mpr hne; omega⟩
    have h1 : p ^ k ≤ n := (dig_len_iff hp).mp (by omega)
    rw [e, hk, Nat.pow_succ, Nat.mul_comm]
    exact Nat.mul_le_mul_left _ (by omega)
theorem prodL_le_pow (p : Nat) : ∀ r : List Nat, (∀ b ∈ r, b ≤ p) → prodL r ≤ p ^ r.length
  | [], _ => Nat.le_refl _
  | b :: r, h => by
    show b * prodL r ≤ p ^ (r.length + 1)
    rw [Nat.pow_succ, Nat.mul_comm (p ^ r.length)]
    exact Nat.mul_le_mul (h b (List.mem_cons_self ..)) (prodL_le_pow p r fun x hx => h x (List.mem_cons_of_mem _ hx))
theorem pow_small {p n k : Nat} (hp2 : p < 1024) (hn : n < 2 ^ 1000) (h : k ≤ p * (n + 1)) : k < 2 ^ 4000 := by
  have h1 : p * (n + 1) ≤ 2 ^ 10 * 2 ^ 1000 := Nat.mul_le_mul (by omega) hn
  rw [← Nat.pow_add] at h1
  exact Nat.lt_of_le_of_lt (Nat.le_trans h h1) (Nat.pow_lt_pow_right (by decide) (by decide))
theorem choice_len_small {p n : Nat} (hp : 2 ≤ p) (hn : n < 2 ^ 1000) : (choice p n).length ≤ 1001 := by
  have h1 := dig_len_small hp hn
  have h2 := (choice_len p n).2
  omega
theorem fit_choice {p n : Nat} (hp : 2 ≤ p) (hp2 : p < 1024) (hn : n < 2 ^ 1000) : Fit (choice p n) :=
  ⟨choice_pos p n, pow_small hp2 hn (Nat.le_trans (prodL_le_pow p _ fun b hb => (choice_le hp n b hb).2) (choice_pow hp n)), by have := choice_len_small hp hn; omega⟩
theorem fit_primes {p n : Nat} (hp : 2 ≤ p) (hp2 : p < 1024) (hn : n < 2 ^ 1000) : Fit (List.replicate (choice p n).length p) :=
  ⟨fun d hd => by rw [List.eq_of_mem_replicate hd]; omega, by rw [prodL_rep]; exact pow_small hp2 hn (choice_pow hp n), by rw [List.length_replicate]; have := choice_len_small hp hn; omega⟩
theorem tow_last : ∀ (k : Nat) (r : List Nat), r.length ≤ k → r ≠ [] → (tow r)[(tow r).length - 1]? = some [prodL r]
  | 0, r, h, hne => absurd (List.length_eq_zero_iff.mp (by omega)) hne
  | k + 1, r, h, hne => by
    by_cases h1 : r.length ≤ 1
    · rw [tow_small h1]
      match r, hne, h1 with
      | [b], _, _ =>
        show some [b] = some [b * 1]
        rw [Nat.mul_one]
    · rw [tow_big (by omega)]
      have hl := pairUp_len r
      have ih := tow_last k (pairUp r) (by omega) (pairUp_ne hne)
      have hpos : 0 < (tow (pairUp r)).length := List.length_pos_iff.mpr (chn_tow _).ne
      obtain ⟨m, hm⟩ : ∃ m, (tow (pairUp r)).length = m + 1 := ⟨_, (Nat.succ_pred_eq_of_pos hpos).symm⟩
      rw [hm] at ih
      show (r :: tow (pairUp r))[(tow (pairUp r)).length + 1 - 1]? = _
      rw [hm, prodL_pairUp] at *
      exact ih
/-! ### the most -/
def lowz : List Nat → Nat
  | [] => 0
  | d :: ds => if d = 0 then lowz ds + 1 else 0
def mostV (p n : Nat) : Nat := (dig p (n + 1)).length - 1 - lowz (dig p (n + 1))
theorem lowz_before : ∀ (l : List Nat) (j : Nat), j < lowz l → l[j]? = some 0
  | [], j, h => by cases h
  | d :: ds, j, h => by
    unfold lowz at h
    split at h
    · rename_i hd
      cases j with
      | zero => rw [hd]; rfl
      | succ j => exact lowz_before ds j (by omega)
    · omega
theorem lowz_at : ∀ (l : List Nat), (∃ d ∈ l, d ≠ 0) → ∃ d, l[lowz l]? = some d ∧ d ≠ 0
  | [], h => by
    obtain ⟨d, hd, _⟩ := h
    cases hd
  | e :: ds, h => by
    unfold lowz
    by_cases he : e = 0
    · rw [if_pos he]
      obtain ⟨d, hd, hd0⟩ := h
      rcases List.mem_cons.mp hd with rfl | hd
      · exact absurd he hd0
      · obtain ⟨x, h1, h2⟩ := lowz_at ds ⟨d, hd, hd0⟩
        exact ⟨x, h1, h2⟩
    · rw [if_neg he]
      exact ⟨e, rfl, he⟩
theorem dig_some {p n : Nat} (hp : 2 ≤ p) : ∃ d ∈ dig p (n + 1), d ≠ 0 := by
  have hne : dig p (n + 1) ≠ [] := by
    rw [dig_step hp (by omega)]
    simp
  have h := dig_last hp (n + 1) _ (List.getLast?_eq_some_getLast hne)
  exact ⟨_, List.getLast_mem hne, h⟩
theorem lowz_lt {p n : Nat} (hp : 2 ≤ p) : lowz (dig p (n + 1)) < (dig p (n + 1)).length := by
  obtain ⟨d, h, _⟩ := lowz_at _ (dig_some (n := n) hp)
  exact (List.getElem?_eq_some_iff.mp h).1
theorem dig_len_step {p n : Nat} (hp : 2 ≤ p) (hn : n ≠ 0) : (dig p n).length = (dig p (n / p)).length + 1 := by
  rw [dig_step hp hn]
  rfl
theorem ways_down {p n k : Nat} (hp : 2 ≤ p) (hk : k ≤ n) (h : k % p ≤ n % p) : waysO p n k = waysO p (n / p) (k / p) := by
  have l1 := lg_step' hp n
  have l2 := lg_step' hp k
  have l3 := lg_step' hp (n - k)
  have d1 := Nat.div_add_mod n p
  have d2 := Nat.div_add_mod k p
  have e0 : n - k = (n % p - k % p) + p * (n / p - k / p) := by
    rw [Nat.mul_sub]
    have : p * (k / p) ≤ p * (n / p) := Nat.mul_le_mul_left _ (Nat.div_le_div_right hk)
    omega
  have e : (n - k) / p = n / p - k / p := by
    rw [e0, Nat.add_mul_div_left _ _ (by omega), Nat.div_eq_of_lt (by have := Nat.mod_lt n (show 0 < p by omega); omega), Nat.zero_add]
  have hd : k / p ≤ n / p := Nat.div_le_div_right hk
  unfold waysO
  rw [← e]
  omega
/-- no more carries than there are figures above the lowest -/
theorem carries_le {p : Nat} (hp : 2 ≤ p) : ∀ (n : Nat) (a b c : Nat), a + b + c = n → c ≤ 1 → n ≠ 0 → (lg p n : Int) - lg p a - lg p b + 1 ≤ (dig p n).length := by
  refine dig_ind hp ?_ ?_
  · intro a b c _ _ h
    exact absurd rfl h
  · intro n hn ih a b c h hc _
    have ct := carry_turn hp a b c
    have sd := sum_div hp a b c
    have cl := carry_le hp a b hc
    rw [h] at ct sd
    rw [← sd] at ct
    have dl := dig_len_step hp hn
    by_cases hz : n / p = 0
    · rw [hz] at ct sd
      generalize (a % p + b % p + c) / p = z at ct sd cl
      have e12 := Nat.add_eq_zero_iff.mp (Nat.add_eq_zero_iff.mp sd.symm).1
      have e1 : a / p = 0 := e12.1
      have e2 : b / p = 0 := e12.2
      rw [e1, e2, lg_zero] at ct
      rw [hz, dig_zero] at dl
      have dl1 : (dig p n).length = 1 := dl
      omega
    · have ih2 := ih (a / p) (b / p) _ sd.symm cl hz
      generalize (a % p + b % p + c) / p = z at ct ih2 cl
      omega
theorem lg_small {p n : Nat} (hp : 2 ≤ p) (h : n < p) : lg p n = 0 := by
  have e := lg_step' hp n
  rw [Nat.div_eq_of_lt h, lg_zero] at e
  exact e
theorem pow_pred {p : Nat} (hp : 2 ≤ p) (t : Nat) : (p ^ (t + 1) - 1) % p = p - 1 ∧ (p ^ (t + 1) - 1) / p = p ^ t - 1 := by
  have h0 : 0 < p ^ t := Nat.pow_pos (by omega)
  obtain ⟨k, hk⟩ : ∃ k, p ^ t = k + 1 := ⟨p ^ t - 1, by omega⟩
  have e : p ^ (t + 1) - 1 = (p - 1) + p * k := by
    rw [Nat.pow_succ, hk, Nat.add_mul, Nat.one_mul, Nat.mul_comm k p]
    omega
  rw [e, hk]
  refine ⟨?_, ?_⟩
  · rw [Nat.add_mul_mod_self_left, Nat.mod_eq_of_lt (by omega)]
  · rw [Nat.add_mul_div_left _ _ (by omega), Nat.div_eq_of_lt (by omega)]
    omega
/-- from below a power on, each place carries -/
theorem carries_all {p : Nat} (hp : 2 ≤ p) : ∀ (t b : Nat), p ^ t + b < p ^ (t + 1) → (lg p (p ^ t - 1 + b + 1) : Int) - lg p (p ^ t - 1) - lg p b = t
  | 0, b, h => by
    rw [Nat.pow_zero, Nat.zero_add, Nat.pow_one] at h
    rw [Nat.pow_zero, Nat.sub_self, lg_zero, Nat.zero_add, lg_small hp (by omega), lg_small hp (by omega)]
    rfl
  | t + 1, b, h => by
    have ct := carry_turn hp (p ^ (t + 1) - 1) b 1
    obtain ⟨e1, e2⟩ := pow_pred hp t
    have e3 : (p - 1 + b % p + 1) / p = 1 := by
      have hb := Nat.mod_lt b (show 0 < p by omega)
      rw [show p - 1 + b % p + 1 = b % p + p by omega, Nat.add_div_right _ (by omega), Nat.div_eq_of_lt hb]
    rw [e1, e2, e3] at ct
    have ih := carries_all hp t (b / p) (by
      have h1 : p * (p ^ t + b / p) < p * p ^ (t + 1) := by
        have r1 : p * p ^ t = p ^ (t + 1) := by rw [Nat.pow_succ, Nat.mul_comm]
        have r2 : p * p ^ (t + 1) = p ^ (t + 1 + 1) := by rw [Nat.pow_succ p (t + 1), Nat.mul_comm]
        rw [Nat.mul_add, r1, r2]
        have := Nat.mul_div_le b p
        omega
      exact Nat.lt_of_mul_lt_mul_left h1)
    rw [ct, ih, Int.natCast_add]
    omega
theorem attained {p n : Nat} (hp : 2 ≤ p) (hn : n ≠ 0) (h : n % p < p - 1) : ∃ k, k ≤ n ∧ waysO p n k + 1 = (dig p n).length := by
  have hne : dig p n ≠ [] := by
    rw [dig_step hp hn]
    simp
  obtain ⟨t, ht⟩ : ∃ t, (dig p n).length = t + 1 := ⟨(dig p n).length - 1, by have := List.length_pos_iff.mpr hne; omega⟩
  have h1 : p ^ t ≤ n := (dig_len_iff hp).mp (by omega)
  have h2 : n < p ^ (t + 1) := by
    rcases Nat.lt_or_ge n (p ^ (t + 1)) with z | z
    · exact z
    · have := dig_len_gt hp z
      omega
  rw [ht]
  cases t with
  | zero =>
    refine ⟨0, Nat.zero_le _, ?_⟩
    unfold waysO
    rw [lg_zero, Nat.sub_zero]
    omega
  | succ t =>
    have hp0 : 0 < p ^ (t + 1) := Nat.pow_pos (by omega)
    refine ⟨p ^ (t + 1) - 1, by omega, ?_⟩
    obtain ⟨b, hb⟩ : ∃ b, n - (p ^ (t + 1) - 1) = b := ⟨_, rfl⟩
    have hn2 : p ^ (t + 1) - 1 + b + 0 = n := by omega
    have ct := carry_turn hp (p ^ (t + 1) - 1) b 0
    have sd := sum_div hp (p ^ (t + 1) - 1) b 0
    obtain ⟨e1, e2⟩ := pow_pred hp t
    have hbm := Nat.mod_lt b (show 0 < p by omega)
    have hb0 : b % p ≠ 0 := by
      intro z
      have : n % p = p - 1 := by
        rw [← hn2, Nat.add_zero, Nat.add_mod, e1, z, Nat.add_zero, Nat.mod_eq_of_lt (by omega)]
      omega
    have e3 : (p - 1 + b % p + 0) / p = 1 := by
      rw [show p - 1 + b % p + 0 = (b % p - 1) + p by omega, Nat.add_div_right _ (by omega), Nat.div_eq_of_lt (by omega)]
    rw [e1, e2, e3] at ct
    rw [e1, e2, e3, hn2] at sd
    rw [hn2] at ct
    have hpt : 0 < p ^ t := Nat.pow_pos (by omega)
    have ih := carries_all hp t (b / p) (by
      have h3 : n / p < p ^ (t + 1) := Nat.div_lt_of_lt_mul (by rw [Nat.mul_comm, ← Nat.pow_succ]; exact h2)
      rw [sd] at h3
      generalize b / p = q at h3
      omega)
    rw [ih] at ct
    unfold waysO
    rw [hb]
    rw [Int.natCast_add]
    omega
theorem most_up {p n : Nat} (hp : 2 ≤ p) : ((n + 1) % p = 0 → n % p = p - 1 ∧ mostV p n = mostV p (n / p)) ∧ ((n + 1) % p ≠ 0 → n % p < p - 1 ∧ mostV p n = (dig p (n / p)).length) := by
  rcases divmod_up hp n with ⟨h1, h2, h3⟩ | ⟨h1, h3⟩
  · refine ⟨fun _ => ⟨h2, ?_⟩, fun h => absurd h1 h⟩
    unfold mostV
    rw [dig_step hp (show n + 1 ≠ 0 by omega), h1, h3]
    show (dig p (n / p + 1)).length + 1 - 1 - (if 0 = 0 then lowz (dig p (n / p + 1)) + 1 else 0) = _
    rw [if_pos rfl]
    omega
  · refine ⟨fun h => by omega, fun _ => ⟨?_, ?_⟩⟩
    · have := Nat.mod_lt (n + 1) (show 0 < p by omega)
      omega
    · unfold mostV
      rw [dig_step hp (show n + 1 ≠ 0 by omega), h1, h3]
      show (dig p (n / p)).length + 1 - 1 - (if n % p + 1 = 0 then _ else 0) = _
      rw [if_neg (by omega)]
      omega
/-- the most is what comes up, and nothing comes above it -/
theorem most_max {p : Nat} (hp : 2 ≤ p) : ∀ n, (∀ k, k ≤ n → waysO p n k ≤ mostV p n) ∧ ∃ k, k ≤ n ∧ waysO p n k = mostV p n := by
  refine dig_ind hp ?_ ?_
  · have e : mostV p 0 = 0 := by
      have h := (most_up (n := 0) hp).2 (by rw [Nat.mod_eq_of_lt (by omega)]; decide)
      rw [h.2, Nat.zero_div, dig_zero]
      rfl
    rw [e]
    refine ⟨fun k hk => ?_, 0, Nat.le_refl _, rfl⟩
    have : k = 0 := by omega
    subst this
    exact Int.le_refl _
  · intro n hn ih
    by_cases hz : (n + 1) % p = 0
    · obtain ⟨h1, h2⟩ := (most_up (n := n) hp).1 hz
      rw [h2]
      refine ⟨fun k hk => ?_, ?_⟩
      · rw [ways_down hp hk (by have := Nat.mod_lt k (show 0 < p by omega); omega)]
        exact ih.1 _ (Nat.div_le_div_right hk)
      · obtain ⟨k, hk, e⟩ := ih.2
        have hk2 : p * k ≤ n := Nat.le_trans (Nat.mul_le_mul_left _ hk) (Nat.mul_div_le n p)
        refine ⟨p * k, hk2, ?_⟩
        rw [ways_down hp hk2 (by rw [Nat.mul_mod_right]; exact Nat.zero_le _), Nat.mul_div_cancel_left _ (by omega), e]
    · obtain ⟨h1, h2⟩ := (most_up (n := n) hp).2 hz
      have dl := dig_len_step hp hn
      rw [h2]
      refine ⟨fun k hk => ?_, ?_⟩
      · have h3 := carries_le hp n k (n - k) 0 (by omega) (by decide) hn
        unfold waysO
        omega
      · obtain ⟨k, hk, e⟩ := attained hp hn h1
        exact ⟨k, hk, by omega⟩
end Cc

/-! Short words for rows: lists of lists. -/
namespace Rl
open PySem PySem.Spec PyProof.Rows L2 Evl Cc
section
variable {K : PySem.W.Frag} {σ : L2.St} {H H' : Hp} {ta tb te : TE} {t u : TT} {x y z v : V} {D : Ends} {tu tz : TS} {G : Hp → Prop} {r : R2}
theorem map_range_getD (l : List Nat) (g : Nat → V) : (List.range l.length).map (fun i => g (l.getD i 0)) = l.map g := by
  refine List.ext_getElem (by rw [List.length_map, List.length_map, List.length_range]) fun i h1 h2 => ?_
  rw [List.getElem_map, List.getElem_map, List.getElem_range]
  rw [List.length_map] at h2
  rw [List.getD_eq_getElem?_getD, List.getElem?_eq_getElem h2]
  rfl
theorem rows_last {R : Addr} {l : List Nat} (h : RowsAt H R (tow l)) (hne : l ≠ []) : ∃ (as : List Addr) (a : Addr), H R = some (.lst (as.map V.ref)) ∧ (as.map V.ref)[(as.map V.ref).length - 1]? = some (V.ref a) ∧ H a = some (.lst (nl [prodL l])) := by
  obtain ⟨as, g1, g2, g3⟩ := h
  have hl := tow_last _ l (Nat.le_refl _) hne
  have hpos : 0 < (tow l).length := List.length_pos_iff.mpr (chn_tow _).ne
  obtain ⟨a, ha⟩ : ∃ a, as[(tow l).length - 1]? = some a := ⟨as[(tow l).length - 1]'(by omega), List.getElem?_eq_getElem (by omega)⟩
  refine ⟨as, a, g1, ?_, g3 _ a _ ha hl⟩
  rw [List.length_map, g2, List.getElem?_map, ha]
  rfl
theorem rows_first {R : Addr} {l : List Nat} (h : RowsAt H R (tow l)) : ∃ (as : List Addr) (a : Addr), H R = some (.lst (as.map V.ref)) ∧ (as.map V.ref)[0]? = some (V.ref a) ∧ H a = some (.lst (nl l)) := by
  obtain ⟨as, g1, g2, g3⟩ := h
  have hl := tow_zero l
  have hpos : 0 < (tow l).length := List.length_pos_iff.mpr (chn_tow _).ne
  obtain ⟨a, ha⟩ : ∃ a, as[0]? = some a := ⟨as[0]'(by omega), List.getElem?_eq_getElem (by omega)⟩
  refine ⟨as, a, g1, ?_, g3 _ a _ ha hl⟩
  rw [List.getElem?_map, ha]
  rfl
/-- rows[-1][0]: all of the lowest row, multiplied -/
theorem ev_cntV {R : Addr} {l : List Nat} (h : Ev te σ H (.ref R)) (hr : RowsAt H R (tow l)) (hne : l ≠ []) : Ev (tOp (rIxL K) (tOp (rIxL K) te (tUn (rU fun i => .int (-i)) (tC (.int 1)))) (tC (.int 0))) σ H (.int (prodL l : Int)) := by
  obtain ⟨as, a, g1, g2, g3⟩ := rows_last hr hne
  exact ev_op (ev_op h (ev_un ev_c ru_neg) (rv_ixL (sq_of g1) (at_last g2))) ev_c (rv_ixL (sq_of g3) rfl)
theorem ev_cntR {l : List Nat} (h : EvR te σ H (fun R H2 => RowsAt H2 R (tow l))) (hne : l ≠ []) : Ev (tOp (rIxL K) (tOp (rIxL K) te (tUn (rU fun i => .int (-i)) (tC (.int 1)))) (tC (.int 0))) σ H (.int (prodL l : Int)) := fun H1 e Q q =>
  h H1 e _ fun R H2 hR e2 hr => by
    obtain ⟨as, a, g1, g2, g3⟩ := rows_last hr hne
    refine (ev_un (x := .int 1) ev_c ru_neg) H2 (Ex.refl H2) _ fun H3 e3 => ?_
    refine rv_ixL (sq_of (e3 _ _ g1)) (at_last g2) H3 (Ex.refl H3) _ fun H4 e4 => ?_
    exact rv_ixL (K := K) (sq_of (e4 _ _ (e3 _ _ g3))) rfl H4 (Ex.refl H4) _ fun H6 e6 => q H6 (((e2.trans e3).trans e4).trans e6)
theorem ev_call2R {sp : Sp} {E : XK} {Pr : Addr → Hp → Prop} (h1 : Ev ta σ H x) (h2 : EvR tb σ H Pr) (hs : ∀ R H1, Ex H H1 → Pr R H1 → SpV sp [x, .ref R] H1 z) : Ev (tCall sp [] E (tCons ta (tCons tb tNil))) σ H z := fun H1 e Q q =>
  h1 H1 e _ fun H2 e2 => h2 H2 (e.trans e2) _ fun R H3 hR e3 hPr => hs R H3 ((e.trans e2).trans e3) hPr H3 (Ex.refl H3) Q (fun H4 e4 => q H4 ((e2.trans e3).trans e4)) E
theorem ev_callLV {sp : Sp} {E : XK} {xs : List V} (h1 : EvL ta σ H xs) (h2 : Ev tb σ H y) (hs : ∀ a H1, Ex H H1 → H1 a = some (.lst xs) → SpV sp [.ref a, y] H1 z) : Ev (tCall sp [] E (tCons ta (tCons tb tNil))) σ H z := fun H1 e Q q =>
  h1 H1 e _ fun a H2 ha e2 hx => h2 H2 (e.trans e2) _ fun H3 e3 => hs a H3 ((e.trans e2).trans e3) (e3 _ _ hx) H3 (Ex.refl H3) Q (fun H4 e4 => q H4 ((e2.trans e3).trans e4)) E
theorem et_truthL {xs : List V} (h : EvL te σ H xs) : EvT (fun σ H Q => te σ H fun x H' => ∃ k, TruV K x H' k ∧ Q k H') σ H (!xs.isEmpty) := fun H1 e Q q =>
  h H1 e _ fun a H2 ha e2 hx => ⟨_, .inl ⟨xs, sq_of hx, rfl⟩, q H2 e2⟩
theorem bpl_none {p n s : Nat} (hp : 2 ≤ p) (hs : s ≤ n) (h : waysO p n s = 0) : bpl p n s = [] := by
  cases hb : bpl p n s with
  | nil => rfl
  | cons a l =>
    exfalso
    have h1 := (mem_bpl hp hs a).mp (by rw [hb]; exact List.mem_cons_self ..)
    rw [(free_iff hp n s hs).mp h a] at h1
    cases h1
theorem el_catV {p q : Addr} {xs ys : List V} (ha : Ev ta σ H (.ref p)) (hp : H p = some (.lst xs)) (hb : Ev tb σ H (.ref q)) (hq : H q = some (.lst ys)) (hz : xs.length + ys.length ≤ 100000) : EvL (tOp rCat ta tb) σ H (xs ++ ys) := fun H1 e Q k =>
  ha H1 e _ fun H2 e2 => hb H2 (e.trans e2) _ fun H3 e3 => ⟨p, q, xs, ys, rfl, rfl, ((e.trans e2).trans e3) p _ hp, ((e.trans e2).trans e3) q _ hq, sz_of hz, fun l hl => k l _ (fresh_back (e2.trans e3) hl) ((e2.trans e3).trans (Ex.new hl)) upd_same⟩
end
end Rl

/-! set(list of whole numbers), sorted of it. -/
namespace Zs
open PySem PySem.Spec PyProof.Rows L2
section
variable {P : Program} {w : World} {A : Around} {E : Value → Shared → Prop} {s : Shared}
/-- the set as it is made -/
abbrev eS (w : World) : Obj := { cls := .type "set", dict := none, data := .set #[] 0 (.fresh 0 0 (!w.params.followText "set-order")) }
abbrev s1 (w : World) (s : Shared) : Shared := { s with heap := s.heap.push (eS w) }
theorem set_list {l : Addr} {its : Array Value} (ns : List Int) {Q : Value → Shared → Prop} (hh : A.handled = none) (hl : s.heap.IsList l its) (hit : IntsAre its.toList ns) (hb : ns.length + 1 < scanBound)
    (h : ∀ (h' : Heap) (tk c : Nat), SetR w h' s.heap.objs.size (fun j => decide (j ∈ ns)) c → c ≤ ns.length → (∀ b o, s.heap.get? b = some o → h'.get? b = some o) → Q (.ref s.heap.objs.size) { s with heap := h', toks := tk }) :
    wpAny (model P w) A (call (.type "set") [.ref l]) Q E s := by
  have hsz : its.size = ns.length := by
    have q := hit.length
    rw [Array.length_toList] at q
    exact q
  obtain ⟨c, tl, hmro⟩ := F.called_set.mro; have hmade := F.called_set.made; have hsub := F.called_set.sub
  refine wpAny_call (codeAny_of_tree ?_); show wpAny _ _ (callAny (.type "set") _) _ _ _
  refine wpAny_pure ⟨Code.quiet_builtin _ (by decide +kernel), codeAny_builtin F.entry_type_call ?_⟩; rw [Around.under_plain (weight_type_call_type "set" [.ref l] []) rfl]
  have h1 := F.called_set.notType; have h2 := F.called_set.canCreate; have hct := F.typeCall_set_1 (.ref l)
  repeat (any_goals (first | assumption | wp_step))
  refine codeAny_mono (code_set_led1 (.ref l) (E := E) (Q₁ := fun ob t => ob = .ref s.heap.objs.size ∧ t = s1 w s) ⟨rfl, rfl⟩) fun r t ht => ?_
  cases r with
  | error e => exact ht
  | ok fl =>
    cases fl with
    | ret ob =>
      obtain ⟨rfl, rfl⟩ := ht
      have hS : (s.heap.push (eS w)).get? s.heap.objs.size = some (eS w) := Heap.get?_push_size _ rfl
      have hT : Shared.TypeIs (s1 w s) (.ref s.heap.objs.size) "set" := ⟨_, hS, rfl⟩
      have hli := F.called_set.init.lookup; have hbi := F.called_set.init.bind (.ref s.heap.objs.size)
      repeat (any_goals (first | assumption | wp_step))
      refine codeAny_mono (codeAny_call_builtin (R := wants (fun r t => r = .none ∧ ∃ h' tk c, t = { s with heap := h', toks := tk } ∧ SetR w h' s.heap.objs.size (fun j => decide (j ∈ ns)) c ∧ c ≤ ns.length ∧ ∀ b o, s.heap.get? b = some o → h'.get? b = some o) E) F.called_set.init.plain F.entry_set_init (check_set_init_1 hT ?_)) fun r2 t2 ht2 => ?_
      · obtain ⟨ol, hol, hcl, nl, hdl⟩ := hl
        obtain ⟨ocls, odict, odata, oslots⟩ := ol
        simp only at hcl hdl; subst hcl; subst hdl
        have hol' : (s.heap.push (eS w)).get? l = some { cls := .type "list", dict := odict, data := .seq its nl, slots := oslots } := Heap.get?_push_of_some _ hol
        have hsls := F.sub_list_set; have hslf := F.sub_list_frozenset; have hne : (Value.type "list" == Value.type "dict") = false := by decide
        have hl1 : (s.heap.push (eS w)).IsList l its := ⟨_, hol', rfl, nl, rfl⟩
        unfold Builtin.«set.__init__» noKeywords Builtin.Frozenset.updateFrom; generalize hPI : pyIter = PI; wp_walk; subst hPI
        refine wpAny_pyIter_list hl1 ?_; refine wpAny_bind (wpAny_runValue ?_)
        have hlS : l < s.heap.objs.size := Heap.lt_size hol
        have hz : (s.heap.push (eS w)).objs.size = s.heap.objs.size + 1 := Heap.size_push ..
        have hneI : l ≠ (s.heap.push (eS w)).objs.size := by
          rw [hz]
          exact Nat.ne_of_lt (Nat.lt_succ_of_lt hlS)
        have hSf : s.heap.objs.size ∉ [(s.heap.push (eS w)).objs.size, l] := by
          rw [hz]
          intro z
          rcases List.mem_cons.mp z with z | z
          · exact absurd z (Nat.ne_of_lt (Nat.lt_succ_self _))
          · exact absurd (List.mem_singleton.mp z) (Nat.ne_of_gt hlS)
        have hval : ∀ (i : Nat) (v : Value), its[i]? = some v → ∃ k t, ns[i]? = some k ∧ v = .int k t := fun i v hv => by
          have hi : i < ns.length := by rw [← hsz]; exact (Array.getElem?_eq_some_iff.mp hv).1
          obtain ⟨t, e⟩ := hit.int_at i v (by rw [Array.getElem?_toList]; exact hv)
          refine ⟨ns[i], t, List.getElem?_eq_getElem hi, ?_⟩
          rw [e, List.getD_eq_getElem?_getD, List.getElem?_eq_getElem hi] <;> rfl
        have hA : A.in1.in1.in1.handled = none := by simp [hh]
        refine set_update_ints ((Walks.list hA _ l hneI its).toS) s.heap.objs.size hSf ns hsz hb hval (its.size - 0) 0 _ (by omega) (Nat.zero_le _) ⟨⟨_, Heap.get?_push_size _ rfl, rfl, rfl⟩, (hl1.push _)⟩ ?a0 ?a1
        case a0 => exact ⟨0, Nat.le_refl 0, setR_new_at (Heap.get?_push_of_some _ hS)⟩
        case a1 =>
          intro s' c' hm hc' hS'
          obtain ⟨h', g2, d', tk', os'⟩ := s'
          have eg : g2 = s.gens := hm.gens
          have ed : d' = s.drawn := hm.drawn
          have eo : os' = s.os := hm.os
          subst eg; subst ed; subst eo
          show wpAny _ _ _ _ _ _; refine wpAny_pure ?_; show wpAny _ _ (ret Value.none) _ _ _
          rw [hsz] at hc'
          refine wpAny_pure ⟨rfl, h', tk', c', rfl, hS', hc', fun b o e => ?_⟩
          have hb0 : b < s.heap.objs.size := Heap.lt_size e
          refine hm.heap b o (fun z => ?_) (Heap.get?_push_of_some _ (Heap.get?_push_of_some _ e))
          rcases List.mem_cons.mp z with z | z
          · exact absurd z (Nat.ne_of_lt hb0)
          · have q := List.mem_singleton.mp z
            rw [hz] at q
            exact absurd q (Nat.ne_of_lt (Nat.lt_succ_of_lt hb0))
      · cases r2 with
        | error e => exact ht2
        | ok fl2 =>
          cases fl2 with
          | ret r =>
            obtain ⟨rfl, h', tk, c', rfl, hS', hc', hk'⟩ := ht2
            repeat (any_goals (first | assumption | wp_step))
            exact h _ _ _ hS' hc' hk'
          | _ => exact ht2.elim
    | _ => exact ht.elim
end
section
variable {X : Cx}
/-- set(xs), xs a list of whole numbers -/
def rSetL (K : PySem.W.Frag) (w : World) : List V → Hp → VK → Prop := fun vs H Q => ∃ (l : Addr) (ns : List Int), vs = [V.ref l] ∧ SqL K H l (ns.map V.int) ∧ ns.length ≤ 60 ∧ ∀ (p : Addr) (c : Nat), c ≤ ns.length → H p = none → Q (.ref p) (upd H p (SetO w p (fun j => decide (j ∈ ns)) c))
theorem cr_setL (hc : X.calm = true) : CallR X (.type "set") (rSetL X.K X.w) := by
  intro pins s σ H vs us Q I r h
  obtain ⟨l, ns, rfl, hl, hn, q⟩ := h
  obtain ⟨its, rv, pl, _⟩ := I.list hl
  rw [Vals.ref1 r]
  have hf : H s.heap.objs.size = none := I.hok.fresh (Nat.le_refl _)
  refine set_list (P := X.prog) (w := X.w) ns (I.ok.hd hc) pl.isList (show IntsAre its.toArray.toList ns from ints_of_vals rv) (by unfold scanBound; omega) fun h' tk c R hc2 k => ?_
  exact ⟨.ref s.heap.objs.size, upd H s.heap.objs.size (SetO X.w s.heap.objs.size (fun j => decide (j ∈ ns)) c), I.laid (t' := tk) k (Nat.le_refl _) (setO_new R), rfl, q _ c hc2 hf⟩
/-- sorted(set(xs)): rising, the same members -/
theorem el_sortSet {K : PySem.W.Frag} {w : World} {σ : L2.St} {H : Hp} {te : TE} {ns : List Int} {Q : VK} (h : ∀ Q : VK, (∀ l H1, H l = none → Evl.Ex H H1 → H1 l = some (.lst (ns.map V.int)) → Q (.ref l) H1) → te σ H Q) (hn : ns.length ≤ 60)
    (q : ∀ (ms : List Int) p H2, H p = none → Evl.Ex H H2 → H2 p = some (.lst (ms.map V.int)) → ms.Pairwise (· < ·) → (∀ k : Int, k ∈ ms ↔ k ∈ ns) → Q (.ref p) H2) : tCB (rSortedSet w) (tCons (tCB (rSetL K w) (tCons te tNil)) tNil) σ H Q := by
  refine h _ fun l H1 hl e1 h1 => ?_
  refine ⟨l, ns, rfl, SqL.of h1, hn, fun p c hc hp => ?_⟩
  refine ⟨p, _, c, rfl, upd_same, by omega, fun ms p2 hs hm hlen hp2 => ?_⟩
  have e2 : Evl.Ex H (upd H1 p (SetO w p (fun j => decide (j ∈ ns)) c)) := e1.trans (Evl.Ex.new hp)
  refine q ms p2 _ (Evl.fresh_back e2 hp2) (e2.trans (Evl.Ex.new hp2)) upd_same hs fun k => ?_
  rw [hm k]
  exact decide_eq_true_iff
end
end Zs

/-! Short words for a def that refuses, and for the suite that holds the refusal. -/
namespace Rl
open PySem PySem.Spec PyProof.Rows L2 Evl Cc
structure CanX (P : Program) (w : World) (K : PySem.W.Frag) (mg : Str → Option Value) (base : Heap) (k : Nat) (x : Str) (ps : List Str) (sp : Sp) : Prop where
  ex : ∃ (f : Addr) (fd : FuncData), FnOk P w K mg base (L2N.CX P w) k f fd ps sp ∧ mg x = some (.ref f) ∧ PySem.W.keepIn K (.ref f) = true ∧ Binds K fd ps []
section
variable {P : Program} {w : World} {K : PySem.W.Frag} {mg : Str → Option Value} {base : Heap} {x : Str} {st : Stmt} {N ps : List Str} {sp : Sp} {k : Nat}
abbrev BodyX (P : Program) (w : World) (K : PySem.W.Frag) (mg : Str → Option Value) (base : Heap) (N : List Str) (qual : Str) (st : Stmt) (k : Nat) (sp : Sp) : Prop :=
  ∀ (f : Addr) (cdv : Value) (A : Around) (outer : List Env) (s : Shared) (H : Hp) (vs : List V) (Q : VK) (E : XK), Room k (A.deeper (envOfC qual (defScope st) s.heap.objs.size f cdv)) → sp vs H Q E →
    ∃ t, PSs (cxOf (L2N.CX P w) P w K mg base N qual (defScope st) f cdv A outer s H E) (defBody st) t ∧ t { nx := fun _ H' => Q .non H', rt := Q } (start N vs) H
theorem Dfn.canX (d : Dfn K mg x st ps) (S : FnScope N ps (defScope st)) (len : ∀ vs H Q E, sp vs H Q E → vs.length = ps.length) (hb : BodyX P w K mg base N x st k sp) : CanX P w K mg base (k + 1) x ps sp := by
  obtain ⟨f, fd, F, hm, b⟩ := d.ex
  obtain ⟨oc, od, kV, doc, pm, an, cdv, ct, osl, rfl, lk, hcd⟩ := F.ex
  exact ⟨f, _, fn_of lk hcd S len fun A outer s H vs Q E hr h => hb f cdv A outer s H vs Q E hr h, hm, F.kp, b⟩
end
theorem takesN {X : Cx} : L2N.Takes X (fun _ _ _ _ => False) := fun _ _ x => by
  obtain ⟨_, _, _, _, _, _, _, _, _, _, _, _, _, _, _, _, z⟩ := x
  exact z.elim
section
variable {X : Cx} {W : WX} {k : Nat} {x : Str} {ps : List Str} {sp : Sp} {p pos : Pos} {e : Expr} {es : List Expr} {t : TA} {sts : List Stmt}
theorem pe_callX (c : CanX X.prog X.w X.K X.mg X.base k x ps sp) (tk : L2N.Takes X W) (hr : Room k X.A) (hg : Gl X x) (ha : PA X (e :: es) t) (hdb : (x == ("__debug__" : Str)) = false := by decide) (he : starEach (e :: es) X.env = (false, eval e X.env) :: starEach es X.env := by rfl)
    (hpl : (backTo pos (starEach es X.env)).any (·.1) = false := by rfl) : PE X (.Call (.Name x p) (e :: es) [] pos) (tCallS sp (WE W) t) := by
  obtain ⟨f, fd, F, hm, hk, b⟩ := c.ex
  exact pe_callS F hr hg hm hk b (fun σ => L2N.passAt tk σ) ha hdb he hpl
/-- a suite that is walked for one class of refusal -/
theorem pss_hyp {h : Prop} {u : TS} (g : h → PSs X sts u) : PSs X sts (fun D σ H => h ∧ u D σ H) := ⟨fun pins s σ H D I q => (g q.1).run pins s σ H D I q.2⟩
theorem zc_of {C : Addr} {cls : Value} {d : Option Addr} {oe : Obj} (h : cls = .ref C ∧ d = none) (hz : L2N.Zn cls d oe) : Zc (.ref C) none oe := by
  obtain ⟨rfl, rfl⟩ := h
  exact hz.zc
theorem hot_suite {a : Addr} {oe : Obj} {pn : List (Addr × Obj)} {cls : Value} {d : Option Addr} (hz : L2N.Zn cls d oe) (hf : ∃ vs, oe.data = .fields vs) : L2H.HotC (X.suite a ((a, oe) :: pn)) := by
  obtain ⟨vs, hv⟩ := hf
  exact ⟨(a, oe), ⟨rfl, vs, hv, hz.2.2 vs hv⟩, List.mem_cons_self ..⟩
end
theorem rc_isE {K : PySem.W.Frag} {H : Hp} {D a B : Addr} {b : Bool} (hk : PySem.W.kitOne K (.ref D) (.ref B) = some b) : RC (rIsE K D a) [.ref a, .ref B] H (.bl b) := fun H1 e _ q => ⟨.ref B, .ref B, b, rfl, fun u r => r, hk, q H1 (Ex.refl H1)⟩

/-! ### any(list) while a refusal is held -/
section
variable {prog : Program} {w : World} {A : Around} {s : Shared} {E : Value → Shared → Prop}
/-- a list's iterator at its end, an exception held -/
theorem next_end {it l x1 : Addr} {i : Nat} {its : Array Value} {Q : Option Value → Shared → Prop} (hot : HotX.HotAt A x1 s.heap) (ne : x1 ≠ it) (hit : s.heap.IsListIter it l i) (hl : s.heap.IsList l its) (hx : its[i]? = none)
    (hQ : ∀ h', (∀ b o, b ≠ it → s.heap.get? b = some o → h'.get? b = some o) → Q none { s with heap := h' }) : wpAny (model prog w) A (pyNext (.ref it)) Q E s := by
  obtain ⟨hh, o1, vs1, h1, d1, c1⟩ := hot
  obtain ⟨oi, hoi, hci, hdi⟩ := id hit
  obtain ⟨ol, hol, _, nl, hdl⟩ := hl
  unfold pyNext
  refine wpAny_bind (wpAny_attempt (wpAny_callSpecial?_slot (name := Str.ofString "__next__") hit.typeIs slot_listiter_next (wpAny_call_entry slot_listiter_next hit.typeIs entry_listiter_next ?_ (args_listiter_next _))))
  show wpAny _ _ (field (.ref it) 0 >>= _) _ _ s
  refine wpAny_bind (wpAny_field hoi hdi (x := Value.ref l) rfl ?_)
  have nn : ¬ ((Value.ref l == Value.none) = true) := Bool.false_ne_true
  show wpAny _ _ (if (Value.ref l == .none) = true then _ else _) _ _ s
  rw [if_neg nn]
  show wpAny _ _ (field (.ref it) 1 >>= _) _ _ s
  refine wpAny_bind (wpAny_field hoi hdi (x := Value.int i 0) rfl ?_)
  show wpAny _ _ (seqItems? (Value.ref l) >>= _) _ _ s
  refine wpAny_bind (wpAny_seqItems hol hdl ?_)
  simp only [hx, Int.toNat_natCast]
  refine wpAny_bind (wpAny_rule (wpAny_bind (wpAny_setField hoi hdi (by simp) ?_)))
  show wpAny _ _ (newExc (Value.type "StopIteration") [] >>= _) _ _ _
  refine wpAny_bind ?_
  simp only [newTuple, newExc]
  refine wpAny_bind (wpAny_newObj_type ?_ (by size_fits))
  refine wpAny_bind (m := firstArgMember _ _) (wpAny_of_eq (a := Value.none) (by first | rfl | (simp only [firstArgMember] <;> rfl)) ?_)
  refine wpAny_newObj_type ?_ (by size_fits)
  have u1 : ∀ b o, b ≠ it → s.heap.get? b = some o → (s.heap.update it (Obj.mapFields fun x => x.setIfInBounds 0 Value.none)).get? b = some o := fun b o hb e => by
    rw [Heap.get?_update_other _ _ (Ne.symm hb)]
    exact e
  have p1 := Heap.get?_push_of_some { cls := Value.type "tuple", data := Data.seq #[] } (u1 x1 o1 ne h1)
  have p2 := Nat.ne_of_lt (Heap.lt_size p1)
  refine HotX.raiseNew_hot ⟨hh, o1, vs1, Heap.get?_push_of_some _ p1, d1, c1⟩ p2 (Heap.get?_push_size _ rfl) rfl (by first | (simp; done) | (simp; omega) | (rw [Array.size_append]; simp; omega)) ?_
  have t1 := Heap.get?_push_size (s.heap.update it (Obj.mapFields fun x => x.setIfInBounds 0 Value.none)) (o := { cls := Value.type "tuple", data := Data.seq #[] }) rfl
  refine wpAny_bind (wpAny_isInstance (b := true) (T := "StopIteration") ⟨_, Heap.get?_update_self _ (Heap.get?_push_size _ rfl) rfl, rfl⟩ isSubtype_stop ?_)
  refine wpAny_pure (hQ _ fun b o hb e => ?_)
  have p3 := Heap.get?_push_of_some { cls := Value.type "tuple", data := Data.seq #[] } (u1 b o hb e)
  rw [Heap.get?_update_other _ _ (Nat.ne_of_gt (Heap.lt_size p3))]
  exact Heap.get?_push_of_some _ p3
theorem hot_push {x1 : Addr} {h h' : Heap} (hot : HotX.HotAt A x1 h) (k : ∀ o, h.get? x1 = some o → h'.get? x1 = some o) : HotX.HotAt A x1 h' := by
  obtain ⟨hh, o, vs, h1, d1, c1⟩ := hot
  exact ⟨hh, o, vs, k o h1, d1, c1⟩
/-- a list's walk, an exception held -/
theorem walks_hot (I ax x1 : Addr) (n1 : ax ≠ I) (n2 : x1 ≠ I) (items : Array Value) :
    Walks prog w A I [I, ax, x1] [I] items.size (fun i v => items[i]? = some v) (fun i h => (h.IsListIter I ax i ∧ h.IsList ax items) ∧ HotX.HotAt A x1 h) where
  sub := fun b hb => by
    rw [List.mem_singleton] at hb
    rw [hb]
    exact List.mem_cons_self ..
  frame := fun _ _ _ st hk => ⟨⟨st.1.1.at fun o e => hk I (by simp) o e, st.1.2.at fun o e => hk ax (by simp) o e⟩, hot_push st.2 fun o e => hk x1 (by simp) o e⟩
  item := fun i s Q E hi st hQ => wpAny_pyNext_list_item st.1.1 st.1.2 (x := items[i]) (by simp [hi]) fun h' hit' hs' =>
    hQ _ h' s.toks (by simp [hi]) ⟨⟨hit', st.1.2.extBut hs'.extBut n1⟩, hot_push st.2 fun o e => hs'.extBut x1 o n2 e⟩ fun b o hb e => hs'.extBut b o (fun z => hb (by rw [z]; exact List.mem_cons_self ..)) e
  done := fun s Q E st hQ => next_end st.2 n2 st.1.1 st.1.2 (by simp) fun h' k => hQ h' s.toks fun b o hb e => k b o (fun z => hb (by rw [z]; exact List.mem_cons_self ..)) e
  self := fun i s Q E st hQ => wpAny_pyIter_listiter st.1.1 hQ
end
theorem cr_anyH {X : Cx} (hc : L2H.HotC X) : CallR X (.builtin "any") (rAny X.K) := by
  intro pins s σ H vs us Q I r h
  obtain ⟨a, bs, rfl, hs, q⟩ := h
  obtain ⟨its, rv, hl, _⟩ := I.list hs
  obtain ⟨x1, hot⟩ := hc.at I
  have hx : x1 < s.heap.objs.size := by
    obtain ⟨_, o, vs, h1, _⟩ := hot
    exact Heap.lt_size h1
  rw [Vals.ref1 r]
  refine call_any_walk (iter_any hl.isList fun s2 e2 st hne => ?_)
  subst e2
  have hot2 : HotX.HotAt X.A.in1 x1 (s.heap.push { cls := .type "list_iterator", data := .fields #[.ref a, .int 0 0] }) := hot_push (A := X.A.in1) (h := s.heap) hot fun o e => Heap.get?_push_of_some _ e
  refine ⟨_, _, _, _, _, _, _, rfl, walks_hot (A := X.A.in1) _ a x1 hne (Nat.ne_of_lt hx) its.toArray, ⟨st, hot2⟩, truth_bools rv.bls, fun h' tk hk => ?_⟩
  have kp : ∀ b o, s.heap.get? b = some o → h'.get? b = some o := fun b o eo => hk b o (fun hmem => by
    rw [List.mem_singleton] at hmem
    exact absurd (hmem ▸ Heap.lt_size eo) (Nat.lt_irrefl _)) (Heap.get?_push_of_some _ eo)
  have hn : its.toArray.size = bs.length := by
    rw [List.size_toArray, ← rv.length, List.length_map]
  refine ⟨.bl _, H, I.kept kp, ?_, q⟩
  show Value.bool _ = Value.bool _
  rw [hn, L2.any_range]
section
variable {K : PySem.W.Frag} {σ : L2.St} {H H' : Hp} {ta tb te : TE} {x y z v : V} {D : Ends} {tu tz : TS}
theorem q_parLV {i j : Nat} {xs : List V} (ha : EvL ta σ H xs) (hb : Ev tb σ H y) (k : ∀ p H1, Ex H H1 → H1 p = some (.lst xs) → tz D ((σ.set i (some (.ref p))).set j (some y)) H1) : tSeq (tPar i j (tCons ta (tCons tb tNil))) tz D σ H :=
  ha H (Ex.refl H) _ fun p H1 _ e1 h1 => hb H1 e1 _ fun H2 e2 => ⟨.ref p, y, rfl, k p H2 (e1.trans e2) (e2 _ _ h1)⟩
theorem rc_max {a : Addr} {ns : List Int} {m : Int} (h : SqL K H a (ns.map V.int)) (hm : m ∈ ns) (hle : ∀ y, y ∈ ns → y ≤ m) : RC (rMax K) [.ref a] H (.int m) := fun H1 e Q q => ⟨a, ns, rfl, ex_l e h, List.length_pos_iff.mpr (fun z => by rw [z] at hm; cases hm), fun m' h1 h2 => by
  have e1 : m' = m := Int.le_antisymm (hle m' h1) (h2 m hm)
  rw [e1]
  exact q H1 (Ex.refl H1)⟩
end
theorem prodL_app (l : List Nat) (x : Nat) : prodL (l ++ [x]) = prodL l * x := by
  induction l with
  | nil =>
    show x * 1 = 1 * x
    omega
  | cons a l ih =>
    show a * prodL (l ++ [x]) = a * prodL l * x
    rw [ih, Nat.mul_assoc]
theorem cnt_dig (p n : Nat) : prodL ((dig p n).map (· + 1)) = cnt p n := by
  unfold Cc.cnt choice
  split
  · rename_i h
    rw [h]
    rfl
  · rfl
theorem cnt_le {p n : Nat} (hp : 2 ≤ p) : cnt p n ≤ n + 1 := by
  have h := congrArg List.length (places_all (n := n) hp)
  rw [List.length_map, List.length_range] at h
  rw [h]
  exact Nat.le_trans (List.length_filter_le _ _) (by rw [List.length_range]; exact Nat.le_refl _)
end Rl

/-! A def that is handed the refusal that a suite holds; a local name that holds a def that refuses. -/
namespace Rl
open PySem PySem.Spec PyProof.Rows L2 Evl Cc
/-- as L2H.FnH, the refusal's class told -/
structure FnE (P : Program) (w : World) (K : PySem.W.Frag) (mg : Str → Option Value) (base : Heap) (k : Nat) (f : Addr) (fd : FuncData) (ps : List Str) (D : Addr) (sp : Addr → Sp) : Prop where
  len : ∀ a vs H Q E, sp a vs H Q E → vs.length = ps.length
  run : ∀ (A : Around) (outer : List Env) (s : Shared) (H : Hp) (args : Args) (us : List Value) (vs : List V) (Q : VK) (E : XK) (p : Addr × Obj), L2H.RoomH k A → L2H.Hot1 A p → Zc (.ref D) none p.2 → L2H.PinOk outer H s p → Env0 P w K mg base A outer s H →
    BindsTo s fd args (ps.zip us) → Vals vs us → sp p.1 vs H Q E → codeAny (model P w) A (.call (.ref f) args) (CR CX0 outer P w H s Q E) s
theorem fn_ofE {P : Program} {w : World} {K : PySem.W.Frag} {mg : Str → Option Value} {base : Heap} {k : Nat} {f D : Addr} {name qual : Str} {params : Arguments} {body : List Stmt} {scope : Scope} {dV kV doc pm cdv ct oc : Value} {an od : Option Addr} {osl : Array (Option Value)} {N ps : List Str} {sp : Addr → Sp}
    (lk : K.lookup f = some ⟨oc, od, .func (PySem.W.fnOf name qual params body scope dV kV doc pm an cdv ct), osl⟩) (hcd : PySem.W.codeIn K cdv qual = true) (S : FnScope N ps scope) (len : ∀ a vs H Q E, sp a vs H Q E → vs.length = ps.length)
    (hbody : ∀ (A : Around) (outer : List Env) (s : Shared) (H : Hp) (vs : List V) (Q : VK) (E : XK) (p : Addr × Obj), L2H.Hot1 A p → Zc (.ref D) none p.2 → L2H.RoomH k (A.deeper (envOfC qual scope s.heap.objs.size f cdv)) → sp p.1 vs H Q E →
      ∃ t, PSs (L2H.cxH CX0 P w K mg base N qual scope f cdv A outer s H E p) body t ∧ t { nx := fun _ H' => Q .non H', rt := Q } (L2.start N vs) H) :
    FnE P w K mg base (k + 1) f (PySem.W.fnOf name qual params body scope dV kV doc pm an cdv ct) ps D sp := by
  refine ⟨len, fun A outer s H args us vs Q E p hr hot hz hpin e0 hb r hsp => ?_⟩
  have hl := len _ _ _ _ _ hsp
  have KX : K.In s.heap := e0.mod.kin.keeps fun b o e => (e0.bs b o e).1; have lim : s.heap.NoLimit := e0.mod.nolimit.keeps fun b o e => (e0.bs b o e).1
  have hkind : ∀ y ∈ ps.zip us, scope.names.lookup y.1 = some .local ∨ (scope.names.lookup y.1 = some .cell ∧ ((cellsFrom (s.heap.objs.size + 1) scope.names []).lookup y.1).isSome = true) := by
    rintro ⟨n, v⟩ hy
    rcases S.par n (List.of_mem_zip hy).1 with q | q
    · exact .inl q
    · exact .inr ⟨q, PySem.W.cellsFrom_some _ _ _ (.inl q)⟩
  refine codeAny_call_function hr.depth (KX _ _ lk) rfl S.co S.gen rfl (PySem.W.codeRec_of KX hcd) (hb _ _ _ _ ?_); refine wpAny_newFunctionEnv_cells S.kind hkind fun env he s1 x => ?_
  subst he
  refine ⟨lim.keeps x.toInCall.keep, codeAny_func ?_⟩
  obtain ⟨t, ht, hq⟩ := hbody A outer s H vs Q E p hot hz (hr.deeper _) hsp
  have I : Inv (L2H.cxH CX0 P w K mg base N qual scope f cdv A outer s H E p) [] (L2.start N vs) H s1 := L2H.inv_startH S hpin e0 hl r x
  refine wpAny_mono (ht.run [] s1 (L2.start N vs) H _ I hq) (fun fl s' hs => ?_) fun e s' hs => hs
  cases fl with
  | ret u =>
    obtain ⟨v, σ', H', J, rv, q⟩ := hs
    exact ⟨v, H', J.os, J.bare, J.base, J.hok, rv, q⟩
  | next =>
    obtain ⟨σ', H', J, q⟩ := hs
    exact ⟨V.non, H', J.os, J.bare, J.base, J.hok, rfl, q⟩
  | brk =>
    obtain ⟨_, _, _, q⟩ := hs
    exact q.elim
  | cont =>
    obtain ⟨_, _, _, q⟩ := hs
    exact q.elim
section
variable {X : Cx} {k : Nat} {f D : Addr} {fd : FuncData} {ps : List Str} {sp : Addr → Sp} {x : Str} {q pos : Pos} {e : Expr} {es : List Expr} {t : TA}
theorem pe_callE {p : Addr × Obj} (F : FnE X.prog X.w X.K X.mg X.base k f fd ps D sp) (hr : L2H.RoomH k X.A) (hot : L2H.Hot1 X.A p) (hp : p ∈ X.pn) (hz : Zc (.ref D) none p.2) (hg : Gl X x) (hm : X.mg x = some (.ref f)) (hk : PySem.W.keepIn X.K (.ref f) = true) (hb : Binds X.K fd ps [])
    (ha : PA X (e :: es) t) (hdb : (x == ("__debug__" : Str)) = false := by decide) (he : starEach (e :: es) X.env = (false, eval e X.env) :: starEach es X.env := by rfl) (hpl : (backTo pos (starEach es X.env)).any (·.1) = false := by rfl) :
    PE X (.Call (.Name x q) (e :: es) [] pos) (tCallS (sp p.1) (fun _ => E0) t) := by
  refine ⟨fun pins s σ H Q I h => ?_⟩
  refine wpAny_Call_Name_kw (ld_glob I hg hm ?_ hdb)
  refine PySem.W.callWith_K (h₀ := X.base) I.ok.mod.kin hk (thn (ha.run pos pins s σ H _ I h) fun us s1 ⟨vs, H1, I1, r, q⟩ => ⟨I1.kIn, ?_⟩) he hpl
  have hl : us.length = ps.length := by
    rw [← r.length]
    exact F.len _ _ _ _ _ q
  have b := hb s1 us I1.kIn (by rw [List.append_nil]; exact hl)
  rw [List.append_nil] at b
  have P1 := I1.pin p (List.mem_append_left _ hp)
  have hpin : L2H.PinOk X.stack H1 s1 p := ⟨P1.1, P1.2.1, fun hm => (List.mem_cons.mp (I1.stkSub p.1 hm)).elim P1.2.2.1 P1.2.2.2.1, P1.2.2.2.2⟩
  refine wpAny_call (codeAny_mono (F.run X.A X.stack s1 H1 ⟨us, []⟩ us vs Q E0 p hr hot hz hpin I1.env0 b r q) fun r s' hq => ?_)
  cases r with
  | error e => exact (show False from hq).elim
  | ok fl =>
    cases fl with
    | ret u => exact I1.after hq
    | next => exact False.elim hq
    | brk => exact False.elim hq
    | cont => exact False.elim hq
/-- isinstance of the refusal that is pinned -/
theorem call_isP {p : Addr × Obj} (C : ExcC X.K D) (hp : p ∈ X.pn) (hz : Zc (.ref D) none p.2) (hf : ∃ vs, p.2.data = .fields vs) : CallR X (.builtin "isinstance") (rIsE X.K D p.1) := by
  intro pins s σ H xs us Q I r h
  obtain ⟨c, cv, b, rfl, hcv, e, q⟩ := h
  obtain ⟨u1, u2, rfl, r1, r2⟩ := vals2 r
  have ec := hcv _ r2
  subst ec
  cases (show u1 = Value.ref p.1 from r1)
  obtain ⟨a, oe⟩ := p
  obtain ⟨hget, _⟩ := I.pin (a, oe) (List.mem_append_left _ hp)
  obtain ⟨vs, hv⟩ := hf
  have J : PySem.W.InstAt s.heap a oe D none := by
    obtain ⟨oc, od, oda, osl⟩ := oe
    obtain ⟨h1, h2⟩ := hz
    dsimp only at h1 h2 hv
    subst h1 h2 hv
    exact ⟨hget, rfl, rfl, trivial⟩
  have Z := PySem.W.handS_kitx_exc C.hg C.hk C.hs C.hd C.ha C.hn C.ht C.hm (x := a) (ox := oe)
  exact PySem.W.kia_one Z I.kIn J e (fun z => nomatch z) fun tk => ⟨.bl b, H, I.kept (t' := tk) fun _ _ z => z, rfl, q⟩
end
theorem rc_isEV {K : PySem.W.Frag} {H : Hp} {D a : Addr} {n : String} {b : Bool} (hk : PySem.W.kitOne K (.ref D) (.type n) = some b) : RC (rIsE K D a) [.ref a, .ty n] H (.bl b) := fun H1 e _ q => ⟨.ty n, .type n, b, rfl, fun u r => r, hk, q H1 (Ex.refl H1)⟩
/-- a local name that holds a def that refuses, called -/
def tCallVS (i : Nat) (f : Addr) (sp : Sp) (E : L2.St → XK) (t : TA) : TE := fun σ H Q => σ[i]? = some (some (.ref f)) ∧ t σ H fun vs H1 => sp vs H1 Q (E σ)
theorem pe_callVX {X : Cx} {W : WX} {k i : Nat} {f : Addr} {fd : FuncData} {x : Str} {ps : List Str} {sp : Sp} {p pos : Pos} {e : Expr} {es : List Expr} {t : TA} (F : FnOk X.prog X.w X.K X.mg X.base (L2N.CX X.prog X.w) k f fd ps sp) (kp : PySem.W.keepIn X.K (.ref f) = true) (b : Binds X.K fd ps []) (tk : L2N.Takes X W) (hr : Room k X.A) (hN : X.N[i]? = some x) (hv : Vis X.env.scope x) (ha : PA X (e :: es) t)
    (hd : (x == ("__debug__" : Str)) = false := by decide) (hcd : (x == ("__classdict__" : Str)) = false := by decide) (he : starEach (e :: es) X.env = (false, eval e X.env) :: starEach es X.env := by rfl) (hpl : (backTo pos (starEach es X.env)).any (·.1) = false := by rfl) :
    PE X (.Call (.Name x p) (e :: es) [] pos) (tCallVS i f sp (WE W) t) := by
  refine ⟨fun pins s σ H Q I h => ?_⟩
  obtain ⟨hs, ht⟩ := h
  refine wpAny_Call_Name_kw (thn ((pe_var (pos := p) hN hv hd hcd).run pins s σ H (fun v H1 => v = .ref f ∧ H1 = H) I ⟨.ref f, hs, rfl, rfl⟩) fun u s1 ⟨v, H1, I1, r1, q1⟩ => ?_)
  obtain ⟨rfl, rfl⟩ := q1
  cases r1
  refine PySem.W.callWith_K (h₀ := X.base) I.ok.mod.kin kp (thn (ha.run pos pins s1 σ _ _ I1 ht) fun us s2 ⟨vs, H2, I2, r, q⟩ => ⟨I2.kIn, ?_⟩) he hpl
  exact run_fnS F hr b (L2N.passAt tk σ) I2 r q
section
variable {σ : L2.St} {H : Hp} {ta tb : TE} {t : TT} {D : Ends} {Q : VK}
theorem s_retIf {b : Bool} (h : EvT t σ H b) (h1 : b = true → ∀ H1, Ex H H1 → ta σ H1 D.rt) (h2 : b = false → ∀ H1, Ex H H1 → tb σ H1 D.rt) : tRet (tIf t ta tb) D σ H := h H (Ex.refl H) _ fun H1 e => by
  cases b with
  | true =>
    show ta σ H1 D.rt
    exact h1 rfl H1 e
  | false =>
    show tb σ H1 D.rt
    exact h2 rfl H1 e
theorem t_ifs {b : Bool} (h : EvT t σ H b) (h1 : b = true → ∀ H1, Ex H H1 → ta σ H1 Q) (h2 : b = false → ∀ H1, Ex H H1 → tb σ H1 Q) : tIf t ta tb σ H Q := h H (Ex.refl H) _ fun H1 e => by
  cases b with
  | true =>
    show ta σ H1 Q
    exact h1 rfl H1 e
  | false =>
    show tb σ H1 Q
    exact h2 rfl H1 e
theorem callS_A {sp : Sp} {E : L2.St → XK} {tA : TA} {vs : List V} (h : EvA tA σ H vs) (hs : ∀ H1, Ex H H1 → sp vs H1 Q (E σ)) : tCallS sp E tA σ H Q := h H (Ex.refl H) _ hs
end
end Rl

namespace K05
open PySem PySem.Spec PyProof.Rows L2 Evl Rl Cc
def topS (i : Nat) : Stmt := PySem.Challenge.pw_choosecarry_k05_refused.main.body.getD i (.Pass ⟨0, 0, 0, 0⟩)
abbrev s_is_whole : Stmt := topS 11
abbrev N_is_whole : List Str := ["worth"]
abbrev P_is_whole : List Str := ["worth"]
theorem sc_is_whole : FnScope N_is_whole P_is_whole (defScope s_is_whole) := ⟨rfl, rfl, rfl, by decide +kernel, rfl, by decide +kernel, by decide +kernel⟩
abbrev s_is_prime : Stmt := topS 12
abbrev N_is_prime : List Str := ["worth", "by"]
abbrev P_is_prime : List Str := ["worth"]
theorem sc_is_prime : FnScope N_is_prime P_is_prime (defScope s_is_prime) := ⟨rfl, rfl, rfl, by decide +kernel, rfl, by decide +kernel, by decide +kernel⟩
abbrev s_is_between : Stmt := topS 13
abbrev N_is_between : List Str := ["worth", "low", "high"]
abbrev P_is_between : List Str := ["worth", "low", "high"]
theorem sc_is_between : FnScope N_is_between P_is_between (defScope s_is_between) := ⟨rfl, rfl, rfl, by decide +kernel, rfl, by decide +kernel, by decide +kernel⟩
abbrev s_is_many : Stmt := topS 14
abbrev N_is_many : List Str := ["worth"]
abbrev P_is_many : List Str := ["worth"]
theorem sc_is_many : FnScope N_is_many P_is_many (defScope s_is_many) := ⟨rfl, rfl, rfl, by decide +kernel, rfl, by decide +kernel, by decide +kernel⟩
abbrev s_check_row : Stmt := topS 15
abbrev N_check_row : List Str := ["prime", "many"]
abbrev P_check_row : List Str := ["prime", "many"]
theorem sc_check_row : FnScope N_check_row P_check_row (defScope s_check_row) := ⟨rfl, rfl, rfl, by decide +kernel, rfl, by decide +kernel, by decide +kernel⟩
abbrev s_check_pick : Stmt := topS 16
abbrev N_check_pick : List Str := ["prime", "many", "some"]
abbrev P_check_pick : List Str := ["prime", "many", "some"]
theorem sc_check_pick : FnScope N_check_pick P_check_pick (defScope s_check_pick) := ⟨rfl, rfl, rfl, by decide +kernel, rfl, by decide +kernel, by decide +kernel⟩
abbrev s_paired : Stmt := topS 17
abbrev N_paired : List Str := ["row", "products", "at"]
abbrev P_paired : List Str := ["row"]
theorem sc_paired : FnScope N_paired P_paired (defScope s_paired) := ⟨rfl, rfl, rfl, by decide +kernel, rfl, by decide +kernel, by decide +kernel⟩
abbrev s_towers : Stmt := topS 18
abbrev N_towers : List Str := ["bases", "rows"]
abbrev P_towers : List Str := ["bases"]
theorem sc_towers : FnScope N_towers P_towers (defScope s_towers) := ⟨rfl, rfl, rfl, by decide +kernel, rfl, by decide +kernel, by decide +kernel⟩
abbrev s_taken_apart : Stmt := topS 19
abbrev N_taken_apart : List Str := ["number", "rows", "parts", "row", "halves", "at", "part"]
abbrev P_taken_apart : List Str := ["number", "rows"]
theorem sc_taken_apart : FnScope N_taken_apart P_taken_apart (defScope s_taken_apart) := ⟨rfl, rfl, rfl, by decide +kernel, rfl, by decide +kernel, by decide +kernel⟩
abbrev s_put_together : Stmt := topS 20
abbrev N_put_together : List Str := ["figures", "rows", "parts", "row", "joined", "at"]
abbrev P_put_together : List Str := ["figures", "rows"]
theorem sc_put_together : FnScope N_put_together P_put_together (defScope s_put_together) := ⟨rfl, rfl, rfl, by decide +kernel, rfl, by decide +kernel, by decide +kernel⟩
abbrev s_figures_of : Stmt := topS 21
abbrev N_figures_of : List Str := ["prime", "many", "bits", "places", "found"]
abbrev P_figures_of : List Str := ["prime", "many"]
theorem sc_figures_of : FnScope N_figures_of P_figures_of (defScope s_figures_of) := ⟨rfl, rfl, rfl, by decide +kernel, rfl, by decide +kernel, by decide +kernel⟩
abbrev s_products_left : Stmt := topS 22
abbrev N_products_left : List Str := ["prime", "left", "factor"]
abbrev P_products_left : List Str := ["prime"]
theorem sc_products_left : FnScope N_products_left P_products_left (defScope s_products_left) := ⟨rfl, rfl, rfl, by decide +kernel, rfl, by decide +kernel, by decide +kernel⟩
abbrev s_product_of : Stmt := topS 23
abbrev N_product_of : List Str := ["prime", "many", "figures", "often", "left", "core", "figure"]
abbrev P_product_of : List Str := ["prime", "many"]
theorem sc_product_of : FnScope N_product_of P_product_of (defScope s_product_of) := ⟨rfl, rfl, rfl, by decide +kernel, rfl, by decide +kernel, by decide +kernel⟩
abbrev s_inverse : Stmt := topS 24
abbrev N_inverse : List Str := ["number", "prime", "found", "square", "left"]
abbrev P_inverse : List Str := ["number", "prime"]
theorem sc_inverse : FnScope N_inverse P_inverse (defScope s_inverse) := ⟨rfl, rfl, rfl, by decide +kernel, rfl, by decide +kernel, by decide +kernel⟩
abbrev s_ways_of : Stmt := topS 25
abbrev N_ways_of : List Str := ["prime", "many", "some", "often", "core", "some_often", "some_core", "rest_often", "rest_core"]
abbrev P_ways_of : List Str := ["prime", "many", "some"]
theorem sc_ways_of : FnScope N_ways_of P_ways_of (defScope s_ways_of) := ⟨rfl, rfl, rfl, by decide +kernel, rfl, by decide +kernel, by decide +kernel⟩
abbrev s_bound_places : Stmt := topS 26
abbrev N_bound_places : List Str := ["prime", "many", "some", "pairs", "at", "high", "low"]
abbrev P_bound_places : List Str := ["prime", "many", "some"]
theorem sc_bound_places : FnScope N_bound_places P_bound_places (defScope s_bound_places) := ⟨rfl, rfl, rfl, by decide +kernel, rfl, by decide +kernel, by decide +kernel⟩
abbrev s_figures : Stmt := topS 28
abbrev N_figures : List Str := ["prime", "many"]
abbrev P_figures : List Str := ["prime", "many"]
theorem sc_figures : FnScope N_figures P_figures (defScope s_figures) := ⟨rfl, rfl, rfl, by decide +kernel, rfl, by decide +kernel, by decide +kernel⟩
abbrev s_product : Stmt := topS 29
abbrev N_product : List Str := ["prime", "many"]
abbrev P_product : List Str := ["prime", "many"]
theorem sc_product : FnScope N_product P_product (defScope s_product) := ⟨rfl, rfl, rfl, by decide +kernel, rfl, by decide +kernel, by decide +kernel⟩
abbrev s_row_towers : Stmt := topS 31
abbrev N_row_towers : List Str := ["prime", "many", "choices", "figure"]
abbrev P_row_towers : List Str := ["prime", "many"]
theorem sc_row_towers : FnScope N_row_towers P_row_towers (defScope s_row_towers) := ⟨rfl, rfl, rfl, by decide +kernel, rfl, by decide +kernel, by decide +kernel⟩
abbrev s_free : Stmt := topS 32
abbrev N_free : List Str := ["prime", "many"]
abbrev P_free : List Str := ["prime", "many"]
theorem sc_free : FnScope N_free P_free (defScope s_free) := ⟨rfl, rfl, rfl, by decide +kernel, rfl, by decide +kernel, by decide +kernel⟩
abbrev s_most : Stmt := topS 33
abbrev N_most : List Str := ["prime", "many", "figures", "lowest"]
abbrev P_most : List Str := ["prime", "many"]
theorem sc_most : FnScope N_most P_most (defScope s_most) := ⟨rfl, rfl, rfl, by decide +kernel, rfl, by decide +kernel, by decide +kernel⟩
abbrev s_place_by : Stmt := topS 34
abbrev N_place_by : List Str := ["prime", "many", "number", "rows", "figures"]
abbrev P_place_by : List Str := ["prime", "many", "number"]
theorem sc_place_by : FnScope N_place_by P_place_by (defScope s_place_by) := ⟨rfl, rfl, rfl, by decide +kernel, rfl, by decide +kernel, by decide +kernel⟩
abbrev s_number_of : Stmt := topS 35
abbrev N_number_of : List Str := ["prime", "many", "some", "rows", "figures", "behind"]
abbrev P_number_of : List Str := ["prime", "many", "some"]
theorem sc_number_of : FnScope N_number_of P_number_of (defScope s_number_of) := ⟨rfl, rfl, rfl, by decide +kernel, rfl, by decide +kernel, by decide +kernel⟩
abbrev s_ways : Stmt := topS 41
abbrev N_ways : List Str := ["prime", "many", "some"]
abbrev P_ways : List Str := ["prime", "many", "some"]
theorem sc_ways : FnScope N_ways P_ways (defScope s_ways) := ⟨rfl, rfl, rfl, by decide +kernel, rfl, by decide +kernel, by decide +kernel⟩
abbrev s_told : Stmt := topS 42
abbrev N_told : List Str := ["prime", "many", "some", "often", "core"]
abbrev P_told : List Str := ["prime", "many", "some"]
theorem sc_told : FnScope N_told P_told (defScope s_told) := ⟨rfl, rfl, rfl, by decide +kernel, rfl, by decide +kernel, by decide +kernel⟩
abbrev s_law_cell_at : Stmt := topS 44
abbrev N_law_cell_at : List Str := ["_law_script", "_law_k"]
abbrev P_law_cell_at : List Str := ["_law_script", "_law_k"]
theorem sc_law_cell_at : FnScope N_law_cell_at P_law_cell_at (defScope s_law_cell_at) := ⟨rfl, rfl, rfl, by decide +kernel, rfl, by decide +kernel, by decide +kernel⟩
abbrev s_law_draw : Stmt := topS 45
abbrev N_law_draw : List Str := ["_law_cell", "_law_k", "_law_many", "_law_primes"]
abbrev P_law_draw : List Str := ["_law_cell", "_law_k", "_law_many"]
theorem sc_law_draw : FnScope N_law_draw P_law_draw (defScope s_law_draw) := ⟨rfl, rfl, rfl, by decide +kernel, rfl, by decide +kernel, by decide +kernel⟩
abbrev s_law_value : Stmt := topS 46
abbrev N_law_value : List Str := ["_law_cell", "_law_k", "_law_limit"]
abbrev P_law_value : List Str := ["_law_cell", "_law_k", "_law_limit"]
theorem sc_law_value : FnScope N_law_value P_law_value (defScope s_law_value) := ⟨rfl, rfl, rfl, by decide +kernel, rfl, by decide +kernel, by decide +kernel⟩
abbrev s_law_figures : Stmt := topS 47
abbrev N_law_figures : List Str := ["_law_prime", "_law_many", "_law_found"]
abbrev P_law_figures : List Str := ["_law_prime", "_law_many"]
theorem sc_law_figures : FnScope N_law_figures P_law_figures (defScope s_law_figures) := ⟨rfl, rfl, rfl, by decide +kernel, rfl, by decide +kernel, by decide +kernel⟩
abbrev s_law_worth : Stmt := topS 48
abbrev N_law_worth : List Str := ["_law_prime", "_law_told_by", "_law_found", "_law_figure"]
abbrev P_law_worth : List Str := ["_law_prime", "_law_told_by"]
theorem sc_law_worth : FnScope N_law_worth P_law_worth (defScope s_law_worth) := ⟨rfl, rfl, rfl, by decide +kernel, rfl, by decide +kernel, by decide +kernel⟩
abbrev s_law_pair : Stmt := topS 49
abbrev N_law_pair : List Str := ["_law_script", "_law_k", "_law_prime", "_law_kind", "_law_limit", "_law_many", "_law_drawn", "_law_some", "_law_less", "_law_at", "_law_figure", "_law_power"]
abbrev P_law_pair : List Str := ["_law_script", "_law_k", "_law_prime"]
theorem sc_law_pair : FnScope N_law_pair P_law_pair (defScope s_law_pair) := ⟨rfl, rfl, rfl, by decide +kernel, rfl, by decide +kernel, by decide +kernel⟩
abbrev s_law_kinds : Stmt := topS 50
abbrev N_law_kinds : List Str := ["_law_error", "_law_found"]
abbrev P_law_kinds : List Str := ["_law_error"]
theorem sc_law_kinds : FnScope N_law_kinds P_law_kinds (defScope s_law_kinds) := ⟨rfl, rfl, rfl, by decide +kernel, rfl, by decide +kernel, by decide +kernel⟩
abbrev s_law_with_prime : Stmt := topS 51
abbrev N_law_with_prime : List Str := ["_law_door", "_law_prime"]
abbrev P_law_with_prime : List Str := ["_law_door", "_law_prime"]
theorem sc_law_with_prime : FnScope N_law_with_prime P_law_with_prime (defScope s_law_with_prime) := ⟨rfl, rfl, rfl, by decide +kernel, rfl, by decide +kernel, by decide +kernel⟩
abbrev s_law_with_many : Stmt := topS 52
abbrev N_law_with_many : List Str := ["_law_door", "_law_many"]
abbrev P_law_with_many : List Str := ["_law_door", "_law_many"]
theorem sc_law_with_many : FnScope N_law_with_many P_law_with_many (defScope s_law_with_many) := ⟨rfl, rfl, rfl, by decide +kernel, rfl, by decide +kernel, by decide +kernel⟩
abbrev s_law_with_some : Stmt := topS 53
abbrev N_law_with_some : List Str := ["_law_where", "_law_some", "_law_door", "_law_many"]
abbrev P_law_with_some : List Str := ["_law_where", "_law_some"]
theorem sc_law_with_some : FnScope N_law_with_some P_law_with_some (defScope s_law_with_some) := ⟨rfl, rfl, rfl, by decide +kernel, rfl, by decide +kernel, by decide +kernel⟩
abbrev s_law_with_number : Stmt := topS 54
abbrev N_law_with_number : List Str := ["_law_where", "_law_number", "_law_prime", "_law_many"]
abbrev P_law_with_number : List Str := ["_law_where", "_law_number"]
theorem sc_law_with_number : FnScope N_law_with_number P_law_with_number (defScope s_law_with_number) := ⟨rfl, rfl, rfl, by decide +kernel, rfl, by decide +kernel, by decide +kernel⟩
abbrev s_law_told : Stmt := topS 55
abbrev N_law_told : List Str := ["_law_ask", "_law_one", "_law_other", "_law_error"]
abbrev P_law_told : List Str := ["_law_ask", "_law_one", "_law_other"]
theorem sc_law_told : FnScope N_law_told P_law_told (defScope s_law_told) := ⟨rfl, rfl, rfl, by decide +kernel, rfl, by decide +kernel, by decide +kernel⟩
abbrev s_law : Stmt := topS 56
abbrev N_law : List Str := ["_law_script", "_law_far", "_law_due", "_law_k", "_law_strange", "_law_door", "_law_primes", "_law_thing", "_law_number", "_law_parted", "_law_part", "_law_many", "_law_prime", "_law_count"]
abbrev P_law : List Str := ["_law_script"]
theorem sc_law : FnScope N_law P_law (defScope s_law) := ⟨rfl, rfl, rfl, by decide +kernel, rfl, by decide +kernel, by decide +kernel⟩
abbrev s_Free_init : Stmt := inClass (topS 38) 0
abbrev N_Free_init : List Str := ["self", "rest"]
abbrev P_Free_init : List Str := ["self", "rest"]
theorem sc_Free_init : FnScope N_Free_init P_Free_init (defScope s_Free_init) := ⟨rfl, rfl, rfl, by decide +kernel, rfl, by decide +kernel, by decide +kernel⟩
abbrev s_Free_shows : Stmt := inClass (topS 38) 1
abbrev N_Free_shows : List Str := ["self", "prime", "many", "some"]
abbrev P_Free_shows : List Str := ["self", "prime", "many", "some"]
theorem sc_Free_shows : FnScope N_Free_shows P_Free_shows (defScope s_Free_shows) := ⟨rfl, rfl, rfl, by decide +kernel, rfl, by decide +kernel, by decide +kernel⟩
abbrev s_Bound_init : Stmt := inClass (topS 39) 0
abbrev N_Bound_init : List Str := ["self", "place"]
abbrev P_Bound_init : List Str := ["self", "place"]
theorem sc_Bound_init : FnScope N_Bound_init P_Bound_init (defScope s_Bound_init) := ⟨rfl, rfl, rfl, by decide +kernel, rfl, by decide +kernel, by decide +kernel⟩
abbrev s_Bound_shows : Stmt := inClass (topS 39) 1
abbrev N_Bound_shows : List Str := ["self", "prime", "many", "some"]
abbrev P_Bound_shows : List Str := ["self", "prime", "many", "some"]
theorem sc_Bound_shows : FnScope N_Bound_shows P_Bound_shows (defScope s_Bound_shows) := ⟨rfl, rfl, rfl, by decide +kernel, rfl, by decide +kernel, by decide +kernel⟩
/-- what the top has left -/
structure Txt (K : PySem.W.Frag) (mg : Str → Option Value) (cChooseError : Addr) (cBadPrime : Addr) (cBadMany : Addr) (cBadSome : Addr) (cBadNumber : Addr) (cNotFree : Addr) (cAnswer : Addr) (cFree : Addr) (cBound : Addr) : Prop where
  d_is_whole : Dfn K mg "is_whole" s_is_whole P_is_whole
  d_is_prime : Dfn K mg "is_prime" s_is_prime P_is_prime
  d_is_between : Dfn K mg "is_between" s_is_between P_is_between
  d_is_many : Dfn K mg "is_many" s_is_many P_is_many
  d_check_row : Dfn K mg "check_row" s_check_row P_check_row
  d_check_pick : Dfn K mg "check_pick" s_check_pick P_check_pick
  d_paired : Dfn K mg "paired" s_paired P_paired
  d_towers : Dfn K mg "towers" s_towers P_towers
  d_taken_apart : Dfn K mg "taken_apart" s_taken_apart P_taken_apart
  d_put_together : Dfn K mg "put_together" s_put_together P_put_together
  d_figures_of : Dfn K mg "figures_of" s_figures_of P_figures_of
  d_products_left : Dfn K mg "products_left" s_products_left P_products_left
  d_product_of : Dfn K mg "product_of" s_product_of P_product_of
  d_inverse : Dfn K mg "inverse" s_inverse P_inverse
  d_ways_of : Dfn K mg "ways_of" s_ways_of P_ways_of
  d_bound_places : Dfn K mg "bound_places" s_bound_places P_bound_places
  d_figures : Dfn K mg "figures" s_figures P_figures
  d_product : Dfn K mg "product" s_product P_product
  d_row_towers : Dfn K mg "row_towers" s_row_towers P_row_towers
  d_free : Dfn K mg "free" s_free P_free
  d_most : Dfn K mg "most" s_most P_most
  d_place_by : Dfn K mg "place_by" s_place_by P_place_by
  d_number_of : Dfn K mg "number_of" s_number_of P_number_of
  d_ways : Dfn K mg "ways" s_ways P_ways
  d_told : Dfn K mg "told" s_told P_told
  d_law_cell_at : Dfn K mg "_law_cell_at" s_law_cell_at P_law_cell_at
  d_law_draw : Dfn K mg "_law_draw" s_law_draw P_law_draw
  d_law_value : Dfn K mg "_law_value" s_law_value P_law_value
  d_law_figures : Dfn K mg "_law_figures" s_law_figures P_law_figures
  d_law_worth : Dfn K mg "_law_worth" s_law_worth P_law_worth
  d_law_pair : Dfn K mg "_law_pair" s_law_pair P_law_pair
  d_law_kinds : Dfn K mg "_law_kinds" s_law_kinds P_law_kinds
  d_law_with_prime : Dfn K mg "_law_with_prime" s_law_with_prime P_law_with_prime
  d_law_with_many : Dfn K mg "_law_with_many" s_law_with_many P_law_with_many
  d_law_with_some : Dfn K mg "_law_with_some" s_law_with_some P_law_with_some
  d_law_with_number : Dfn K mg "_law_with_number" s_law_with_number P_law_with_number
  d_law_told : Dfn K mg "_law_told" s_law_told P_law_told
  d_law : Dfn K mg "law" s_law P_law
  d_Free_init : Ifn K cFree "Free.__init__" s_Free_init P_Free_init
  d_Free_shows : Mfn K cFree "shows" "Free.shows" s_Free_shows P_Free_shows
  d_Bound_init : Ifn K cBound "Bound.__init__" s_Bound_init P_Bound_init
  d_Bound_shows : Mfn K cBound "shows" "Bound.shows" s_Bound_shows P_Bound_shows
  n_ValueError : mg "ValueError" = none
  n_all : mg "all" = none
  n_any : mg "any" = none
  n_enumerate : mg "enumerate" = none
  n_int : mg "int" = none
  n_isinstance : mg "isinstance" = none
  n_len : mg "len" = none
  n_list : mg "list" = none
  n_range : mg "range" = none
  n_reversed : mg "reversed" = none
  n_sum : mg "sum" = none
  n_type : mg "type" = none
  n_zip : mg "zip" = none
  g_GREATEST_PRIME : ∃ t, mg "GREATEST_PRIME" = some (.int 997 t)
  g_isqrt : mg "isqrt" = some (.builtin "math.isqrt")
  g_ChooseError : mg "ChooseError" = some (.ref cChooseError)
  g_BadPrime : mg "BadPrime" = some (.ref cBadPrime)
  g_BadMany : mg "BadMany" = some (.ref cBadMany)
  g_BadSome : mg "BadSome" = some (.ref cBadSome)
  g_BadNumber : mg "BadNumber" = some (.ref cBadNumber)
  g_NotFree : mg "NotFree" = some (.ref cNotFree)
  g_Answer : mg "Answer" = some (.ref cAnswer)
  g_Free : mg "Free" = some (.ref cFree)
  cl_Free : Cls K cFree
  g_Bound : mg "Bound" = some (.ref cBound)
  cl_Bound : Cls K cBound
  na_Free : NoAttr K cFree "rest"
  na_Bound : NoAttr K cBound "place"
  x_BadPrime : PySem.W.excIn K cBadPrime [.type "ValueError", .type "Exception", .type "BaseException", .type "object"] "ValueError.__new__" = true
  k_BadPrime : PySem.W.keepIn K (.ref cBadPrime) = true
  b_BadPrime : PySem.W.subIn K (.ref cBadPrime) (.type "BaseException") = some true
  t_BadPrime : PySem.W.typeIn K (.ref cBadPrime) = some (.type "type")
  e_BadPrime : PySem.W.exmOne K (.ref cBadPrime) (.ref cChooseError) = some true
  ec_BadPrime : ExcC K cBadPrime
  kt_BadPrime_BadPrime : PySem.W.kitOne K (.ref cBadPrime) (.ref cBadPrime) = some true
  kt_BadPrime_BadMany : PySem.W.kitOne K (.ref cBadPrime) (.ref cBadMany) = some false
  kt_BadPrime_BadSome : PySem.W.kitOne K (.ref cBadPrime) (.ref cBadSome) = some false
  kt_BadPrime_BadNumber : PySem.W.kitOne K (.ref cBadPrime) (.ref cBadNumber) = some false
  kt_BadPrime_NotFree : PySem.W.kitOne K (.ref cBadPrime) (.ref cNotFree) = some false
  kv_BadPrime : PySem.W.kitOne K (.ref cBadPrime) (.type "ValueError") = some true
  x_BadMany : PySem.W.excIn K cBadMany [.type "ValueError", .type "Exception", .type "BaseException", .type "object"] "ValueError.__new__" = true
  k_BadMany : PySem.W.keepIn K (.ref cBadMany) = true
  b_BadMany : PySem.W.subIn K (.ref cBadMany) (.type "BaseException") = some true
  t_BadMany : PySem.W.typeIn K (.ref cBadMany) = some (.type "type")
  e_BadMany : PySem.W.exmOne K (.ref cBadMany) (.ref cChooseError) = some true
  ec_BadMany : ExcC K cBadMany
  kt_BadMany_BadPrime : PySem.W.kitOne K (.ref cBadMany) (.ref cBadPrime) = some false
  kt_BadMany_BadMany : PySem.W.kitOne K (.ref cBadMany) (.ref cBadMany) = some true
  kt_BadMany_BadSome : PySem.W.kitOne K (.ref cBadMany) (.ref cBadSome) = some false
  kt_BadMany_BadNumber : PySem.W.kitOne K (.ref cBadMany) (.ref cBadNumber) = some false
  kt_BadMany_NotFree : PySem.W.kitOne K (.ref cBadMany) (.ref cNotFree) = some false
  kv_BadMany : PySem.W.kitOne K (.ref cBadMany) (.type "ValueError") = some true
  x_BadSome : PySem.W.excIn K cBadSome [.type "ValueError", .type "Exception", .type "BaseException", .type "object"] "ValueError.__new__" = true
  k_BadSome : PySem.W.keepIn K (.ref cBadSome) = true
  b_BadSome : PySem.W.subIn K (.ref cBadSome) (.type "BaseException") = some true
  t_BadSome : PySem.W.typeIn K (.ref cBadSome) = some (.type "type")
  e_BadSome : PySem.W.exmOne K (.ref cBadSome) (.ref cChooseError) = some true
  ec_BadSome : ExcC K cBadSome
  kt_BadSome_BadPrime : PySem.W.kitOne K (.ref cBadSome) (.ref cBadPrime) = some false
  kt_BadSome_BadMany : PySem.W.kitOne K (.ref cBadSome) (.ref cBadMany) = some false
  kt_BadSome_BadSome : PySem.W.kitOne K (.ref cBadSome) (.ref cBadSome) = some true
  kt_BadSome_BadNumber : PySem.W.kitOne K (.ref cBadSome) (.ref cBadNumber) = some false
  kt_BadSome_NotFree : PySem.W.kitOne K (.ref cBadSome) (.ref cNotFree) = some false
  kv_BadSome : PySem.W.kitOne K (.ref cBadSome) (.type "ValueError") = some true
  x_BadNumber : PySem.W.excIn K cBadNumber [.type "ValueError", .type "Exception", .type "BaseException", .type "object"] "ValueError.__new__" = true
  k_BadNumber : PySem.W.keepIn K (.ref cBadNumber) = true
  b_BadNumber : PySem.W.subIn K (.ref cBadNumber) (.type "BaseException") = some true
  t_BadNumber : PySem.W.typeIn K (.ref cBadNumber) = some (.type "type")
  e_BadNumber : PySem.W.exmOne K (.ref cBadNumber) (.ref cChooseError) = some true
  ec_BadNumber : ExcC K cBadNumber
  kt_BadNumber_BadPrime : PySem.W.kitOne K (.ref cBadNumber) (.ref cBadPrime) = some false
  kt_BadNumber_BadMany : PySem.W.kitOne K (.ref cBadNumber) (.ref cBadMany) = some false
  kt_BadNumber_BadSome : PySem.W.kitOne K (.ref cBadNumber) (.ref cBadSome) = some false
  kt_BadNumber_BadNumber : PySem.W.kitOne K (.ref cBadNumber) (.ref cBadNumber) = some true
  kt_BadNumber_NotFree : PySem.W.kitOne K (.ref cBadNumber) (.ref cNotFree) = some false
  kv_BadNumber : PySem.W.kitOne K (.ref cBadNumber) (.type "ValueError") = some true
  x_NotFree : PySem.W.excIn K cNotFree [.type "ValueError", .type "Exception", .type "BaseException", .type "object"] "ValueError.__new__" = true
  k_NotFree : PySem.W.keepIn K (.ref cNotFree) = true
  b_NotFree : PySem.W.subIn K (.ref cNotFree) (.type "BaseException") = some true
  t_NotFree : PySem.W.typeIn K (.ref cNotFree) = some (.type "type")
  e_NotFree : PySem.W.exmOne K (.ref cNotFree) (.ref cChooseError) = some true
  ec_NotFree : ExcC K cNotFree
  kt_NotFree_BadPrime : PySem.W.kitOne K (.ref cNotFree) (.ref cBadPrime) = some false
  kt_NotFree_BadMany : PySem.W.kitOne K (.ref cNotFree) (.ref cBadMany) = some false
  kt_NotFree_BadSome : PySem.W.kitOne K (.ref cNotFree) (.ref cBadSome) = some false
  kt_NotFree_BadNumber : PySem.W.kitOne K (.ref cNotFree) (.ref cBadNumber) = some false
  kt_NotFree_NotFree : PySem.W.kitOne K (.ref cNotFree) (.ref cNotFree) = some true
  kv_NotFree : PySem.W.kitOne K (.ref cNotFree) (.type "ValueError") = some true

/-! ### whole numbers, primes, many and some -/
/-- a value's number, if it is one; another kind has a type that is told -/
def Knd (K : PySem.W.Frag) (H : Hp) (x : V) (o : Option Int) : Prop := (∃ n : Int, x = .int n ∧ o = some n) ∨ ∃ ty : String, ty ≠ "int" ∧ TyB K H x ty ∧ o = none
theorem tyb_mono {K : PySem.W.Frag} {H H1 : Hp} {x : V} {ty : String} (h : TyB K H x ty) (e : Ex H H1) : TyB K H1 x ty := by
  cases h with
  | non => exact .non
  | bl b => exact .bl b
  | int i => exact .int i
  | str z => exact .str z
  | byt b => exact .byt b
  | lst q => exact .lst (ex_l e q)
  | tup q => exact .tup (ex_t e q)
  | dK q => exact .dK (e _ _ q)
theorem Knd.mono {K : PySem.W.Frag} {H H1 : Hp} {x : V} {o : Option Int} (h : Knd K H x o) (e : Ex H H1) : Knd K H1 x o := by
  rcases h with h | ⟨ty, h1, h2, h3⟩
  · exact .inl h
  · exact .inr ⟨ty, h1, tyb_mono h2 e, h3⟩
theorem Knd.int {K : PySem.W.Frag} {H : Hp} (n : Int) : Knd K H (.int n) (some n) := .inl ⟨n, rfl, rfl⟩
theorem Knd.some {K : PySem.W.Frag} {H : Hp} {x : V} {o : Option Int} (h : Knd K H x o) (e : o.isSome = true) : ∃ n, x = .int n ∧ o = some n := by
  rcases h with h | ⟨ty, h1, h2, h3⟩
  · exact h
  · rw [h3] at e; cases e
theorem rv_isTy {H : Hp} {a b : String} : RV (fun x y H Q => ∃ a b, x = .ty a ∧ y = .ty b ∧ Q (.bl (decide (a = b))) H) (.ty a) (.ty b) H (.bl (decide (a = b))) := fun H1 _ _ q => ⟨a, b, rfl, rfl, q H1 (Ex.refl H1)⟩
theorem sv_of {sp : Sp} {vs : List V} {H : Hp} {z : V} (h : ∀ H1, Ex H H1 → ∀ (Q : VK) E, RetV z H1 Q → sp vs H1 Q E) : SpV sp vs H z := fun H1 e Q q E => h H1 e Q E q
theorem sl_of {sp : Sp} {vs : List V} {H : Hp} {xs : List V} (h : ∀ H1, Ex H H1 → ∀ (Q : VK) E, RetL xs H1 Q → sp vs H1 Q E) : SpL sp vs H xs := fun H1 e Q q E => h H1 e Q E q
theorem su_of {sp : Sp} {vs : List V} {H : Hp} {xs : List V} (h : ∀ H1, Ex H H1 → ∀ (Q : VK) E, RetU xs H1 Q → sp vs H1 Q E) : SpU sp vs H xs := fun H1 e Q q E => h H1 e Q E q
section
variable {P : Program} {w : World} {K : PySem.W.Frag} {mg : Str → Option Value} {base : Heap} {cChooseError cBadPrime cBadMany cBadSome cBadNumber cNotFree cAnswer cFree cBound : Addr}

def sp_is_whole (K : PySem.W.Frag) : Sp := fun vs H Q _ => ∃ x o, vs = [x] ∧ Knd K H x o ∧ RetV (.bl o.isSome) H Q
theorem can_is_whole (T : Txt K mg cChooseError cBadPrime cBadMany cBadSome cBadNumber cNotFree cAnswer cFree cBound) : Can P w K mg base 1 "is_whole" P_is_whole (sp_is_whole K) := by
  refine T.d_is_whole.can sc_is_whole (fun vs H Q E h => ?_) (fun f cdv A outer s H vs Q E hr h => ?_)
  · obtain ⟨x, o, rfl, _⟩ := h
    rfl
  · obtain ⟨x, o, rfl, hk, k⟩ := h
    have nd := sc_is_whole.nd
    refine ⟨_, (pss_one (ps_ret (pe_cmpR op_isTyB (pe_callTy (r := rTyp K) call_type1 (by rfl) T.n_type (by decide +kernel) (pa_cons (pv 0) pa_nil)) (pe_bltn (v := .ty "int") (by rfl) T.n_int (by decide +kernel) rfl) (nomark _)))), ?_⟩
    obtain ⟨ty, ht, he⟩ : ∃ ty, TyB K H x ty ∧ (decide (ty = "int")) = o.isSome := by
      rcases hk with ⟨n, rfl, rfl⟩ | ⟨ty, h1, h2, rfl⟩
      · exact ⟨"int", .int n, rfl⟩
      · exact ⟨ty, h2, by simp [h1]⟩
    refine s_ret (v := .bl o.isSome) (ev_is (ev_op (ev_cb (ea_cons (ev_var rfl) ea_nil) (rc_typ ht fun H1 e => tyb_mono ht e)) ev_c rv_isTy) ?_) k
    rw [he]
theorem sv_is_whole {H : Hp} {x : V} {o : Option Int} (h : Knd K H x o) : SpV (sp_is_whole K) [x] H (.bl o.isSome) := sv_of fun H1 e Q E k => ⟨x, o, rfl, h.mono e, k⟩

def sp_is_prime (K : PySem.W.Frag) : Sp := fun vs H Q _ => ∃ x o, vs = [x] ∧ Knd K H x o ∧ RetV (.bl (o.any primeZ)) H Q
theorem can_is_prime (T : Txt K mg cChooseError cBadPrime cBadMany cBadSome cBadNumber cNotFree cAnswer cFree cBound) : Can P w K mg base 2 "is_prime" P_is_prime (sp_is_prime K) := by
  refine T.d_is_prime.can sc_is_prime (fun vs H Q E h => ?_) (fun f cdv A outer s H vs Q E hr h => ?_)
  · obtain ⟨x, o, rfl, _⟩ := h
    rfl
  · obtain ⟨x, o, rfl, hk, k⟩ := h
    have nd := sc_is_prime.nd
    refine ⟨_, (pss_cons (ps_if (PW.pt (pw_or (pt_not (pt_val (pe_callC (can_is_whole T) (hr.mono (by decide)) (by rfl) (pa_cons (pv 0) pa_nil)))) (pw_or1 (pt_not (pt_chain op_le op_le pe_int (pv 0) (pe_glob (v := .int 997) (by rfl) T.g_GREATEST_PRIME.choose_spec ⟨_, rfl⟩)))))) (pss_one (ps_ret pe_bl)) pss_nil)
    (pss_one (ps_ret (pe_callB (r := rAll K) (cr_all rfl) (by rfl) T.n_all (by decide +kernel) (pa_cons (pe_lc (own := [("by", 1)]) (g := gName 1) rfl nd (pi_range2 (by rfl) T.n_range (pa_cons pe_int (pa_cons (pe_op op_add (pe_callBfun cr_isqrt (by rfl) T.g_isqrt (pa_cons (pv 0) pa_nil)) pe_int) pa_nil))) (blkOk_by (own := [("by", 1)]) (N := N_is_prime) (sc := defScope s_is_prime) (by decide +kernel)) (fun _ _ _ _ _ => (pg_name (i := 1) nd rfl (Or.inl rfl))) (fun _ _ _ _ _ => pts_nil) (fun _ _ _ _ _ => (pe_cmpR op_ne (pe_op op_mod (pv 0) (pv 1)) pe_int (nomark _)))) pa_nil))))), ?_⟩
    have c1 : Ev (tCall (sp_is_whole K) [] E0 (tCons (tVar 0) tNil)) (start N_is_prime [x]) H (.bl o.isSome) := ev_callN (ea_cons (ev_var rfl) ea_nil) (sv_is_whole hk)
    cases ho : o with
    | none =>
      rw [ho] at c1 k
      exact q_when (b := true) (et_or (a := true) (b := true) (et_not (a := false) (et_B c1)) fun h => by cases h) (fun _ H1 e => s_ret ev_c fun H2 e2 => k H2 (e.trans e2)) fun h => by cases h
    | some n =>
      rw [ho] at c1 k hk
      obtain ⟨n', rfl, e'⟩ := hk.some rfl
      cases e'
      have c2 : EvT (tTest (tChain (rI0 fun i j => .bl (decide (i ≤ j))) (rI0 fun i j => .bl (decide (i ≤ j))) (tC (.int 2)) (tVar 0) (tC (.int 997)))) (start N_is_prime [.int n]) H (decide (2 ≤ n) && decide (n ≤ 997)) :=
        et_test (ev_chain ev_c (ev_var rfl) rv_I0 (fun _ => ev_c) fun _ => rv_I0)
      refine q_when (b := !(decide (2 ≤ n) && decide (n ≤ 997))) (et_or (a := false) (et_not (a := true) (et_B c1)) fun _ => et_not c2) (fun hb H1 e => ?_) fun hb H1 e => ?_
      · refine s_ret ev_c fun H2 e2 => ?_
        have q := k H2 (e.trans e2)
        have z : primeZ n = false := by
          unfold primeZ
          rw [Bool.not_eq_true'] at hb
          rw [hb, Bool.false_and]
        rw [show (some n).any primeZ = primeZ n from rfl, z] at q
        exact q
      · rw [Bool.not_eq_false'] at hb
        rw [Bool.and_eq_true, decide_eq_true_eq, decide_eq_true_eq] at hb
        obtain ⟨h2, h9⟩ := hb
        obtain ⟨p, rfl⟩ : ∃ p : Nat, n = (p : Int) := ⟨n.toNat, by omega⟩
        have hq : Float64.isqrt p ≤ p := isqrt_le p (by omega)
        refine s_ret (v := .bl (primeZ p)) (ev_is (v := .bl (((List.range (((Float64.isqrt p : Nat) : Int) + 1 - 2).toNat).map fun i => decide (p % (2 + i) ≠ 0)).all id)) (ev_cbNew (xs := (List.range (((Float64.isqrt p : Nat) : Int) + 1 - 2).toNat).map fun i => V.bl (decide (p % (2 + i) ≠ 0))) ?_ fun q H2 e2 h2 => ?_) ?_) fun H2 e2 => k H2 (e.trans e2)
        · rw [← given_all]
          refine el_lcW (fun _ => true) _ (ei_rng2 (lo := 2) (hi := ((Float64.isqrt p : Nat) : Int) + 1) (ea_cons ev_c (ea_cons (ev_op (ev_cb (ea_cons (ev_var rfl) ea_nil) (rc_isqrt (a := (p : Int)) (by omega) (by omega))) ev_c rv_I0) ea_nil)) (by omega)) walk_range (by omega) (fun _ _ => trivial) fun i x H2 H3 R e2 hi y kk => ?_
          obtain ⟨rfl, rfl⟩ := y
          refine kk _ _ (Ex.refl _) rfl (fun H4 _ Q q => q H4 (Ex.refl H4)) fun _ => ?_
          refine ev_is (ev_op (ev_op (ev_var rfl) (ev_var rfl) (rv_mod (by omega))) ev_c (rv_ne rfl)) ?_
          have e1 : ((p : Int) % (2 + (i : Int))) = ((p % (2 + i) : Nat) : Int) := by
            rw [Int.natCast_emod, Int.natCast_add]
            rfl
          rw [e1]
          congr 1
          by_cases z : p % (2 + i) = 0
          · rw [z]; rfl
          · rw [decide_eq_true z]
            have : ¬ (V.int ((p % (2 + i) : Nat) : Int) = V.int 0) := fun q => z (by have := V.int.inj q; omega)
            rw [decide_eq_false this]
            rfl
        · exact rc_all (bs := (List.range (((Float64.isqrt p : Nat) : Int) + 1 - 2).toNat).map fun i => decide (p % (2 + i) ≠ 0)) (by rw [List.map_map]; exact sq_of h2)
        · congr 1
          unfold primeZ primeB
          rw [decide_eq_true h2, decide_eq_true h9, Int.toNat_natCast, Bool.true_and, Bool.true_and]
          rw [show (((Float64.isqrt p : Nat) : Int) + 1 - 2).toNat = Float64.isqrt p - 1 by omega, List.all_map]
          rfl
end

section
variable {P : Program} {w : World} {K : PySem.W.Frag} {mg : Str → Option Value} {base : Heap} {cChooseError cBadPrime cBadMany cBadSome cBadNumber cNotFree cAnswer cFree cBound : Addr}
theorem sv_is_prime {H : Hp} {x : V} {o : Option Int} (h : Knd K H x o) : SpV (sp_is_prime K) [x] H (.bl (o.any primeZ)) := sv_of fun H1 e Q E k => ⟨x, o, rfl, h.mono e, k⟩

def sp_is_between (K : PySem.W.Frag) : Sp := fun vs H Q _ => ∃ (x : V) (o : Option Int) (lo hi : Int), vs = [x, .int lo, .int hi] ∧ Knd K H x o ∧ RetV (.bl (o.any fun n => decide (lo ≤ n) && decide (n ≤ hi))) H Q
theorem can_is_between (T : Txt K mg cChooseError cBadPrime cBadMany cBadSome cBadNumber cNotFree cAnswer cFree cBound) : Can P w K mg base 2 "is_between" P_is_between (sp_is_between K) := by
  refine T.d_is_between.can sc_is_between (fun vs H Q E h => ?_) (fun f cdv A outer s H vs Q E hr h => ?_)
  · obtain ⟨x, o, lo, hi, rfl, _⟩ := h
    rfl
  · obtain ⟨x, o, lo, hi, rfl, hk, k⟩ := h
    have nd := sc_is_between.nd
    refine ⟨_, (pss_one (ps_ret (pe_and (pe_callC (can_is_whole T) (hr.mono (by decide)) (by rfl) (pa_cons (pv 0) pa_nil)) (pe_one (pe_chain op_le op_le (pv 1) (pv 0) (pv 2)))))), ?_⟩
    refine s_ret (ev_is (v := .bl (o.isSome && (o.any fun n => decide (lo ≤ n) && decide (n ≤ hi)))) (ev_andV (ev_callN (ea_cons (ev_var rfl) ea_nil) (sv_is_whole hk)) fun hs => ?_) ?_) k
    · obtain ⟨n, rfl, rfl⟩ := hk.some hs
      exact ev_chain (b1 := decide (lo ≤ n)) (ev_var rfl) (ev_var rfl) rv_I0 (fun _ => ev_var rfl) fun _ => rv_I0
    · cases o <;> rfl
theorem sv_is_between {H : Hp} {x : V} {o : Option Int} {lo hi : Int} (h : Knd K H x o) : SpV (sp_is_between K) [x, .int lo, .int hi] H (.bl (o.any fun n => decide (lo ≤ n) && decide (n ≤ hi))) := sv_of fun H1 e Q E k => ⟨x, o, lo, hi, rfl, h.mono e, k⟩

def sp_is_many (K : PySem.W.Frag) : Sp := fun vs H Q _ => ∃ (x : V) (o : Option Int), vs = [x] ∧ Knd K H x o ∧ RetV (.bl (o.any fun n => decide (0 ≤ n))) H Q
theorem can_is_many (T : Txt K mg cChooseError cBadPrime cBadMany cBadSome cBadNumber cNotFree cAnswer cFree cBound) : Can P w K mg base 2 "is_many" P_is_many (sp_is_many K) := by
  refine T.d_is_many.can sc_is_many (fun vs H Q E h => ?_) (fun f cdv A outer s H vs Q E hr h => ?_)
  · obtain ⟨x, o, rfl, _⟩ := h
    rfl
  · obtain ⟨x, o, rfl, hk, k⟩ := h
    have nd := sc_is_many.nd
    refine ⟨_, (pss_one (ps_ret (pe_and (pe_callC (can_is_whole T) (hr.mono (by decide)) (by rfl) (pa_cons (pv 0) pa_nil)) (pe_one (pe_cmpR op_ge (pv 0) pe_int (nomark _)))))), ?_⟩
    refine s_ret (ev_is (v := .bl (o.isSome && (o.any fun n => decide (0 ≤ n)))) (ev_andV (ev_callN (ea_cons (ev_var rfl) ea_nil) (sv_is_whole hk)) fun hs => ?_) ?_) k
    · obtain ⟨n, rfl, rfl⟩ := hk.some hs
      exact ev_op (ev_var rfl) ev_c rv_I0
    · cases o <;> rfl
theorem sv_is_many {H : Hp} {x : V} {o : Option Int} (h : Knd K H x o) : SpV (sp_is_many K) [x] H (.bl (o.any fun n => decide (0 ≤ n))) := sv_of fun H1 e Q E k => ⟨x, o, rfl, h.mono e, k⟩
end

/-! ### rows of bases -/
section
variable {P : Program} {w : World} {K : PySem.W.Frag} {mg : Str → Option Value} {base : Heap} {cChooseError cBadPrime cBadMany cBadSome cBadNumber cNotFree cAnswer cFree cBound : Addr}
def sp_paired (K : PySem.W.Frag) : Sp := fun vs H Q _ => ∃ (a : Addr) (r : List Nat), vs = [.ref a] ∧ SqL K H a (nl r) ∧ Fit r ∧ RetL (nl (pairUp r)) H Q
theorem can_paired (T : Txt K mg cChooseError cBadPrime cBadMany cBadSome cBadNumber cNotFree cAnswer cFree cBound) : Can P w K mg base 1 "paired" P_paired (sp_paired K) := by
  refine T.d_paired.can sc_paired (fun vs H Q E h => ?_) (fun f cdv A outer s H vs Q E hr h => ?_)
  · obtain ⟨a, r, rfl, _⟩ := h
    rfl
  · obtain ⟨a, r, rfl, hS, hf, k⟩ := h
    have nd := sc_paired.nd
    have hl := hf.len
    refine ⟨_, (pss_cons (ps_setLc (i := 1) (own := [("at", 2)]) (g := gName 2) rfl nd rfl rfl (sw_true rfl rfl rfl (by decide +kernel)) (pi_range3 (by rfl) T.n_range (pa_cons pe_int (pa_cons (pe_op op_sub (pe_callB (r := rLenS K) call_len_seq (by rfl) T.n_len PySem.boot_len (pa_cons (pv 0) pa_nil)) pe_int) (pa_cons pe_int pa_nil)))) (blkOk_by (own := [("at", 2)]) (N := N_paired) (sc := defScope s_paired) (by decide +kernel)) (fun _ _ _ _ _ => (pg_name (i := 2) nd rfl (Or.inl rfl))) (fun _ _ _ _ _ => pts_nil) (fun _ _ _ _ _ => (pe_op op_mulX (pe_ix (r := rIxL K) ix_list (pv 0) (pv 2) (fun _ _ => rfl)) (pe_ix (r := rIxL K) ix_list (pv 0) (pe_op op_add (pv 2) pe_int) (fun _ _ => rfl)))))
    (pss_one (ps_ret (pe_op op_cat (pv 1) (pe_slice sl_list (pv 0) (po_some (pe_op op_mulX (pe_callB (r := rLenS K) call_len_seq (by rfl) T.n_len PySem.boot_len (pa_cons (pv 1) pa_nil)) pe_int)) po_none))))), ?_⟩
    generalize hps : ((List.range (r.length / 2)).map fun i => r.getD (2 * i) 0 * r.getD (2 * i + 1) 0) = ps
    have lps : ps.length = r.length / 2 := by rw [← hps, List.length_map, List.length_range]
    refine q_asgL (xs := nl ps) ?_ fun p H1 hp e1 h1 => ?_
    · have e0 : nl ps = given (r.length / 2) (fun _ => true) fun i => V.int ((r.getD (2 * i) 0 * r.getD (2 * i + 1) 0 : Nat) : Int) := by
        rw [given_all, ← hps]
        unfold nl
        rw [List.map_map]
        rfl
      rw [e0]
      have hsub : Ev (tOp (rI0 fun i j => .int (i - j)) (tCB (rLenS K) (tCons (tVar 0) tNil)) (tC (.int 1))) (start N_paired [.ref a]) H (.int ((r.length : Int) - 1)) := ev_is (ev_op (ev_len (ev_var rfl) hS) ev_c rv_I0) (by rw [nl_len])
      refine el_lcW (fun _ => true) _ (ei_rng3 (lo := 0) (hi := (r.length : Int) - 1) (c := 2) (ea_cons ev_c (ea_cons hsub (ea_cons ev_c ea_nil))) (rgc2 r.length (by omega))) walk_rangeC (by omega) (fun _ _ => trivial) fun i x H2 H3 R e2 hi y kk => ?_
      obtain ⟨rfl, rfl⟩ := y
      refine kk _ _ (Ex.refl _) rfl (fun H4 _ Q q => q H4 (Ex.refl H4)) fun _ => ?_
      have hS2 := ex_l e2 hS
      have j1 : 2 * i < r.length := by omega
      have j2 : 2 * i + 1 < r.length := by omega
      have b1 : r.getD (2 * i) 0 < 2 ^ 4000 := by
        rw [List.getD_eq_getElem?_getD, List.getElem?_eq_getElem j1]
        exact hf.lt (List.getElem_mem j1)
      have b2 : r.getD (2 * i + 1) 0 < 2 ^ 4000 := by
        rw [List.getD_eq_getElem?_getD, List.getElem?_eq_getElem j2]
        exact hf.lt (List.getElem_mem j2)
      exact ev_op (ev_op (ev_var rfl) (ev_var rfl) (rv_ixL hS2 (at_nl (j := 2 * i) (by omega) j1))) (ev_op (ev_var rfl) (ev_op (ev_var rfl) ev_c rv_I0) (rv_ixL hS2 (at_nl (j := 2 * i + 1) (by omega) j2))) (rv_mulN (cmul_small b1 b2))
    · have e0 : nl (pairUp r) = nl ps ++ cutV (nl r) (some ((ps.length * 2 : Nat) : Int)) none := by
        rw [cut_from, ← nl_drop, ← nl_app, lps, pairUp_eq, hps]
      refine s_retL (xs := nl (pairUp r)) ?_ fun q H2 hq e2 h2 => k q H2 (fresh_back e1 hq) (e1.trans e2) h2
      rw [e0]
      refine el_cat (ev_var rfl) h1 (el_sl (ev_var rfl) (eo_some (ev_is (ev_op (ev_len (ev_var rfl) (sq_of h1)) ev_c (rv_mulN (n := (nl ps).length) (m := 2) ?_)) ?_)) eo_none (ex_l e1 hS)) ?_
      · rw [nl_len]
        exact cmul_small (lt_big (by omega)) (lt_big (by decide))
      · rw [nl_len]
      · rw [nl_len, cut_from, List.length_drop, nl_len]
        omega
theorem sl_paired {H : Hp} {a : Addr} {r : List Nat} (h : SqL K H a (nl r)) (hf : Fit r) : SpL (sp_paired K) [.ref a] H (nl (pairUp r)) := sl_of fun H1 e Q E k => ⟨a, r, rfl, ex_l e h, hf, k⟩

def sp_towers (K : PySem.W.Frag) : Sp := fun vs H Q _ => ∃ (a : Addr) (r : List Nat), vs = [.ref a] ∧ H a = some (.lst (nl r)) ∧ Fit r ∧ ∀ R H2, H R = none → Ex H H2 → RowsAt H2 R (tow r) → Q (.ref R) H2
theorem can_towers (T : Txt K mg cChooseError cBadPrime cBadMany cBadSome cBadNumber cNotFree cAnswer cFree cBound) : Can P w K mg base 2 "towers" P_towers (sp_towers K) := by
  refine T.d_towers.can sc_towers (fun vs H Q E h => ?_) (fun f cdv A outer s H vs Q E hr h => ?_)
  · obtain ⟨a, r, rfl, _⟩ := h
    rfl
  · obtain ⟨a, r, rfl, hS, hf, k⟩ := h
    have nd := sc_towers.nd
    refine ⟨_, (pss_cons (ps_set (i := 1) nd rfl (Or.inl rfl) (pe_lst (pa_cons (pv 0) pa_nil)))
    (pss_cons (ps_while PassesOwn.never (pt_cmpR op_gt (pe_callB (r := rLenS K) call_len_seq (by rfl) T.n_len PySem.boot_len (pa_cons (pe_ix (r := rIxL K) ix_list (pv 1) (pe_un un_neg pe_int) (fun _ _ => rfl)) pa_nil)) pe_int (nomark _)) (pss_one (ps_expr (pe_bm PySem.F.plainAttrs_list PySem.F.slot_list_append PySem.F.type_list_append mt_append (pv 1) (pa_cons (pe_callC (can_paired T) (hr.mono (by decide)) (by rfl) (pa_cons (pe_ix (r := rIxL K) ix_list (pv 1) (pe_un un_neg pe_int) (fun _ _ => rfl)) pa_nil)) pa_nil)))))
    (pss_one (ps_ret (pv 1))))), ?_⟩
    refine q_asgL (el_lst (ea_cons (ev_var rfl) ea_nil) (by show 1 ≤ 100000; decide)) fun R H1 hR e1 h1 => ?_
    -- the rows so far: done, and cur behind them
    refine q_while (fun m σ' H' => ∃ (done : List (List Nat)) (cur : List Nat) (as : List Addr) (b : Addr), σ' = [some (.ref a), some (.ref R)] ∧ m = cur.length ∧ tow r = done ++ tow cur ∧ Fit cur ∧ done.length + cur.length ≤ r.length ∧ Ex H H' ∧ H' R = some (.lst ((as ++ [b]).map V.ref)) ∧ as.length = done.length ∧
      (∀ (i : Nat) (c : Addr) (s : List Nat), as[i]? = some c → done[i]? = some s → H' c = some (.lst (nl s)) ∧ c ≠ R) ∧ H' b = some (.lst (nl cur)) ∧ b ≠ R) r.length ?_ ?_
    · refine ⟨[], r, [], a, rfl, rfl, rfl, hf, by simp, e1, h1, rfl, fun i c s h => by simp at h, e1 _ _ hS, ne_of_none hS hR⟩
    · rintro m σ' H' ⟨done, cur, as, b, rfl, rfl, et, fc, hlen, ex, hRr, hal, hrows, hb, hbR⟩
      have hl := hf.len
      have eb : ∀ {H'' : Hp}, Ex H' H'' → Ev (tOp (rIxL K) (tVar 1) (tUn (rU fun i => .int (-i)) (tC (.int 1)))) [some (V.ref a), some (V.ref R)] H'' (.ref b) := fun e =>
        ev_op (ev_var rfl) (ev_un ev_c ru_neg) (rv_ixL (sq_of (e R _ hRr)) (by rw [List.map_append]; exact atI_last _ _))
      refine ⟨decide ((1 : Int) < (cur.length : Int)), et_test (ev_is (ev_op (ev_len (eb (Ex.refl _)) (sq_of hb)) ev_c rv_I0) (by rw [nl_len])), fun hc H2 e2 => ?_, fun hc H2 e2 => ?_⟩
      · have h2 : 1 < cur.length := by
          have := of_decide_eq_true hc
          omega
        refine ⟨fun σ2 H3 => ∃ (done : List (List Nat)) (cur' : List Nat) (as : List Addr) (b : Addr), cur'.length < cur.length ∧ σ2 = [some (.ref a), some (.ref R)] ∧ tow r = done ++ tow cur' ∧ Fit cur' ∧ done.length + cur'.length ≤ r.length ∧ Ex H H3 ∧ H3 R = some (.lst ((as ++ [b]).map V.ref)) ∧ as.length = done.length ∧
          (∀ (i : Nat) (c : Addr) (s : List Nat), as[i]? = some c → done[i]? = some s → H3 c = some (.lst (nl s)) ∧ c ≠ R) ∧ H3 b = some (.lst (nl cur')) ∧ b ≠ R, ?_, ?_⟩
        · rintro σ2 H3 ⟨d, c, as, b, hlt, r1, r2, r3, r4, r5, r6, r7, r8, r9, r10⟩
          exact ⟨c.length, hlt, d, c, as, b, r1, rfl, r2, r3, r4, r5, r6, r7, r8, r9, r10⟩
        · refine s_appL (e2 R _ hRr) (ev_var rfl) (el_callN (ea_cons (eb e2) ea_nil) (sl_paired (sq_of (e2 _ _ hb)) fc)) ?_ fun q H3 hq e3 h3 => ?_
          · rw [List.length_map, List.length_append, hal, List.length_singleton]
            omega
          · have hqR : q ≠ R := (ne_of_none (e2 R _ hRr) hq).symm
            have off : ∀ {c : Addr} {s : List Nat}, H' c = some (.lst (nl s)) ∧ c ≠ R → (upd H3 R (.lst (List.map V.ref (as ++ [b]) ++ [V.ref q]))) c = some (.lst (nl s)) ∧ c ≠ R := fun {c s} hh => by
              refine ⟨?_, hh.2⟩
              rw [upd_ne hh.2]
              exact e3 _ _ (e2 _ _ hh.1)
            refine ⟨done ++ [cur], pairUp cur, as ++ [b], q, by rw [pairUp_len]; omega, rfl, by rw [et, tow_big h2, List.append_assoc]; rfl, fc.up, by rw [List.length_append, List.length_singleton, pairUp_len]; omega, Ex.mut ((ex.trans e2).trans e3) hR, ?_, by rw [List.length_append, List.length_append, hal]; rfl, fun i c s g1 g2 => ?_, ?_, hqR⟩
            · rw [upd_same, List.map_append (l₁ := as ++ [b])]
              rfl
            · by_cases hi : i < as.length
              · rw [List.getElem?_append_left hi] at g1
                rw [List.getElem?_append_left (by omega)] at g2
                exact off (hrows i c s g1 g2)
              · have hi2 : i = as.length := by
                  have := (List.getElem?_eq_some_iff.mp g1).1
                  rw [List.length_append, List.length_singleton] at this
                  omega
                subst hi2
                have y1 : b = c := by simpa using g1
                have y2 : cur = s := by rw [hal] at g2; simpa using g2
                subst y1 y2
                exact off ⟨hb, hbR⟩
            · rw [upd_ne hqR]
              exact h3
      · have h2 : cur.length ≤ 1 := by
          have := of_decide_eq_false hc
          omega
        refine s_ret (ev_var rfl) fun H3 e3 => k R H3 hR ((ex.trans e2).trans e3) ?_
        refine RowsAt.mono (H := H') ⟨as ++ [b], hRr, by rw [et, tow_small h2, List.length_append, List.length_append, hal]; rfl, fun i c s g1 g2 => ?_⟩ (e2.trans e3)
        rw [et, tow_small h2] at g2
        by_cases hi : i < as.length
        · rw [List.getElem?_append_left hi] at g1
          rw [List.getElem?_append_left (by omega)] at g2
          exact (hrows i c s g1 g2).1
        · have hi2 : i = as.length := by
            have := (List.getElem?_eq_some_iff.mp g1).1
            rw [List.length_append, List.length_singleton] at this
            omega
          subst hi2
          have y1 : b = c := by simpa using g1
          have y2 : cur = s := by rw [hal] at g2; simpa using g2
          subst y1 y2
          exact hb
end

section
variable {P : Program} {w : World} {K : PySem.W.Frag} {mg : Str → Option Value} {base : Heap} {cChooseError cBadPrime cBadMany cBadSome cBadNumber cNotFree cAnswer cFree cBound : Addr}
def sp_taken_apart : Sp := fun vs H Q _ => ∃ (n : Nat) (R : Addr) (r : List Nat), vs = [.int (n : Int), .ref R] ∧ RowsAt H R (tow r) ∧ Fit r ∧ RetL (nl (mix r n)) H Q
theorem can_taken_apart (T : Txt K mg cChooseError cBadPrime cBadMany cBadSome cBadNumber cNotFree cAnswer cFree cBound) : Can P w K mg base 1 "taken_apart" P_taken_apart sp_taken_apart := by
  refine T.d_taken_apart.can sc_taken_apart (fun vs H Q E h => ?_) (fun f cdv A outer s H vs Q E hr h => ?_)
  · obtain ⟨n, R, r, rfl, _⟩ := h
    rfl
  · obtain ⟨n, R, r, rfl, hR, hf, k⟩ := h
    have nd := sc_taken_apart.nd
    refine ⟨_, (pss_cons (ps_set (i := 2) nd rfl (Or.inl rfl) (pe_lst (pa_cons (pv 0) pa_nil)))
    (pss_cons (ps_for PassesOwn.never rfl (pi_reversed (by rfl) T.n_reversed (pa_cons (pe_slice sl_list (pv 1) po_none (po_some (pe_un un_neg pe_int))) pa_nil)) (pg_name (i := 3) nd rfl (Or.inl rfl)) (pss_cons (ps_set (i := 4) nd rfl (Or.inl rfl) (pe_lst pa_nil))
    (pss_cons (ps_for PassesOwn.never rfl (pi_enum (by rfl) T.n_enumerate (pa_cons (pv 2) pa_nil)) (pg_tup rfl (pgs_cons (pg_name (i := 5) nd rfl (Or.inl rfl)) (pgs_cons (pg_name (i := 6) nd rfl (Or.inl rfl)) pgs_nil))) (pss_one (ps_if (pt_cmpR op_lt (pe_op op_add (pe_op op_mulX (pv 5) pe_int) pe_int) (pe_callB (r := rLenS K) call_len_seq (by rfl) T.n_len PySem.boot_len (pa_cons (pv 3) pa_nil)) (nomark _)) (pss_cons (ps_expr (pe_bm PySem.F.plainAttrs_list PySem.F.slot_list_append PySem.F.type_list_append mt_append (pv 4) (pa_cons (pe_op op_mod (pv 6) (pe_ix (r := rIxL K) ix_list (pv 3) (pe_op op_mulX (pv 5) pe_int) (fun _ _ => rfl))) pa_nil)))
    (pss_one (ps_expr (pe_bm PySem.F.plainAttrs_list PySem.F.slot_list_append PySem.F.type_list_append mt_append (pv 4) (pa_cons (pe_op op_fdivW (pv 6) (pe_ix (r := rIxL K) ix_list (pv 3) (pe_op op_mulX (pv 5) pe_int) (fun _ _ => rfl))) pa_nil))))) (pss_one (ps_expr (pe_bm PySem.F.plainAttrs_list PySem.F.slot_list_append PySem.F.type_list_append mt_append (pv 4) (pa_cons (pv 6) pa_nil)))))))
    (pss_one (ps_set (i := 2) nd rfl (Or.inl rfl) (pv 4))))))
    (pss_one (ps_ret (pv 2))))), ?_⟩
    obtain ⟨as, hRl, hal, hrows⟩ := hR
    generalize hrw : tow r = rows at hal hrows
    have ch : Chn rows := hrw ▸ chn_tow r
    have ft : ∀ s ∈ rows, Fit s := hrw ▸ fit_tow hf
    have r0 : rows[0]? = some r := hrw ▸ tow_zero r
    have hrl : rows.length ≤ 4001 := by
      have h1 := tow_length r.length r (by omega)
      have h2 := hf.len
      rw [hrw] at h1
      omega
    have pl : 0 < rows.length := List.length_pos_iff.mpr ch.ne
    obtain ⟨m, hm⟩ : ∃ m, rows.length = m + 1 := ⟨rows.length - 1, by omega⟩
    -- parts = [number]
    refine q_asgL (xs := [V.int (n : Int)]) (el_lst (ea_cons (ev_var rfl) ea_nil) (by show 1 ≤ 100000; decide)) fun q0 H1 hq0 e1 h1 => ?_
    have hRl1 : H1 R = some (.lst (as.map V.ref)) := e1 _ _ hRl
    have esl : EvL (tSl (rSlL K) (tVar 1) tNoPart (tPart (tUn (rU fun i => .int (-i)) (tC (.int 1))))) ((start N_taken_apart [.int (n : Int), .ref R]).set 2 (some (.ref q0))) H1 ((as.take m).map V.ref) := by
      have e0 : (as.take m).map V.ref = cutV (as.map V.ref) none (some (-1)) := by
        rw [cut_init, List.dropLast_eq_take, List.length_map, hal, hm, Nat.add_sub_cancel, List.map_take]
      rw [e0]
      exact el_sl (ev_var rfl) eo_none (eo_some (ev_un ev_c ru_neg)) (sq_of hRl1)
    have lm : ((as.take m).map V.ref).length = m := by
      rw [List.length_map, List.length_take]
      omega
    -- behind i rows the parts are those of the row at m - i
    refine q_forWN (n := m) (ein_rev esl) (fun p => by have q := walk_rev (K := K) (a := p) (xs := (as.take m).map V.ref); rw [lm] at q ⊢; exact q)
      (fun p i σ' H' => ∃ (y3 y4 y5 y6 : Option V) (q : Addr) (s : List Nat), σ' = [some (.int (n : Int)), some (.ref R), some (.ref q), y3, y4, y5, y6] ∧ rows[m - i]? = some s ∧ Ex H H' ∧ H' p = some (.lst ((as.take m).map V.ref)) ∧ H p = none ∧ H q = none ∧ H' q = some (.lst (nl (mix s n)))) ?_ ?_ ?_ ?_
    · intro p H2 hp e2 h2
      obtain ⟨s, hs⟩ : ∃ s, rows[m]? = some s := ⟨rows[m]'(by omega), List.getElem?_eq_getElem (by omega)⟩
      have hs1 : s.length ≤ 1 := ch.last s (by rw [hm, Nat.add_sub_cancel]; exact hs)
      refine ⟨none, none, none, none, q0, s, rfl, hs, e1.trans e2, h2, fresh_back e1 hp, hq0, ?_⟩
      rw [mix_short hs1]
      exact e2 _ _ h1
    · rintro p i σ' H' hi ⟨_, _, _, _, q, s, _, _, _, hp, _, _, _⟩
      exact sq_of hp
    · rintro p i x σ' H2 H3 hi ⟨y3, y4, y5, y6, q, s, rfl, hs, ex, hp, hpn, hqn, hq⟩ y
      obtain ⟨rfl, hx⟩ := y
      -- the row that is walked now
      have hj : m - 1 - i < m := by omega
      obtain ⟨a, ha⟩ : ∃ a, as[m - 1 - i]? = some a := ⟨as[m - 1 - i]'(by omega), List.getElem?_eq_getElem (by omega)⟩
      obtain ⟨row, hrow⟩ : ∃ row, rows[m - 1 - i]? = some row := ⟨rows[m - 1 - i]'(by omega), List.getElem?_eq_getElem (by omega)⟩
      have ex0 : x = .ref a := by
        rw [List.getElem?_map, List.getElem?_take_of_lt hj, ha] at hx
        exact (Option.some.inj hx).symm
      subst ex0
      have hA : H a = some (.lst (nl row)) := hrows _ a row ha hrow
      have hf1 := ft row (List.mem_of_getElem? hrow)
      have hlr := hf1.len
      obtain ⟨hexp, hlen⟩ := mix_row ch hrow (by rw [show m - 1 - i + 1 = m - i by omega]; exact hs) n
      have hA2 : H3 a = some (.lst (nl row)) := ex _ _ hA
      -- halves = []
      refine q_asgL (xs := []) (el_lst ea_nil (by show 0 ≤ 100000; decide)) fun hv H4 hhv e4 h4 => ?_
      generalize hmx : mix s n = ps at hq hexp hlen
      -- the halves behind i parts
      refine q_forW (n := ps.length) (ei_enum (a := q) (xs := nl ps) (ea_cons (ev_var rfl) ea_nil) (sq_of (e4 _ _ hq))) (by have z := walk_enum (K := K) (a := q) (xs := nl ps); rw [nl_len] at z; exact z)
        (fun j σ' H' => ∃ (y5 y6 : Option V), σ' = [some (.int (n : Int)), some (.ref R), some (.ref q), some (.ref a), some (.ref hv), y5, y6] ∧ Ex H H' ∧ H' p = some (.lst ((as.take m).map V.ref)) ∧ H' q = some (.lst (nl ps)) ∧ H' hv = some (.lst (nl ((expand ps row).take (2 * j))))) ?_ ?_ ?_ ?_
      · intro H5 e5
        exact ⟨y5, y6, rfl, (ex.trans e4).trans e5, e5 _ _ (e4 _ _ hp), e5 _ _ (e4 _ _ hq), e5 _ _ h4⟩
      · rintro j σ' H' hj ⟨_, _, _, _, _, z, _⟩
        exact sq_of z
      · rintro j x σ' H5 H6 hj2 ⟨z5, z6, rfl, ex5, hp5, hq5, hh5⟩ y
        obtain ⟨Tt, u, v, rfl, nT, rfl, eu, ev⟩ := y
        obtain rfl : V.int (j : Nat) = u := Option.some.inj eu
        obtain ⟨d, hd, rfl⟩ := nl_some ev
        refine g_pair upd_same ?_
        have eT : Ex H5 (upd H5 Tt (.tup [V.int (j : Nat), V.int (d : Int)])) := Ex.new nT
        have npq : hv ≠ Tt := ne_of_none hh5 nT
        have fin : ∀ {l : List Nat} {H7 : Hp}, Ex (upd H5 Tt (.tup [V.int (j : Nat), V.int (d : Int)])) H7 → (expand ps row).take (2 * (j + 1)) = l → ∃ (y5 y6 : Option V), (([some (V.int (n : Int)), some (V.ref R), some (V.ref q), some (V.ref a), some (V.ref hv), z5, z6].set 5 (some (V.int (j : Nat)))).set 6 (some (V.int (d : Int)))) = [some (V.int (n : Int)), some (V.ref R), some (V.ref q), some (V.ref a), some (V.ref hv), y5, y6] ∧
            Ex H (upd H7 hv (.lst (nl l))) ∧ (upd H7 hv (.lst (nl l))) p = some (.lst ((as.take m).map V.ref)) ∧ (upd H7 hv (.lst (nl l))) q = some (.lst (nl ps)) ∧ (upd H7 hv (.lst (nl l))) hv = some (.lst (nl ((expand ps row).take (2 * (j + 1))))) := by
          intro l H7 e7 el
          have g1 : p ≠ hv := fun z => by rw [← z, hp] at hhv; cases hhv
          have g2 : q ≠ hv := fun z => by rw [← z, hq] at hhv; cases hhv
          refine ⟨some (V.int (j : Nat)), some (V.int (d : Int)), rfl, Ex.mut ((ex5.trans eT).trans e7) (fresh_back ex hhv), ?_, ?_, ?_⟩
          · rw [upd_ne g1]
            exact e7 _ _ (eT _ _ hp5)
          · rw [upd_ne g2]
            exact e7 _ _ (eT _ _ hq5)
          · rw [upd_same, el]
        have hA6 : (upd H5 Tt (.tup [V.int (j : Nat), V.int (d : Int)])) a = some (.lst (nl row)) := eT _ _ (ex5 _ _ hA)
        have hh6 : (upd H5 Tt (.tup [V.int (j : Nat), V.int (d : Int)])) hv = some (.lst (nl ((expand ps row).take (2 * j)))) := eT _ _ hh5
        have pos2 : ∀ {σ : L2.St} {H7 : Hp} {t : TE}, Ev t σ H7 (.int (j : Nat)) → Ev (tOp (rI CMulX fun i j => .int (i * j)) t (tC (.int 2))) σ H7 (.int ((j * 2 : Nat) : Int)) := fun h => ev_op h ev_c (rv_mulN (n := j) (m := 2) (cmul_small (lt_big (by omega)) (lt_big (by decide))))
        refine s_if (b := decide (j * 2 + 1 < row.length)) ?_ (fun hb H7 e7 => ?_) fun hb H7 e7 => ?_
        · refine et_test (ev_is (ev_op (ev_op (pos2 (ev_var rfl)) ev_c (rv_addN (n := j * 2) (m := 1))) (ev_len (ev_var rfl) (sq_of hA6)) rv_I0) ?_)
          rw [nl_len]
          congr 1
          exact decide_eq_decide.mpr (by omega)
        · have hlt : j * 2 + 1 < row.length := of_decide_eq_true hb
          obtain ⟨w1, w2⟩ := expand_at row ps j d hlen hd hlt
          have jl : j * 2 < row.length := by omega
          have dpos : 0 < row.getD (2 * j) 0 ∧ row.getD (2 * j) 0 < 2 ^ 4000 := by
            rw [List.getD_eq_getElem?_getD, List.getElem?_eq_getElem (show 2 * j < row.length by omega)]
            exact ⟨hf1.pos _ (List.getElem_mem _), hf1.lt (List.getElem_mem _)⟩
          have exL : (expand ps row).length = row.length := expand_len row ps hlen
          have t1 : (expand ps row).take (2 * j + 1) = (expand ps row).take (2 * j) ++ [d % row.getD (2 * j) 0] := by
            rw [List.take_add_one, w1]
            rfl
          have t2 : (expand ps row).take (2 * (j + 1)) = (expand ps row).take (2 * j) ++ [d % row.getD (2 * j) 0] ++ [d / row.getD (2 * j) 0] := by
            rw [show 2 * (j + 1) = 2 * j + 1 + 1 by omega, List.take_add_one, t1, w2]
            rfl
          have ixe : ∀ {σ : L2.St} {H8 : Hp} {t t2 : TE}, Ev t σ H8 (.ref a) → Ev t2 σ H8 (.int (j : Nat)) → H8 a = some (.lst (nl row)) → Ev (tOp (rIxL K) t (tOp (rI CMulX fun i j => .int (i * j)) t2 (tC (.int 2)))) σ H8 (.int ((row.getD (2 * j) 0 : Nat) : Int)) := fun h h2 h3 =>
            ev_op h (pos2 h2) (rv_ixL (sq_of h3) (at_nl (j := 2 * j) (by rw [Nat.mul_comm]) (by omega)))
          refine q_app (e7 _ _ hh6) (ev_var rfl) (ev_op (ev_var rfl) (ixe (ev_var rfl) (ev_var rfl) (e7 _ _ hA6)) (rv_modN dpos.1)) (by rw [nl_len, List.length_take]; omega) fun H8 e8 => ?_
          have hav : a ≠ hv := fun z => by rw [← z, hA2] at hhv; cases hhv
          have hA8 : (upd H8 hv (.lst (nl ((expand ps row).take (2 * j)) ++ [V.int ((d % row.getD (2 * j) 0 : Nat) : Int)]))) a = some (.lst (nl row)) := by
            rw [upd_ne hav]
            exact e8 _ _ (e7 _ _ hA6)
          refine s_app upd_same (ev_var rfl) (ev_op (ev_var rfl) (ixe (ev_var rfl) (ev_var rfl) hA8) (rv_divN dpos.1 (small4 dpos.2))) (by rw [List.length_append, nl_len, List.length_take, List.length_singleton]; omega) fun H9 e9 => ?_
          have g1 : p ≠ hv := fun z => by rw [← z, hp] at hhv; cases hhv
          have g2 : q ≠ hv := fun z => by rw [← z, hq] at hhv; cases hhv
          have k9 : ∀ c o, c ≠ hv → (upd H5 Tt (.tup [V.int (j : Nat), V.int (d : Int)])) c = some o → (upd H9 hv (.lst ((nl ((expand ps row).take (2 * j)) ++ [V.int ((d % row.getD (2 * j) 0 : Nat) : Int)]) ++ [V.int ((d / row.getD (2 * j) 0 : Nat) : Int)]))) c = some o := fun c o hc z => by
            rw [upd_ne hc]
            refine e9 _ _ ?_
            rw [upd_ne hc]
            exact e8 _ _ (e7 _ _ z)
          refine ⟨some (V.int (j : Nat)), some (V.int (d : Int)), rfl, fun c o hc => k9 c o (ne_of_none hc (fresh_back ex hhv)) (eT _ _ (ex5 _ _ hc)), k9 _ _ g1 (eT _ _ hp5), k9 _ _ g2 (eT _ _ hq5), ?_⟩
          rw [upd_same, t2, nl_app, nl_app]
          rfl
        · have hnl : ¬ j * 2 + 1 < row.length := of_decide_eq_false hb
          obtain ⟨w1, w2⟩ := expand_end row ps j d hlen hd hnl
          have exL : (expand ps row).length = row.length := expand_len row ps hlen
          refine s_app (e7 _ _ hh6) (ev_var rfl) (ev_var rfl) (by rw [nl_len, List.length_take]; omega) fun H8 e8 => ?_
          have t2 : (expand ps row).take (2 * (j + 1)) = (expand ps row).take (2 * j) ++ [d] := by
            have z := List.take_add_one (l := expand ps row) (i := 2 * j)
            rw [List.take_of_length_le (by omega), w1] at z
            rw [List.take_of_length_le (by omega)]
            exact z
          have q := fin (e7.trans e8) t2
          rw [nl_app] at q
          exact q
      · rintro σ' H5 ⟨z5, z6, rfl, ex5, hp5, hq5, hh5⟩
        refine s_asg (ev_var rfl) fun H6 e6 => ⟨some (.ref a), some (.ref hv), z5, z6, hv, row, rfl, by rw [show m - (i + 1) = m - 1 - i by omega]; exact hrow, ex5.trans e6, e6 _ _ hp5, hpn, fresh_back ex hhv, ?_⟩
        have exL : (expand ps row).length = row.length := expand_len row ps hlen
        rw [List.take_of_length_le (by omega), hexp] at hh5
        exact e6 _ _ hh5
    · rintro p σ' H' ⟨y3, y4, y5, y6, q, s, rfl, hs, ex, hp, hpn, hqn, hq⟩
      rw [Nat.sub_self, r0] at hs
      cases hs
      exact s_ret (ev_var rfl) fun H2 e2 => k q H2 hqn (ex.trans e2) (e2 _ _ hq)
end

/-! ### figures, products, ways -/
section
variable {P : Program} {w : World} {K : PySem.W.Frag} {mg : Str → Option Value} {base : Heap} {cChooseError cBadPrime cBadMany cBadSome cBadNumber cNotFree cAnswer cFree cBound : Addr}
def sp_figures_of : Sp := fun vs H Q _ => ∃ (p n : Nat), vs = [.int (p : Int), .int (n : Int)] ∧ 2 ≤ p ∧ p < 1024 ∧ n < 2 ^ 1000 ∧ RetL (nl (dig p n)) H Q
theorem can_figures_of (T : Txt K mg cChooseError cBadPrime cBadMany cBadSome cBadNumber cNotFree cAnswer cFree cBound) : Can P w K mg base 3 "figures_of" P_figures_of sp_figures_of := by
  refine T.d_figures_of.can sc_figures_of (fun vs H Q E h => ?_) (fun f cdv A outer s H vs Q E hr h => ?_)
  · obtain ⟨p, n, rfl, _⟩ := h
    rfl
  · obtain ⟨p, n, rfl, hp, hp2, hn, k⟩ := h
    have nd := sc_figures_of.nd
    refine ⟨_, (pss_cons (ps_set (i := 2) nd rfl (Or.inl rfl) (pe_op op_sub (pe_bits (pv 0)) pe_int))
    (pss_cons (ps_set (i := 3) nd rfl (Or.inl rfl) (pe_op op_fdivW (pe_op op_sub (pe_op op_add (pe_bits (pv 1)) (pv 2)) pe_int) (pv 2)))
    (pss_cons (ps_set (i := 4) nd rfl (Or.inl rfl) (pe_callC (can_taken_apart T) (hr.mono (by decide)) (by rfl) (pa_cons (pv 1) (pa_cons (pe_callC (can_towers T) (hr.mono (by decide)) (by rfl) (pa_cons (pe_op op_rep (pe_lst (pa_cons (pv 0) pa_nil)) (pv 3)) pa_nil)) pa_nil))))
    (pss_cons (ps_while PassesOwn.never (PW.pt (pw_and (pt_truth (pv 4) (by intro _; rfl)) (pw_and1 (pt_cmpR op_eq (pe_ix (r := rIxL K) ix_list (pv 4) (pe_un un_neg pe_int) (fun _ _ => rfl)) pe_int (nomark _))))) (pss_one (ps_expr (pe_bm0 PySem.F.plainAttrs_list PySem.F.slot_list_pop PySem.F.type_list_pop mt_pop (pv 4)))))
    (pss_one (ps_ret (pv 4))))))), ?_⟩
    have hL := log2_one hp
    have hL2 : p.log2 < 2 ^ 8000 := Nat.lt_of_lt_of_le (Nat.lt_of_le_of_lt (Nat.log2_le_self p) hp2) (Nat.le_trans (show 1024 ≤ 2 ^ 10 by decide) (Nat.pow_le_pow_right (by decide) (by decide)))
    generalize hb : Builtin.Int.intBits (n : Int) = b
    have b1 : b ≤ 1000 := by
      rw [← hb]
      exact intBits_le (by rw [Int.natAbs_natCast]; exact hn)
    have b2 : n < 2 ^ b := by
      rw [← hb]
      have z := (PySem.intBits_le_iff (m := Builtin.Int.intBits (n : Int)) (x := (n : Int))).mp (Nat.le_refl _)
      rw [Int.natAbs_natCast] at z
      exact z
    refine q_asg (v := .int (p.log2 : Int)) (ev_is (ev_op (ev_bits (ev_var rfl)) ev_c rv_I0) (by rw [bits_pos (by omega)]; congr 1; omega)) fun H1 e1 => ?_
    refine q_asg (v := .int (((b + p.log2 - 1) / p.log2 : Nat) : Int)) (ev_op (ev_op (ev_op (ev_is (ev_bits (i := (n : Int)) (ev_var rfl)) (by rw [hb])) (ev_var rfl) (rv_addN (n := b) (m := p.log2))) ev_c (rv_subN (n := b + p.log2) (m := 1) (by omega))) (ev_var rfl) (rv_divN (by omega) hL2)) fun H2 e2 => ?_
    have hfit := fit_rep (b := b) hp hp2 (by omega)
    obtain ⟨s1, s2⟩ := places_small (b := b) hp hp2 (by omega)
    have hlt := places_enough hp b2
    generalize hk : (b + p.log2 - 1) / p.log2 = kk at hfit s1 s2 hlt
    refine q_asgL (xs := nl (mix (List.replicate kk p) n)) ?_ fun q H3 hq e3 h3 => ?_
    · refine el_call2R (Pr := fun R H' => RowsAt H' R (tow (List.replicate kk p))) (ev_var rfl) (er_callL (xs := nl (List.replicate kk p)) ?_ fun a H4 e4 h4 Q E q => ?_) fun R H4 e4 hR => ?_
      · rw [nl_rep, ← flat_one]
        have z := el_rep (σ := (((start N_figures_of [.int (p : Int), .int (n : Int)]).set 2 (some (.int (p.log2 : Int)))).set 3 (some (.int (kk : Int))))) (H := H2) (xs := [V.int (p : Int)]) (k := (kk : Int)) (ta := tLst (tCons (tVar 0) tNil)) (tb := tVar 3)
          (el_lst (ea_cons (ev_var rfl) ea_nil) (by show 1 ≤ 100000; decide)) (ev_var rfl) (by omega) (by rw [List.length_singleton]; omega)
        rw [Int.toNat_natCast] at z
        exact z
      · exact ⟨a, _, rfl, h4, hfit, q⟩
      · exact sl_of fun H5 e5 Q E k => ⟨n, R, _, rfl, hR.mono e5, hfit, k⟩
    · refine q_while (fun m σ' H' => ∃ l : List Nat, σ' = [some (.int (p : Int)), some (.int (n : Int)), some (.int (p.log2 : Int)), some (.int (kk : Int)), some (.ref q)] ∧ m = l.length ∧ strip l = dig p n ∧ Ex H H' ∧ H' q = some (.lst (nl l))) (mix (List.replicate kk p) n).length ?_ ?_
      · exact ⟨_, by rw [← hk]; rfl, rfl, strip_mix hp kk n hlt, (e1.trans e2).trans e3, h3⟩
      · rintro m σ' H' ⟨l, rfl, rfl, hs, ex, hl⟩
        have hqn : H q = none := fresh_back (e1.trans e2) hq
        have et : EvT (fun σ H Q => tVar 4 σ H fun x H' => ∃ k, TruV K x H' k ∧ Q k H') [some (V.int (p : Int)), some (.int (n : Int)), some (.int (p.log2 : Int)), some (.int (kk : Int)), some (.ref q)] H' (!(nl l).isEmpty) :=
          et_truth (ev_var rfl) fun H1 e => .inl ⟨nl l, sq_of (e _ _ hl), rfl⟩
        cases hl0 : l.getLast? with
        | none =>
          have e0 : l = [] := List.getLast?_eq_none_iff.mp hl0
          subst e0
          refine ⟨false, et_and (a := false) (b := true) et (fun h => by cases h), fun h => (by cases h), fun _ H4 e4 => ?_⟩
          refine s_ret (ev_var rfl) fun H5 e5 => k q H5 hqn ((ex.trans e4).trans e5) ?_
          rw [← hs]
          exact e5 _ _ (e4 _ _ hl)
        | some d =>
          have lne : l ≠ [] := fun z => by rw [z] at hl0; cases hl0
          have lat : (nl l)[(nl l).length - 1]? = some (.int (d : Int)) := by
            rw [nl_len]
            refine nl_get ?_
            rw [← List.getLast?_eq_getElem?]
            exact hl0
          have e1' : (!(nl l).isEmpty) = true := by
            cases l with
            | nil => exact absurd rfl lne
            | cons a r => rfl
          rw [e1'] at et
          refine ⟨decide (d = 0), et_and (a := true) et (fun _ => et_test (ev_is (ev_op (ev_op (ev_var rfl) (ev_un ev_c ru_neg) (rv_ixL (sq_of hl) (at_last lat))) ev_c (rv_eq rfl)) ?_)), fun hb H4 e4 => ?_, fun hb H4 e4 => ?_⟩
          · congr 1
            exact dec_nat d 0
          · have d0 : d = 0 := of_decide_eq_true hb
            subst d0
            refine ⟨fun σ2 H5 => ∃ l' : List Nat, l'.length < l.length ∧ σ2 = [some (.int (p : Int)), some (.int (n : Int)), some (.int (p.log2 : Int)), some (.int (kk : Int)), some (.ref q)] ∧ strip l' = dig p n ∧ Ex H H5 ∧ H5 q = some (.lst (nl l')), ?_, ?_⟩
            · rintro σ2 H5 ⟨l', h1, h2, h3, h4, h5⟩
              exact ⟨l'.length, h1, l', h2, rfl, h3, h4, h5⟩
            · refine s_pop (e4 _ _ hl) (ev_var rfl) lat fun H5 e5 => ⟨l.dropLast, ?_, rfl, by rw [strip_drop hl0]; exact hs, Ex.mut ((ex.trans e4).trans e5) hqn, by rw [upd_same, nl_dropLast]⟩
              rw [List.length_dropLast]
              have := List.length_pos_iff.mpr lne
              omega
          · have d0 : d ≠ 0 := of_decide_eq_false hb
            have e0 : strip l = l := strip_id l fun x hx => by
              rw [hl0] at hx
              rw [← Option.some.inj hx]
              exact d0
            refine s_ret (ev_var rfl) fun H5 e5 => k q H5 hqn ((ex.trans e4).trans e5) ?_
            rw [← hs, e0]
            exact e5 _ _ (e4 _ _ hl)
theorem sl_figures_of {H : Hp} {p n : Nat} (hp : 2 ≤ p) (hp2 : p < 1024) (hn : n < 2 ^ 1000) : SpL sp_figures_of [.int (p : Int), .int (n : Int)] H (nl (dig p n)) := sl_of fun H1 e Q E k => ⟨p, n, rfl, hp, hp2, hn, k⟩

/-- what all numbers from 1 to each one below p, multiplied, leave -/
def facTab (p : Nat) : List Nat := (List.range p).map fun i => fac i % p
theorem facTab_len (p : Nat) : (facTab p).length = p := by
  unfold facTab
  rw [List.length_map, List.length_range]
theorem facTab_at {p i : Nat} (h : i < p) : (facTab p).getD i 0 = fac i % p := by
  unfold facTab
  refine getD_of ?_
  rw [List.getElem?_map, List.getElem?_range h]
  rfl
theorem facTab_take {p i : Nat} (h : i < p) : (facTab p).take (i + 1) = (facTab p).take i ++ [fac i % p] := by
  rw [List.take_add_one]
  congr 1
  unfold facTab
  rw [List.getElem?_map, List.getElem?_range h]
  rfl
def sp_products_left : Sp := fun vs H Q _ => ∃ (p : Nat), vs = [.int (p : Int)] ∧ 2 ≤ p ∧ p < 1024 ∧ RetL (nl (facTab p)) H Q
theorem can_products_left (T : Txt K mg cChooseError cBadPrime cBadMany cBadSome cBadNumber cNotFree cAnswer cFree cBound) : Can P w K mg base 1 "products_left" P_products_left sp_products_left := by
  refine T.d_products_left.can sc_products_left (fun vs H Q E h => ?_) (fun f cdv A outer s H vs Q E hr h => ?_)
  · obtain ⟨p, rfl, _⟩ := h
    rfl
  · obtain ⟨p, rfl, hp, hp2, k⟩ := h
    have nd := sc_products_left.nd
    refine ⟨_, (pss_cons (ps_set (i := 1) nd rfl (Or.inl rfl) (pe_lst (pa_cons pe_int pa_nil)))
    (pss_cons (ps_for PassesOwn.never rfl (pi_range2 (by rfl) T.n_range (pa_cons pe_int (pa_cons (pv 0) pa_nil))) (pg_name (i := 2) nd rfl (Or.inl rfl)) (pss_one (ps_expr (pe_bm PySem.F.plainAttrs_list PySem.F.slot_list_append PySem.F.type_list_append mt_append (pv 1) (pa_cons (pe_op op_mod (pe_op op_mulX (pe_ix (r := rIxL K) ix_list (pv 1) (pe_un un_neg pe_int) (fun _ _ => rfl)) (pv 2)) (pv 0)) pa_nil)))))
    (pss_one (ps_ret (pv 1))))), ?_⟩
    refine q_asgL (xs := [V.int 1]) (el_lst (ea_cons ev_c ea_nil) (by show 1 ≤ 100000; decide)) fun q H1 hq e1 h1 => ?_
    refine q_forW (n := ((p : Int) - 1).toNat) (ei_rng2 (lo := 1) (hi := (p : Int)) (ea_cons ev_c (ea_cons (ev_var rfl) ea_nil)) (by omega)) walk_range
      (fun i σ' H' => ∃ y, σ' = [some (.int (p : Int)), some (.ref q), y] ∧ Ex H H' ∧ H' q = some (.lst (nl ((facTab p).take (i + 1))))) ?_ (fun _ _ _ _ _ => trivial) ?_ ?_
    · intro H2 e2
      refine ⟨none, rfl, e1.trans e2, ?_⟩
      rw [facTab_take (by omega), List.take_zero]
      have z : fac 0 % p = 1 := Nat.mod_eq_of_lt (show 1 < p by omega)
      rw [List.nil_append, z]
      exact e2 _ _ h1
    · rintro i x σ' H2 H3 hi ⟨y, rfl, ex, hl⟩ yy
      obtain ⟨rfl, rfl⟩ := yy
      have hl2 : (facTab p).take (i + 1) = (facTab p).take i ++ [fac i % p] := facTab_take (by omega)
      have hz : fac i % p < p := Nat.mod_lt _ (by omega)
      have hlt : fac i % p < 2 ^ 4000 := lt_big (by omega)
      have eval : Ev (tOp (rI (fun _ j => 0 < j) fun i j => V.int (i % j)) (tOp (rI CMulX fun i j => V.int (i * j)) (tOp (rIxL K) (tVar 1) (tUn (rU fun i => .int (-i)) (tC (.int 1)))) (tVar 2)) (tVar 0)) [some (V.int (p : Int)), some (.ref q), some (.int (1 + (i : Int)))] H3 (.int ((fac (i + 1) % p : Nat) : Int)) := by
        have e0 : ((fac i % p) * (i + 1)) % p = fac (i + 1) % p := by
          show _ = fac i * (i + 1) % p
          rw [Nat.mod_mul_mod]
        rw [← e0]
        refine ev_op (ev_op (ev_op (ev_var rfl) (ev_un ev_c ru_neg) (rv_ixL (sq_of hl) ?_)) (ev_is (ev_var rfl) ?_) (rv_mulN (n := fac i % p) (m := i + 1) (cmul_small hlt (lt_big (by omega))))) (ev_var rfl) (rv_modN (by omega))
        · rw [hl2, nl_app]
          exact atI_last _ _
        · rw [Int.natCast_add, Int.add_comm]
          rfl
      refine s_app hl (ev_var rfl) eval (by rw [nl_len, List.length_take]; rw [facTab_len]; omega) fun H4 e4 => ⟨_, rfl, Ex.mut (ex.trans e4) hq, ?_⟩
      rw [upd_same, facTab_take (i := i + 1) (by omega), nl_app]
      rfl
    · rintro σ' H2 ⟨y, rfl, ex, hl⟩
      refine s_ret (ev_var rfl) fun H3 e3 => k q H3 hq (ex.trans e3) ?_
      rw [show ((p : Int) - 1).toNat + 1 = p by omega, List.take_of_length_le (by rw [facTab_len]; exact Nat.le_refl _)] at hl
      exact e3 _ _ hl
theorem sl_products_left {H : Hp} {p : Nat} (hp : 2 ≤ p) (hp2 : p < 1024) : SpL sp_products_left [.int (p : Int)] H (nl (facTab p)) := sl_of fun H1 e Q E k => ⟨p, rfl, hp, hp2, k⟩

theorem sum_nl (l : List Nat) : (l.map fun n : Nat => (n : Int)).sum = ((l.sum : Nat) : Int) := by
  induction l with
  | nil => rfl
  | cons a r ih =>
    rw [List.map_cons, List.sum_cons, List.sum_cons, ih, Int.natCast_add]
theorem nl_ints (l : List Nat) : nl l = (l.map fun n : Nat => (n : Int)).map V.int := by
  unfold nl
  rw [List.map_map]
  rfl
def sp_product_of : Sp := fun vs H Q _ => ∃ (p n : Nat), vs = [.int (p : Int), .int (n : Int)] ∧ 2 ≤ p ∧ p < 1024 ∧ n < 2 ^ 1000 ∧ RetU [.int (lg p n : Int), .int (cf p n : Int)] H Q
theorem can_product_of (T : Txt K mg cChooseError cBadPrime cBadMany cBadSome cBadNumber cNotFree cAnswer cFree cBound) : Can P w K mg base 4 "product_of" P_product_of sp_product_of := by
  refine T.d_product_of.can sc_product_of (fun vs H Q E h => ?_) (fun f cdv A outer s H vs Q E hr h => ?_)
  · obtain ⟨p, n, rfl, _⟩ := h
    rfl
  · obtain ⟨p, n, rfl, hp, hp2, hn, k⟩ := h
    have nd := sc_product_of.nd
    refine ⟨_, (pss_cons (ps_set (i := 2) nd rfl (Or.inl rfl) (pe_callC (can_figures_of T) (hr.mono (by decide)) (by rfl) (pa_cons (pv 0) (pa_cons (pv 1) pa_nil))))
    (pss_cons (ps_set (i := 3) nd rfl (Or.inl rfl) (pe_op op_fdivW (pe_op op_sub (pv 1) (pe_callB (r := rSum K) (cr_sum rfl) (by rfl) T.n_sum (by decide +kernel) (pa_cons (pv 2) pa_nil))) (pe_op op_sub (pv 0) pe_int)))
    (pss_cons (ps_set (i := 4) nd rfl (Or.inl rfl) (pe_callC (can_products_left T) (hr.mono (by decide)) (by rfl) (pa_cons (pv 0) pa_nil)))
    (pss_cons (ps_set (i := 5) nd rfl (Or.inl rfl) (pe_ifExp (pt_cmpR op_eq (pe_op op_mod (pv 3) pe_int) pe_int (nomark _)) pe_int (pe_op op_sub (pv 0) pe_int)))
    (pss_cons (ps_for PassesOwn.never rfl (pi_list (pv 2)) (pg_name (i := 6) nd rfl (Or.inl rfl)) (pss_one (ps_set (i := 5) nd rfl (Or.inl rfl) (pe_op op_mod (pe_op op_mulX (pv 5) (pe_ix (r := rIxL K) ix_list (pv 4) (pv 6) (fun _ _ => rfl))) (pv 0)))))
    (pss_one (ps_ret (pe_tup (pa_cons (pv 3) (pa_cons (pv 5) pa_nil)))))))))), ?_⟩
    refine q_asgL (el_callN (ea_cons (ev_var rfl) (ea_cons (ev_var rfl) ea_nil)) (sl_figures_of hp hp2 hn)) fun q H1 hq e1 h1 => ?_
    refine q_asg (v := .int (lg p n : Int)) ?_ fun H2 e2 => ?_
    · rw [← often_is hp n]
      refine ev_op (ev_op (ev_var rfl) (ev_is (ev_cb (ea_cons (ev_var rfl) ea_nil) (rc_sum (ns := (dig p n).map fun n : Nat => (n : Int)) (by rw [← nl_ints]; exact sq_of h1))) (by rw [sum_nl])) (rv_subN (dig_sum_le hp n))) (ev_op (ev_var rfl) ev_c (rv_subN (n := p) (m := 1) (by omega))) (rv_divN (by omega) (small4 (lt_big (by omega))))
    refine q_asgL (el_callN (ea_cons (ev_var rfl) ea_nil) (sl_products_left hp hp2)) fun t H3 ht e3 h3 => ?_
    refine q_asg (v := .int (sgn p (lg p n) : Int)) ?_ fun H4 e4 => ?_
    · have et : EvT (tTest (tOp rEq (tOp (rI (fun _ j => 0 < j) fun i j => V.int (i % j)) (tVar 3) (tC (.int 2))) (tC (.int 0)))) ((((start N_product_of [.int (p : Int), .int (n : Int)]).set 2 (some (.ref q))).set 3 (some (.int (lg p n : Int)))).set 4 (some (.ref t))) H3 (decide (lg p n % 2 = 0)) := by
        refine et_test (ev_is (ev_op (ev_op (ev_var rfl) ev_c (rv_modN (n := lg p n) (p := 2) (by decide))) ev_c (rv_eq rfl)) ?_)
        congr 1
        exact dec_nat (lg p n % 2) 0
      refine ev_if et (fun hb => ev_is ev_c ?_) fun hb => ev_is (ev_op (ev_var rfl) ev_c (rv_subN (n := p) (m := 1) (by omega))) ?_
      · unfold sgn
        rw [if_pos (of_decide_eq_true hb)]
        rfl
      · unfold sgn
        rw [if_neg (of_decide_eq_false hb)]
    have hqq : H4 q = some (.lst (nl (dig p n))) := e4 _ _ (e3 _ _ (e2 _ _ h1))
    have htt : H4 t = some (.lst (nl (facTab p))) := e4 _ _ h3
    refine q_forW (n := (dig p n).length) (ei_list (a := q) (xs := nl (dig p n)) (ev_var rfl) (sq_of hqq)) (by have z := walk_list (K := K) (a := q) (xs := nl (dig p n)); rw [nl_len] at z; exact z)
      (fun i σ' H' => ∃ y c, σ' = [some (.int (p : Int)), some (.int (n : Int)), some (.ref q), some (.int (lg p n : Int)), some (.ref t), some (.int ((c : Nat) : Int)), y] ∧ c < p ∧ Ex H4 H' ∧ coreP p c ((dig p n).drop i) = cf p n) ?_ ?_ ?_ ?_
    · intro H5 e5
      exact ⟨none, sgn p (lg p n), rfl, sgn_lt hp _, e5, coreP_is hp n⟩
    · rintro i σ' H' hi ⟨_, _, _, _, e, _⟩
      exact sq_of (e _ _ hqq)
    · rintro i x σ' H5 H6 hi ⟨y, c, rfl, hc, ex, hcf⟩ yy
      obtain ⟨rfl, hx⟩ := yy
      obtain ⟨d, hd, rfl⟩ := nl_some hx
      have hdp : d < p := dig_lt hp n d (List.mem_of_getElem? hd)
      refine s_asg (v := .int ((c * (fac d % p) % p : Nat) : Int)) ?_ fun H7 e7 => ⟨_, c * (fac d % p) % p, rfl, Nat.mod_lt _ (by omega), ex.trans e7, ?_⟩
      · have hf : fac d % p < p := Nat.mod_lt _ (by omega)
        refine ev_op (ev_op (ev_var rfl) (ev_op (ev_var rfl) (ev_var rfl) (rv_ixL (sq_of (ex _ _ htt)) (by rw [at_nl (j := d) rfl (by rw [facTab_len]; exact hdp), facTab_at hdp]))) (rv_mulN (cmul_small (lt_big (by omega)) (lt_big (by omega))))) (ev_var rfl) (rv_modN (by omega))
      · rw [← hcf]
        have e0 : (dig p n).drop i = d :: (dig p n).drop (i + 1) := by
          rw [List.drop_eq_getElem_cons hi]
          congr 1
          rw [List.getElem?_eq_getElem hi] at hd
          exact Option.some.inj hd
        rw [e0]
        rfl
    · rintro σ' H5 ⟨y, c, rfl, hc, ex, hcf⟩
      rw [List.drop_of_length_le (Nat.le_refl _)] at hcf
      have hc2 : c = cf p n := hcf
      subst hc2
      refine s_retU (xs := [.int (lg p n : Int), .int (cf p n : Int)]) (eu_tup (ea_cons (ev_var rfl) (ea_cons (ev_var rfl) ea_nil)) (by show 2 ≤ 100000; decide)) fun r H6 hr e6 h6 => ?_
      have e05 : Ex H H5 := (((e1.trans e2).trans e3).trans e4).trans ex
      exact k r H6 (fresh_back e05 hr) (e05.trans e6) h6
theorem su_product_of {H : Hp} {p n : Nat} (hp : 2 ≤ p) (hp2 : p < 1024) (hn : n < 2 ^ 1000) : SpU sp_product_of [.int (p : Int), .int (n : Int)] H [.int (lg p n : Int), .int (cf p n : Int)] := su_of fun H1 e Q E k => ⟨p, n, rfl, hp, hp2, hn, k⟩

def sp_inverse : Sp := fun vs H Q _ => ∃ (x p : Nat), vs = [.int (x : Int), .int (p : Int)] ∧ 2 ≤ p ∧ p < 1024 ∧ x < p ∧ RetV (.int ((x ^ (p - 2) % p : Nat) : Int)) H Q
theorem can_inverse (T : Txt K mg cChooseError cBadPrime cBadMany cBadSome cBadNumber cNotFree cAnswer cFree cBound) : Can P w K mg base 1 "inverse" P_inverse sp_inverse := by
  refine T.d_inverse.can sc_inverse (fun vs H Q E h => ?_) (fun f cdv A outer s H vs Q E hr h => ?_)
  · obtain ⟨x, p, rfl, _⟩ := h
    rfl
  · obtain ⟨x, p, rfl, hp, hp2, hx, k⟩ := h
    have nd := sc_inverse.nd
    refine ⟨_, (pss_cons (ps_set (i := 2) nd rfl (Or.inl rfl) pe_int)
    (pss_cons (ps_set (i := 3) nd rfl (Or.inl rfl) (pv 0))
    (pss_cons (ps_set (i := 4) nd rfl (Or.inl rfl) (pe_op op_sub (pv 1) pe_int))
    (pss_cons (ps_while PassesOwn.never (pt_cmpR op_gt (pv 4) pe_int (nomark _)) (pss_cons (ps_if (pt_cmpR op_eq (pe_op op_mod (pv 4) pe_int) pe_int (nomark _)) (pss_one (ps_set (i := 2) nd rfl (Or.inl rfl) (pe_op op_mod (pe_op op_mulX (pv 2) (pv 3)) (pv 1)))) pss_nil)
    (pss_cons (ps_set (i := 3) nd rfl (Or.inl rfl) (pe_op op_mod (pe_op op_mulX (pv 3) (pv 3)) (pv 1)))
    (pss_one (ps_set (i := 4) nd rfl (Or.inl rfl) (pe_op op_fdivW (pv 4) pe_int))))))
    (pss_one (ps_ret (pv 2))))))), ?_⟩
    refine q_asg ev_c fun H1 e1 => ?_
    refine q_asg (ev_var rfl) fun H2 e2 => ?_
    refine q_asg (v := .int ((p - 2 : Nat) : Int)) (ev_op (ev_var rfl) ev_c (rv_subN (n := p) (m := 2) hp)) fun H3 e3 => ?_
    refine q_while (fun m σ' H' => ∃ (c z : Nat), σ' = [some (.int (x : Int)), some (.int (p : Int)), some (.int (c : Int)), some (.int (z : Int)), some (.int (m : Int))] ∧ c < p ∧ z < p ∧ Ex H H' ∧ c * z ^ m % p = x ^ (p - 2) % p) (p - 2) ?_ ?_
    · exact ⟨1, x, rfl, by omega, hx, (e1.trans e2).trans e3, by rw [Nat.one_mul]⟩
    · rintro m σ' H' ⟨c, z, rfl, hc, hz, ex, hm⟩
      have cb : c < 2 ^ 4000 := lt_big (by omega)
      have zb : z < 2 ^ 4000 := lt_big (by omega)
      refine ⟨decide (0 < m), et_test (ev_is (ev_op (ev_var rfl) ev_c rv_I0) (by congr 1; exact decide_eq_decide.mpr (by omega))), fun hb H4 e4 => ?_, fun hb H4 e4 => ?_⟩
      · have m0 : 0 < m := of_decide_eq_true hb
        have turn := pow_turn z m p c _ m0 hm
        refine ⟨fun σ2 H5 => ∃ (m' : Nat), m' < m ∧ ∃ (c z : Nat), σ2 = [some (.int (x : Int)), some (.int (p : Int)), some (.int (c : Int)), some (.int (z : Int)), some (.int (m' : Int))] ∧ c < p ∧ z < p ∧ Ex H H5 ∧ c * z ^ m' % p = x ^ (p - 2) % p, fun σ2 H5 h => ?_, ?_⟩
        · obtain ⟨m', h1, h2⟩ := h
          exact ⟨m', h1, h2⟩
        · have et : EvT (tTest (tOp rEq (tOp (rI (fun _ j => 0 < j) fun i j => V.int (i % j)) (tVar 4) (tC (.int 2))) (tC (.int 1)))) [some (V.int (x : Int)), some (.int (p : Int)), some (.int (c : Int)), some (.int (z : Int)), some (.int (m : Int))] H4 (decide (m % 2 = 1)) := by
            refine et_test (ev_is (ev_op (ev_op (ev_var rfl) ev_c (rv_modN (n := m) (p := 2) (by decide))) ev_c (rv_eq rfl)) ?_)
            congr 1
            exact dec_nat (m % 2) 1
          refine q_ifAsg (v := .int ((if m % 2 = 1 then c * z % p else c : Nat) : Int)) et (fun hb => ?_) (fun hb => ?_) fun H5 e5 => ?_
          · rw [if_pos (of_decide_eq_true hb)]
            exact ev_op (ev_op (ev_var rfl) (ev_var rfl) (rv_mulN (cmul_small cb zb))) (ev_var rfl) (rv_modN (by omega))
          · rw [if_neg (of_decide_eq_false hb)]
            rfl
          · refine q_asg (v := .int ((z * z % p : Nat) : Int)) (ev_op (ev_op (ev_var rfl) (ev_var rfl) (rv_mulN (cmul_small zb zb))) (ev_var rfl) (rv_modN (by omega))) fun H6 e6 => ?_
            refine s_asg (v := .int ((m / 2 : Nat) : Int)) (ev_op (ev_var rfl) ev_c (rv_divN (n := m) (p := 2) (by decide) (small4 (lt_big (by decide))))) fun H7 e7 => ?_
            refine ⟨m / 2, by omega, _, _, rfl, ?_, Nat.mod_lt _ (by omega), (((ex.trans e4).trans e5).trans e6).trans e7, turn⟩
            split
            · exact Nat.mod_lt _ (by omega)
            · exact hc
      · have m0 : m = 0 := by have := of_decide_eq_false hb; omega
        subst m0
        rw [Nat.pow_zero, Nat.mul_one, Nat.mod_eq_of_lt hc] at hm
        rw [← hm] at k
        exact s_ret (ev_var rfl) fun H5 e5 => k H5 ((ex.trans e4).trans e5)
theorem sv_inverse {H : Hp} {x p : Nat} (hp : 2 ≤ p) (hp2 : p < 1024) (hx : x < p) : SpV sp_inverse [.int (x : Int), .int (p : Int)] H (.int ((x ^ (p - 2) % p : Nat) : Int)) := sv_of fun H1 e Q E k => ⟨x, p, rfl, hp, hp2, hx, k⟩

def sp_ways_of : Sp := fun vs H Q _ => ∃ (p n s : Nat), vs = [.int (p : Int), .int (n : Int), .int (s : Int)] ∧ 2 ≤ p ∧ p < 1024 ∧ n < 2 ^ 1000 ∧ s ≤ n ∧ RetU [.int (waysO p n s), .int (waysC p n s : Int)] H Q
theorem can_ways_of (T : Txt K mg cChooseError cBadPrime cBadMany cBadSome cBadNumber cNotFree cAnswer cFree cBound) : Can P w K mg base 5 "ways_of" P_ways_of sp_ways_of := by
  refine T.d_ways_of.can sc_ways_of (fun vs H Q E h => ?_) (fun f cdv A outer s H vs Q E hr h => ?_)
  · obtain ⟨p, n, s, rfl, _⟩ := h
    rfl
  · obtain ⟨p, n, s, rfl, hp, hp2, hn, hs, k⟩ := h
    have nd := sc_ways_of.nd
    refine ⟨_, (pss_cons (ps_asg (pe_callC (can_product_of T) (hr.mono (by decide)) (by rfl) (pa_cons (pv 0) (pa_cons (pv 1) pa_nil))) (pg_tup rfl (pgs_cons (pg_name (i := 3) nd rfl (Or.inl rfl)) (pgs_cons (pg_name (i := 4) nd rfl (Or.inl rfl)) pgs_nil))))
    (pss_cons (ps_asg (pe_callC (can_product_of T) (hr.mono (by decide)) (by rfl) (pa_cons (pv 0) (pa_cons (pv 2) pa_nil))) (pg_tup rfl (pgs_cons (pg_name (i := 5) nd rfl (Or.inl rfl)) (pgs_cons (pg_name (i := 6) nd rfl (Or.inl rfl)) pgs_nil))))
    (pss_cons (ps_asg (pe_callC (can_product_of T) (hr.mono (by decide)) (by rfl) (pa_cons (pv 0) (pa_cons (pe_op op_sub (pv 1) (pv 2)) pa_nil))) (pg_tup rfl (pgs_cons (pg_name (i := 7) nd rfl (Or.inl rfl)) (pgs_cons (pg_name (i := 8) nd rfl (Or.inl rfl)) pgs_nil))))
    (pss_cons (ps_set (i := 4) nd rfl (Or.inl rfl) (pe_op op_mod (pe_op op_mulX (pv 4) (pe_callC (can_inverse T) (hr.mono (by decide)) (by rfl) (pa_cons (pe_op op_mod (pe_op op_mulX (pv 6) (pv 8)) (pv 0)) (pa_cons (pv 0) pa_nil)))) (pv 0)))
    (pss_one (ps_ret (pe_tup (pa_cons (pe_op op_sub (pe_op op_sub (pv 3) (pv 5)) (pv 7)) (pa_cons (pv 4) pa_nil))))))))), ?_⟩
    have hs2 : s < 2 ^ 1000 := Nat.lt_of_le_of_lt hs hn
    have hn2 : n - s < 2 ^ 1000 := Nat.lt_of_le_of_lt (Nat.sub_le _ _) hn
    refine q_asg2 (eu_call (ea_cons (ev_var rfl) (ea_cons (ev_var rfl) ea_nil)) (su_product_of hp hp2 hn)) fun H1 e1 => ?_
    refine q_asg2 (eu_call (ea_cons (ev_var rfl) (ea_cons (ev_var rfl) ea_nil)) (su_product_of hp hp2 hs2)) fun H2 e2 => ?_
    refine q_asg2 (eu_call (ea_cons (ev_var rfl) (ea_cons (ev_op (ev_var rfl) (ev_var rfl) (rv_subN hs)) ea_nil)) (su_product_of hp hp2 hn2)) fun H3 e3 => ?_
    have c1 := cf_lt hp n
    have c2 := cf_lt hp s
    have c3 := cf_lt hp (n - s)
    have c4 : cf p s * cf p (n - s) % p < p := Nat.mod_lt _ (by omega)
    have c5 : (cf p s * cf p (n - s) % p) ^ (p - 2) % p < p := Nat.mod_lt _ (by omega)
    refine q_asg (v := .int (waysC p n s : Int)) (ev_op (ev_op (ev_var rfl) (ev_callN (ea_cons (ev_op (ev_op (ev_var rfl) (ev_var rfl) (rv_mulN (cmul_small (lt_big (by omega)) (lt_big (by omega))))) (ev_var rfl) (rv_modN (by omega))) (ea_cons (ev_var rfl) ea_nil)) (sv_inverse hp hp2 c4)) (rv_mulN (cmul_small (lt_big (by omega)) (lt_big (by omega))))) (ev_var rfl) (rv_modN (by omega))) fun H4 e4 => ?_
    have e04 := ((e1.trans e2).trans e3).trans e4
    exact s_retU (xs := [.int (waysO p n s), .int (waysC p n s : Int)]) (eu_tup (ea_cons (ev_op (ev_op (ev_var rfl) (ev_var rfl) rv_I0) (ev_var rfl) rv_I0) (ea_cons (ev_var rfl) ea_nil)) (by show 2 ≤ 100000; decide)) fun r H5 hr e5 h5 => k r H5 (fresh_back e04 hr) (e04.trans e5) h5
theorem su_ways_of {H : Hp} {p n s : Nat} (hp : 2 ≤ p) (hp2 : p < 1024) (hn : n < 2 ^ 1000) (hs : s ≤ n) : SpU sp_ways_of [.int (p : Int), .int (n : Int), .int (s : Int)] H [.int (waysO p n s), .int (waysC p n s : Int)] := su_of fun H1 e Q E k => ⟨p, n, s, rfl, hp, hp2, hn, hs, k⟩
end

section
variable {P : Program} {w : World} {K : PySem.W.Frag} {mg : Str → Option Value} {base : Heap} {cChooseError cBadPrime cBadMany cBadSome cBadNumber cNotFree cAnswer cFree cBound : Addr}
def sp_bound_places : Sp := fun vs H Q _ => ∃ (p n s : Nat), vs = [.int (p : Int), .int (n : Int), .int (s : Int)] ∧ 2 ≤ p ∧ p < 1024 ∧ n < 2 ^ 1000 ∧ s ≤ n ∧ RetL (nl (bpl p n s)) H Q
theorem can_bound_places (T : Txt K mg cChooseError cBadPrime cBadMany cBadSome cBadNumber cNotFree cAnswer cFree cBound) : Can P w K mg base 4 "bound_places" P_bound_places sp_bound_places := by
  refine T.d_bound_places.can sc_bound_places (fun vs H Q E h => ?_) (fun f cdv A outer s H vs Q E hr h => ?_)
  · obtain ⟨p, n, s, rfl, _⟩ := h
    rfl
  · obtain ⟨p, n, s, rfl, hp, hp2, hn, hs, k⟩ := h
    have nd := sc_bound_places.nd
    refine ⟨_, (pss_cons (ps_set (i := 3) nd rfl (Or.inl rfl) (Zl.pe_listZip rfl (by rfl) T.n_list (by rfl) T.n_zip (pa_cons (pe_callC (can_figures_of T) (hr.mono (by decide)) (by rfl) (pa_cons (pv 0) (pa_cons (pv 1) pa_nil))) (pa_cons (pe_callC (can_figures_of T) (hr.mono (by decide)) (by rfl) (pa_cons (pv 0) (pa_cons (pv 2) pa_nil))) pa_nil))))
    (pss_one (ps_ret (pe_lc (own := [("at", 4), ("high", 5), ("low", 6)]) (g := gTup K 2 (gCons (gName 4) (gCons (gTup K 2 (gCons (gName 5) (gCons (gName 6) gNil))) gNil))) rfl nd (pi_enum (by rfl) T.n_enumerate (pa_cons (pv 3) pa_nil)) (blkOk_by (own := [("at", 4), ("high", 5), ("low", 6)]) (N := N_bound_places) (sc := defScope s_bound_places) (by decide +kernel)) (fun _ _ _ _ _ => (pg_tup rfl (pgs_cons (pg_name (i := 4) nd rfl (Or.inl rfl)) (pgs_cons (pg_tup rfl (pgs_cons (pg_name (i := 5) nd rfl (Or.inl rfl)) (pgs_cons (pg_name (i := 6) nd rfl (Or.inl rfl)) pgs_nil))) pgs_nil)))) (fun _ _ _ _ _ => pts_one (pt_cmpR op_gt (pv 6) (pv 5) (nomark _))) (fun _ _ _ _ _ => (pv 4)))))), ?_⟩
    have hs2 : s < 2 ^ 1000 := Nat.lt_of_le_of_lt hs hn
    have l1 := dig_len_small hp hn
    refine q_asgR (er_zip (el_callN (ea_cons (ev_var rfl) (ea_cons (ev_var rfl) ea_nil)) (sl_figures_of hp hp2 hn)) (el_callN (ea_cons (ev_var rfl) (ea_cons (ev_var rfl) ea_nil)) (sl_figures_of hp hp2 hs2))) fun R H1 hR e1 hPr => ?_
    obtain ⟨ts, hts, hlen, hpr⟩ := hPr
    rw [nl_len, nl_len] at hlen
    have e0 : nl (bpl p n s) = given ts.length (fun i => decide ((dig p n).getD i 0 < (dig p s).getD i 0)) fun i => V.int (i : Int) := by
      rw [hlen]
      rfl
    refine s_retL (xs := nl (bpl p n s)) ?_ fun r H2 hr2 e2 h2 => k r H2 (fresh_back e1 hr2) (e1.trans e2) h2
    rw [e0]
    refine el_lcW _ _ (ei_enum (a := R) (xs := ts.map V.ref) (ea_cons (ev_var rfl) ea_nil) (sq_of hts)) (by have z := walk_enum (K := K) (a := R) (xs := ts.map V.ref); rw [List.length_map] at z; exact z) (by omega) (fun H2 e2 => sq_of (e2 _ _ hts)) fun i x H2 H3 Rr e2 hi y kk => ?_
    obtain ⟨Tt, u, v, rfl, nT, rfl, eu, ev⟩ := y
    obtain rfl : V.int (i : Nat) = u := Option.some.inj eu
    have ev : (ts.map V.ref)[i]? = some v := ev
    rw [List.getElem?_map] at ev
    obtain ⟨t, ht⟩ : ∃ t, ts[i]? = some t := ⟨ts[i], List.getElem?_eq_getElem hi⟩
    rw [ht] at ev
    obtain rfl : V.ref t = v := Option.some.inj ev
    have i1 : i < (dig p n).length := by omega
    have i2 : i < (dig p s).length := by omega
    have hpair : H1 t = some (.tup [V.int (((dig p n).getD i 0 : Nat) : Int), V.int (((dig p s).getD i 0 : Nat) : Int)]) := hpr i t _ _ ht (nl_getD i1) (nl_getD i2)
    have eT : Ex H2 (upd H2 Tt (.tup [V.int (i : Nat), .ref t])) := Ex.new nT
    refine ⟨Tt, [V.int (i : Nat), .ref t], rfl, st_of upd_same, rfl, V.int (i : Nat), [.ref t], rfl, .ref t, [], rfl, ⟨t, [V.int (((dig p n).getD i 0 : Nat) : Int), V.int (((dig p s).getD i 0 : Nat) : Int)], rfl, st_of (eT _ _ (e2 _ _ hpair)), rfl, _, [V.int (((dig p s).getD i 0 : Nat) : Int)], rfl, _, [], rfl, rfl, rfl, ?_⟩⟩
    refine kk _ _ eT rfl (et_test (ev_is (ev_op (ev_var rfl) (ev_var rfl) rv_I0) ?_)) fun _ => ev_var rfl
    congr 1
    exact decide_eq_decide.mpr (by omega)
theorem sl_bound_places {H : Hp} {p n s : Nat} (hp : 2 ≤ p) (hp2 : p < 1024) (hn : n < 2 ^ 1000) (hs : s ≤ n) : SpL sp_bound_places [.int (p : Int), .int (n : Int), .int (s : Int)] H (nl (bpl p n s)) := sl_of fun H1 e Q E k => ⟨p, n, s, rfl, hp, hp2, hn, hs, k⟩
end

/-! ### the two answers -/
section
variable {P : Program} {w : World} {K : PySem.W.Frag} {mg : Str → Option Value} {base : Heap} {cChooseError cBadPrime cBadMany cBadSome cBadNumber cNotFree cAnswer cFree cBound : Addr}
theorem can_Free_init (T : Txt K mg cChooseError cBadPrime cBadMany cBadSome cBadNumber cNotFree cAnswer cFree cBound) : CanI P w K mg base 1 cFree P_Free_init (spInit1 cFree "rest") := by
  refine T.d_Free_init.can sc_Free_init (fun vs H Q E h => ?_) (fun f cdv A outer s H vs Q E hr h => ?_)
  · obtain ⟨p, dx, x, rfl, _⟩ := h
    rfl
  · obtain ⟨p, dx, x, rfl, hp, k⟩ := h
    have nd := sc_Free_init.nd
    refine ⟨_, (pss_one (ps_fld (pv 0) (pv 1) rfl)), ?_⟩
    exact ⟨x, rfl, .ref p, rfl, p, cFree, dx, [], rfl, hp, T.cl_Free, T.na_Free, (by show 0 < 1000; decide), k⟩
theorem can_Bound_init (T : Txt K mg cChooseError cBadPrime cBadMany cBadSome cBadNumber cNotFree cAnswer cFree cBound) : CanI P w K mg base 1 cBound P_Bound_init (spInit1 cBound "place") := by
  refine T.d_Bound_init.can sc_Bound_init (fun vs H Q E h => ?_) (fun f cdv A outer s H vs Q E hr h => ?_)
  · obtain ⟨p, dx, x, rfl, _⟩ := h
    rfl
  · obtain ⟨p, dx, x, rfl, hp, k⟩ := h
    have nd := sc_Bound_init.nd
    refine ⟨_, (pss_one (ps_fld (pv 0) (pv 1) rfl)), ?_⟩
    exact ⟨x, rfl, .ref p, rfl, p, cBound, dx, [], rfl, hp, T.cl_Bound, T.na_Bound, (by show 0 < 1000; decide), k⟩
end

/-! ### asked rightly -/
section
variable {P : Program} {w : World} {K : PySem.W.Frag} {mg : Str → Option Value} {base : Heap} {cChooseError cBadPrime cBadMany cBadSome cBadNumber cNotFree cAnswer cFree cBound : Addr}
def sp_check_row : Sp := fun vs H Q _ => ∃ (p n : Int), vs = [.int p, .int n] ∧ primeZ p = true ∧ 0 ≤ n ∧ RetV .non H Q
theorem can_check_row (T : Txt K mg cChooseError cBadPrime cBadMany cBadSome cBadNumber cNotFree cAnswer cFree cBound) : Can P w K mg base 3 "check_row" P_check_row sp_check_row := by
  refine T.d_check_row.can sc_check_row (fun vs H Q E h => ?_) (fun f cdv A outer s H vs Q E hr h => ?_)
  · obtain ⟨p, n, rfl, _⟩ := h
    rfl
  · obtain ⟨p, n, rfl, hp, hn, k⟩ := h
    have nd := sc_check_row.nd
    refine ⟨_, (pss_cons (ps_if (pt_not (pt_val (pe_callC (can_is_prime T) (hr.mono (by decide)) (by rfl) (pa_cons (pv 0) pa_nil)))) (pss_one ps_never) pss_nil)
    (pss_one (ps_if (pt_not (pt_val (pe_callC (can_is_many T) (hr.mono (by decide)) (by rfl) (pa_cons (pv 1) pa_nil)))) (pss_one ps_never) pss_nil))), ?_⟩
    refine q_when (b := false) (et_not (a := true) (et_B (ev_is (ev_callN (ea_cons (ev_var rfl) ea_nil) (sv_is_prime (.int p))) (by show V.bl (primeZ p) = V.bl true; rw [hp])))) (fun hb => by cases hb) fun _ H1 e1 => ?_
    exact s_when (b := false) (et_not (a := true) (et_B (ev_is (ev_callN (ea_cons (ev_var rfl) ea_nil) (sv_is_many (.int n))) (by show V.bl (decide (0 ≤ n)) = V.bl true; rw [decide_eq_true hn])))) (fun hb => by cases hb) fun _ H2 e2 => k H2 (e1.trans e2)
theorem sv_check_row {H : Hp} {p n : Int} (hp : primeZ p = true) (hn : 0 ≤ n) : SpV sp_check_row [.int p, .int n] H .non := sv_of fun H1 e Q E k => ⟨p, n, rfl, hp, hn, k⟩
def sp_check_pick : Sp := fun vs H Q _ => ∃ (p n s : Int), vs = [.int p, .int n, .int s] ∧ primeZ p = true ∧ 0 ≤ s ∧ s ≤ n ∧ RetV .non H Q
theorem can_check_pick (T : Txt K mg cChooseError cBadPrime cBadMany cBadSome cBadNumber cNotFree cAnswer cFree cBound) : Can P w K mg base 4 "check_pick" P_check_pick sp_check_pick := by
  refine T.d_check_pick.can sc_check_pick (fun vs H Q E h => ?_) (fun f cdv A outer s H vs Q E hr h => ?_)
  · obtain ⟨p, n, s, rfl, _⟩ := h
    rfl
  · obtain ⟨p, n, s, rfl, hp, h0, h1, k⟩ := h
    have nd := sc_check_pick.nd
    refine ⟨_, (pss_cons (ps_expr (pe_callC (can_check_row T) (hr.mono (by decide)) (by rfl) (pa_cons (pv 0) (pa_cons (pv 1) pa_nil))))
    (pss_one (ps_if (pt_not (pt_val (pe_callC (can_is_between T) (hr.mono (by decide)) (by rfl) (pa_cons (pv 2) (pa_cons pe_int (pa_cons (pv 1) pa_nil)))))) (pss_one ps_never) pss_nil))), ?_⟩
    refine q_drop (ev_callN (ea_cons (ev_var rfl) (ea_cons (ev_var rfl) ea_nil)) (sv_check_row hp (by omega))) fun H1 e1 => ?_
    exact s_when (b := false) (et_not (a := true) (et_B (ev_is (ev_callN (ea_cons (ev_var rfl) (ea_cons ev_c (ea_cons (ev_var rfl) ea_nil))) (sv_is_between (.int s))) (by show V.bl (decide (0 ≤ s) && decide (s ≤ n)) = V.bl true; rw [decide_eq_true h0, decide_eq_true h1]; rfl)))) (fun hb => by cases hb) fun _ H2 e2 => k H2 (e1.trans e2)
theorem sv_check_pick {H : Hp} {p n s : Int} (hp : primeZ p = true) (h0 : 0 ≤ s) (h1 : s ≤ n) : SpV sp_check_pick [.int p, .int n, .int s] H .non := sv_of fun H1 e Q E k => ⟨p, n, s, rfl, hp, h0, h1, k⟩
end

section
variable {P : Program} {w : World} {K : PySem.W.Frag} {mg : Str → Option Value} {base : Heap} {cChooseError cBadPrime cBadMany cBadSome cBadNumber cNotFree cAnswer cFree cBound : Addr}
def sp_told (cF cB : Addr) : Sp := fun vs H Q _ => ∃ (p n s : Nat), vs = [.int (p : Int), .int (n : Int), .int (s : Int)] ∧ primeZ (p : Int) = true ∧ n < 2 ^ 1000 ∧ s ≤ n ∧ RetR (fun R H2 => AnsIs cF cB H2 R (ansOf p n s)) H Q
theorem can_told (T : Txt K mg cChooseError cBadPrime cBadMany cBadSome cBadNumber cNotFree cAnswer cFree cBound) : Can P w K mg base 6 "told" P_told (sp_told cFree cBound) := by
  refine T.d_told.can sc_told (fun vs H Q E h => ?_) (fun f cdv A outer s H vs Q E hr h => ?_)
  · obtain ⟨p, n, s, rfl, _⟩ := h
    rfl
  · obtain ⟨p, n, s, rfl, hpz, hn, hs, k⟩ := h
    have nd := sc_told.nd
    obtain ⟨p', hpe, hp, hp2⟩ := primeZ_lt hpz
    have hpe2 : p = p' := by omega
    subst hpe2
    refine ⟨_, (pss_cons (ps_expr (pe_callC (can_check_pick T) (hr.mono (by decide)) (by rfl) (pa_cons (pv 0) (pa_cons (pv 1) (pa_cons (pv 2) pa_nil)))))
    (pss_cons (ps_asg (pe_callC (can_ways_of T) (hr.mono (by decide)) (by rfl) (pa_cons (pv 0) (pa_cons (pv 1) (pa_cons (pv 2) pa_nil)))) (pg_tup rfl (pgs_cons (pg_name (i := 3) nd rfl (Or.inl rfl)) (pgs_cons (pg_name (i := 4) nd rfl (Or.inl rfl)) pgs_nil))))
    (pss_cons (ps_if (pt_cmpR op_eq (pv 3) pe_int (nomark _)) (pss_one (ps_ret (pe_makeC (can_Free_init T) (hr.mono (by decide)) (by rfl) T.g_Free (pa_cons (pv 4) pa_nil)))) pss_nil)
    (pss_one (ps_ret (pe_makeC (can_Bound_init T) (hr.mono (by decide)) (by rfl) T.g_Bound (pa_cons (pe_ix (r := rIxL K) ix_list (pe_callC (can_bound_places T) (hr.mono (by decide)) (by rfl) (pa_cons (pv 0) (pa_cons (pv 1) (pa_cons (pv 2) pa_nil)))) pe_int (fun _ _ => rfl)) pa_nil))))))), ?_⟩
    refine q_drop (ev_callN (ea_cons (ev_var rfl) (ea_cons (ev_var rfl) (ea_cons (ev_var rfl) ea_nil))) (sv_check_pick hpz (by omega) (by omega))) fun H1 e1 => ?_
    refine q_asg2 (eu_call (ea_cons (ev_var rfl) (ea_cons (ev_var rfl) (ea_cons (ev_var rfl) ea_nil))) (su_ways_of hp (by omega) hn hs)) fun H2 e2 => ?_
    refine q_when (b := decide (waysO p n s = 0)) (et_test (ev_is (ev_op (ev_var rfl) ev_c (rv_eq rfl)) (by rw [Rl.dec_int]))) (fun hb H3 e3 => ?_) fun hb H3 e3 => ?_
    · refine em_make (C := cFree) (f := "rest") (ev_var rfl) H3 (Ex.refl H3) _ fun R dx H4 hR e4 h4 => k R H4 (fresh_back ((e1.trans e2).trans e3) hR) (((e1.trans e2).trans e3).trans e4) ?_
      rw [ans_free (of_decide_eq_true hb)]
      exact ⟨dx, h4⟩
    · have hw : ¬ waysO p n s = 0 := of_decide_eq_false hb
      refine em_make (C := cBound) (f := "place") (ev_opL1 (el_callN (ea_cons (ev_var rfl) (ea_cons (ev_var rfl) (ea_cons (ev_var rfl) ea_nil))) (sl_bound_places hp (by omega) hn hs)) ev_c fun q H5 hq e5 => rv_ixL (sq_of hq) (at_nl (j := 0) rfl (bpl_some hp hs hw).1)) H3 (Ex.refl H3) _ fun R dx H4 hR e4 h4 => k R H4 (fresh_back ((e1.trans e2).trans e3) hR) (((e1.trans e2).trans e3).trans e4) ?_
      rw [ans_bound hw]
      exact ⟨dx, h4⟩
theorem er_told {σ : L2.St} {H : Hp} {cF cB : Addr} {E : XK} {tA : TA} {p n s : Nat} (h : EvA tA σ H [.int (p : Int), .int (n : Int), .int (s : Int)]) (hp : primeZ (p : Int) = true) (hn : n < 2 ^ 1000) (hs : s ≤ n) : EvR (tCall (sp_told cF cB) [] E tA) σ H (fun R H2 => AnsIs cF cB H2 R (ansOf p n s)) :=
  er_call h fun H1 e Q E k => ⟨p, n, s, rfl, hp, hn, hs, k⟩
end

section
variable {P : Program} {w : World} {K : PySem.W.Frag} {mg : Str → Option Value} {base : Heap} {cChooseError cBadPrime cBadMany cBadSome cBadNumber cNotFree cAnswer cFree cBound : Addr}
def sp_ways : Sp := fun vs H Q _ => ∃ (p n s : Nat), vs = [.int (p : Int), .int (n : Int), .int (s : Int)] ∧ primeZ (p : Int) = true ∧ n < 2 ^ 1000 ∧ s ≤ n ∧ RetU [.int (waysO p n s), .int (waysC p n s : Int)] H Q
theorem can_ways (T : Txt K mg cChooseError cBadPrime cBadMany cBadSome cBadNumber cNotFree cAnswer cFree cBound) : Can P w K mg base 6 "ways" P_ways sp_ways := by
  refine T.d_ways.can sc_ways (fun vs H Q E h => ?_) (fun f cdv A outer s H vs Q E hr h => ?_)
  · obtain ⟨p, n, s, rfl, _⟩ := h
    rfl
  · obtain ⟨p, n, s, rfl, hpz, hn, hs, k⟩ := h
    have nd := sc_ways.nd
    refine ⟨_, (pss_cons (ps_expr (pe_callC (can_check_pick T) (hr.mono (by decide)) (by rfl) (pa_cons (pv 0) (pa_cons (pv 1) (pa_cons (pv 2) pa_nil)))))
    (pss_one (ps_ret (pe_callC (can_ways_of T) (hr.mono (by decide)) (by rfl) (pa_cons (pv 0) (pa_cons (pv 1) (pa_cons (pv 2) pa_nil))))))), ?_⟩
    refine q_drop (ev_callN (ea_cons (ev_var rfl) (ea_cons (ev_var rfl) (ea_cons (ev_var rfl) ea_nil))) (sv_check_pick hpz (by omega) (by omega))) fun H1 e1 => ?_
    exact s_retU (eu_call (ea_cons (ev_var rfl) (ea_cons (ev_var rfl) (ea_cons (ev_var rfl) ea_nil))) (su_ways_of (pr_of hpz).two (by have := (pr_of hpz).lt; omega) hn hs)) fun r H2 hr2 e2 h2 => k r H2 (fresh_back e1 hr2) (e1.trans e2) h2
theorem su_ways {H : Hp} {p n s : Nat} (hp : primeZ (p : Int) = true) (hn : n < 2 ^ 1000) (hs : s ≤ n) : SpU sp_ways [.int (p : Int), .int (n : Int), .int (s : Int)] H [.int (waysO p n s), .int (waysC p n s : Int)] := su_of fun H1 e Q E k => ⟨p, n, s, rfl, hp, hn, hs, k⟩
def sp_figures : Sp := fun vs H Q _ => ∃ (p n : Nat), vs = [.int (p : Int), .int (n : Int)] ∧ primeZ (p : Int) = true ∧ n < 2 ^ 1000 ∧ RetL (nl (dig p n)) H Q
theorem can_figures (T : Txt K mg cChooseError cBadPrime cBadMany cBadSome cBadNumber cNotFree cAnswer cFree cBound) : Can P w K mg base 4 "figures" P_figures sp_figures := by
  refine T.d_figures.can sc_figures (fun vs H Q E h => ?_) (fun f cdv A outer s H vs Q E hr h => ?_)
  · obtain ⟨p, n, rfl, _⟩ := h
    rfl
  · obtain ⟨p, n, rfl, hpz, hn, k⟩ := h
    have nd := sc_figures.nd
    refine ⟨_, (pss_cons (ps_expr (pe_callC (can_check_row T) (hr.mono (by decide)) (by rfl) (pa_cons (pv 0) (pa_cons (pv 1) pa_nil))))
    (pss_one (ps_ret (pe_callC (can_figures_of T) (hr.mono (by decide)) (by rfl) (pa_cons (pv 0) (pa_cons (pv 1) pa_nil)))))), ?_⟩
    refine q_drop (ev_callN (ea_cons (ev_var rfl) (ea_cons (ev_var rfl) ea_nil)) (sv_check_row hpz (by omega))) fun H1 e1 => ?_
    exact s_retL (el_callN (ea_cons (ev_var rfl) (ea_cons (ev_var rfl) ea_nil)) (sl_figures_of (pr_of hpz).two (by have := (pr_of hpz).lt; omega) hn)) fun r H2 hr2 e2 h2 => k r H2 (fresh_back e1 hr2) (e1.trans e2) h2
theorem sl_figures {H : Hp} {p n : Nat} (hp : primeZ (p : Int) = true) (hn : n < 2 ^ 1000) : SpL sp_figures [.int (p : Int), .int (n : Int)] H (nl (dig p n)) := sl_of fun H1 e Q E k => ⟨p, n, rfl, hp, hn, k⟩
def sp_product : Sp := fun vs H Q _ => ∃ (p n : Nat), vs = [.int (p : Int), .int (n : Int)] ∧ primeZ (p : Int) = true ∧ n < 2 ^ 1000 ∧ RetU [.int (lg p n : Int), .int (cf p n : Int)] H Q
theorem can_product (T : Txt K mg cChooseError cBadPrime cBadMany cBadSome cBadNumber cNotFree cAnswer cFree cBound) : Can P w K mg base 5 "product" P_product sp_product := by
  refine T.d_product.can sc_product (fun vs H Q E h => ?_) (fun f cdv A outer s H vs Q E hr h => ?_)
  · obtain ⟨p, n, rfl, _⟩ := h
    rfl
  · obtain ⟨p, n, rfl, hpz, hn, k⟩ := h
    have nd := sc_product.nd
    refine ⟨_, (pss_cons (ps_expr (pe_callC (can_check_row T) (hr.mono (by decide)) (by rfl) (pa_cons (pv 0) (pa_cons (pv 1) pa_nil))))
    (pss_one (ps_ret (pe_callC (can_product_of T) (hr.mono (by decide)) (by rfl) (pa_cons (pv 0) (pa_cons (pv 1) pa_nil)))))), ?_⟩
    refine q_drop (ev_callN (ea_cons (ev_var rfl) (ea_cons (ev_var rfl) ea_nil)) (sv_check_row hpz (by omega))) fun H1 e1 => ?_
    exact s_retU (eu_call (ea_cons (ev_var rfl) (ea_cons (ev_var rfl) ea_nil)) (su_product_of (pr_of hpz).two (by have := (pr_of hpz).lt; omega) hn)) fun r H2 hr2 e2 h2 => k r H2 (fresh_back e1 hr2) (e1.trans e2) h2
theorem su_product {H : Hp} {p n : Nat} (hp : primeZ (p : Int) = true) (hn : n < 2 ^ 1000) : SpU sp_product [.int (p : Int), .int (n : Int)] H [.int (lg p n : Int), .int (cf p n : Int)] := su_of fun H1 e Q E k => ⟨p, n, rfl, hp, hn, k⟩
end

/-! ### put together; the rows of choices -/
section
variable {P : Program} {w : World} {K : PySem.W.Frag} {mg : Str → Option Value} {base : Heap} {cChooseError cBadPrime cBadMany cBadSome cBadNumber cNotFree cAnswer cFree cBound : Addr}
def sp_put_together : Sp := fun vs H Q _ => ∃ (a R : Addr) (r ds : List Nat), vs = [.ref a, .ref R] ∧ H a = some (.lst (nl ds)) ∧ RowsAt H R (tow r) ∧ Fit r ∧ r ≠ [] ∧ ds.length = r.length ∧ wsum r ds < 2 ^ 4000 ∧ RetV (.int (wsum r ds : Int)) H Q
theorem can_put_together (T : Txt K mg cChooseError cBadPrime cBadMany cBadSome cBadNumber cNotFree cAnswer cFree cBound) : Can P w K mg base 1 "put_together" P_put_together sp_put_together := by
  refine T.d_put_together.can sc_put_together (fun vs H Q E h => ?_) (fun f cdv A outer s H vs Q E hr h => ?_)
  · obtain ⟨a, R, r, ds, rfl, _⟩ := h
    rfl
  · obtain ⟨a, R, r, ds, rfl, ha, hR, hf, hne, hdl, hw, k⟩ := h
    have nd := sc_put_together.nd
    refine ⟨_, (pss_cons (ps_set (i := 2) nd rfl (Or.inr rfl) (pv 0))
    (pss_cons (ps_for PassesOwn.never rfl (pi_list (pe_slice sl_list (pv 1) po_none (po_some (pe_un un_neg pe_int)))) (pg_name (i := 3) nd rfl (Or.inr rfl)) (pss_cons (ps_setLc (i := 4) (own := [("at", 5)]) (g := gName 5) rfl nd rfl rfl (sw_true rfl rfl rfl (by decide +kernel)) (pi_range3 (by rfl) T.n_range (pa_cons pe_int (pa_cons (pe_op op_sub (pe_callB (r := rLenS K) call_len_seq (by rfl) T.n_len PySem.boot_len (pa_cons (pv 3) pa_nil)) pe_int) (pa_cons pe_int pa_nil)))) (blkOk_by (own := [("at", 5)]) (N := N_put_together) (sc := defScope s_put_together) (by decide +kernel)) (fun _ _ _ _ _ => (pg_name (i := 5) nd rfl (Or.inl rfl))) (fun _ _ _ _ _ => pts_nil) (fun _ _ _ _ _ => (pe_op op_add (pe_ix (r := rIxL K) ix_list (pv 2) (pv 5) (fun _ _ => rfl)) (pe_op op_mulX (pe_ix (r := rIxL K) ix_list (pv 2) (pe_op op_add (pv 5) pe_int) (fun _ _ => rfl)) (pe_ix (r := rIxL K) ix_list (pv 3) (pv 5) (fun _ _ => rfl))))))
    (pss_one (ps_set (i := 2) nd rfl (Or.inr rfl) (pe_op op_cat (pv 4) (pe_slice sl_list (pv 2) (po_some (pe_op op_mulX (pe_callB (r := rLenS K) call_len_seq (by rfl) T.n_len PySem.boot_len (pa_cons (pv 4) pa_nil)) pe_int)) po_none))))))
    (pss_one (ps_ret (pe_ix (r := rIxL K) ix_list (pv 2) pe_int (fun _ _ => rfl)))))), ?_⟩
    obtain ⟨as, hRl, hal, hrows⟩ := hR
    generalize hrw : tow r = rows at hal hrows
    have ch : Chn rows := hrw ▸ chn_tow r
    have ft : ∀ s ∈ rows, Fit s := hrw ▸ fit_tow hf
    have r0 : rows[0]? = some r := hrw ▸ tow_zero r
    have hrl : rows.length ≤ 4001 := by
      have h1 := tow_length r.length r (by omega)
      have h2 := hf.len
      rw [hrw] at h1
      omega
    have pl : 0 < rows.length := List.length_pos_iff.mpr ch.ne
    obtain ⟨m, hm⟩ : ∃ m, rows.length = m + 1 := ⟨rows.length - 1, by omega⟩
    refine q_asg (v := .ref a) (ev_var rfl) fun H1 e1 => ?_
    have hRl1 : H1 R = some (.lst (as.map V.ref)) := e1 _ _ hRl
    have esl : EvL (tSl (rSlL K) (tVar 1) tNoPart (tPart (tUn (rU fun i => .int (-i)) (tC (.int 1))))) ((start N_put_together [.ref a, .ref R]).set 2 (some (.ref a))) H1 ((as.take m).map V.ref) := by
      have e0 : (as.take m).map V.ref = cutV (as.map V.ref) none (some (-1)) := by
        rw [cut_init, List.dropLast_eq_take, List.length_map, hal, hm, Nat.add_sub_cancel, List.map_take]
      rw [e0]
      exact el_sl (ev_var rfl) eo_none (eo_some (ev_un ev_c ru_neg)) (sq_of hRl1)
    have lm : ((as.take m).map V.ref).length = m := by
      rw [List.length_map, List.length_take]
      omega
    refine q_forWN (n := m) (ein_list esl) (fun p => by have q := walk_list (K := K) (a := p) (xs := (as.take m).map V.ref); rw [lm] at q; exact q)
      (fun p i σ' H' => ∃ (y3 y4 y5 : Option V) (q : Addr) (s es : List Nat), σ' = [some (.ref a), some (.ref R), some (.ref q), y3, y4, y5] ∧ rows[i]? = some s ∧ s ≠ [] ∧ es.length = s.length ∧ wsum s es = wsum r ds ∧ Ex H H' ∧ H' p = some (.lst ((as.take m).map V.ref)) ∧ H' q = some (.lst (nl es))) ?_ ?_ ?_ ?_
    · intro p H2 hp e2 h2
      exact ⟨none, none, none, a, r, ds, rfl, r0, hne, hdl, rfl, e1.trans e2, h2, e2 _ _ (e1 _ _ ha)⟩
    · rintro p i σ' H' hi ⟨_, _, _, q, s, es, _, _, _, _, _, _, hp, _⟩
      exact sq_of hp
    · rintro p i x σ' H2 H3 hi ⟨y3, y4, y5, q, s, es, rfl, hs, hsn, hel, hes, ex, hp, hq⟩ y
      obtain ⟨rfl, hx⟩ := y
      obtain ⟨b, hb⟩ : ∃ b, as[i]? = some b := ⟨as[i]'(by omega), List.getElem?_eq_getElem (by omega)⟩
      have ex0 : x = .ref b := by
        rw [List.getElem?_map, List.getElem?_take_of_lt hi, hb] at hx
        exact (Option.some.inj hx).symm
      subst ex0
      have hB : H3 b = some (.lst (nl s)) := ex _ _ (hrows _ b s hb hs)
      have hf1 := ft s (List.mem_of_getElem? hs)
      have hls := hf1.len
      obtain ⟨s', hs'⟩ : ∃ s', rows[i + 1]? = some s' := ⟨rows[i + 1]'(by omega), List.getElem?_eq_getElem (by omega)⟩
      obtain ⟨e', hl1⟩ := ch.nx i s s' hs hs'
      subst e'
      have bnd : ∀ j, es.getD j 0 < 2 ^ 4000 := by
        intro j
        by_cases hj : j < es.length
        · rw [List.getD_eq_getElem?_getD, List.getElem?_eq_getElem hj]
          have := wsum_ge s es hf1.pos hel.symm _ (List.getElem_mem hj)
          rw [hes] at this
          exact Nat.lt_of_le_of_lt this hw
        · rw [List.getD_eq_getElem?_getD, List.getElem?_eq_none (by omega)]
          exact Nat.pow_pos (by decide)
      generalize hps : ((List.range (s.length / 2)).map fun i => es.getD (2 * i) 0 + es.getD (2 * i + 1) 0 * s.getD (2 * i) 0) = ps
      have lps : ps.length = s.length / 2 := by rw [← hps, List.length_map, List.length_range]
      refine q_asgL (xs := nl ps) ?_ fun q2 H4 hq2 e4 h4 => ?_
      · have e0 : nl ps = given (s.length / 2) (fun _ => true) fun i => V.int ((es.getD (2 * i) 0 + es.getD (2 * i + 1) 0 * s.getD (2 * i) 0 : Nat) : Int) := by
          rw [given_all, ← hps]
          unfold nl
          rw [List.map_map]
          rfl
        rw [e0]
        refine el_lcW (fun _ => true) _ (ei_rng3 (lo := 0) (hi := (s.length : Int) - 1) (c := 2) (ea_cons ev_c (ea_cons (ev_is (ev_op (ev_len (ev_var rfl) (sq_of hB)) ev_c rv_I0) (by rw [nl_len])) (ea_cons ev_c ea_nil))) (rgc2 s.length (by omega))) walk_rangeC (by omega) (fun _ _ => trivial) fun j x H5 H6 Rr e5 hj y kk => ?_
        obtain ⟨rfl, rfl⟩ := y
        refine kk _ _ (Ex.refl _) rfl (fun H7 _ Q q => q H7 (Ex.refl H7)) fun _ => ?_
        have sb := sq_of (K := K) (e5 _ _ hB)
        have sq2 := sq_of (K := K) (e5 _ _ hq)
        have b1 : s.getD (2 * j) 0 < 2 ^ 4000 := by
          rw [List.getD_eq_getElem?_getD, List.getElem?_eq_getElem (show 2 * j < s.length by omega)]
          exact hf1.lt (List.getElem_mem _)
        exact ev_op (ev_op (ev_var rfl) (ev_var rfl) (rv_ixL sq2 (at_nl (j := 2 * j) (by omega) (by omega)))) (ev_op (ev_op (ev_var rfl) (ev_op (ev_var rfl) ev_c rv_I0) (rv_ixL sq2 (at_nl (j := 2 * j + 1) (by omega) (by omega)))) (ev_op (ev_var rfl) (ev_var rfl) (rv_ixL sb (at_nl (j := 2 * j) (by omega) (by omega)))) (rv_mulN (cmul_small (bnd _) b1))) (rv_addN (n := es.getD (2 * j) 0) (m := es.getD (2 * j + 1) 0 * s.getD (2 * j) 0))
      · have e0 : nl (joinUp s es) = nl ps ++ cutV (nl es) (some ((ps.length * 2 : Nat) : Int)) none := by
          rw [cut_from, ← nl_drop, ← nl_app, lps, joinUp_eq s es hel.symm, hps]
        refine s_asgL (xs := nl (joinUp s es)) ?_ fun q3 H5 hq3 e5 h5 => ⟨_, _, _, q3, pairUp s, joinUp s es, rfl, hs', pairUp_ne hsn, joinUp_len s es hel.symm, by rw [wsum_join s es hel.symm, hes], (ex.trans e4).trans e5, e5 _ _ (e4 _ _ hp), h5⟩
        rw [e0]
        refine el_cat (ev_var rfl) h4 (el_sl (ev_var rfl) (eo_some (ev_is (ev_op (ev_len (ev_var rfl) (sq_of h4)) ev_c (rv_mulN (n := (nl ps).length) (m := 2) ?_)) ?_)) eo_none (sq_of (e4 _ _ hq))) ?_
        · rw [nl_len]
          exact cmul_small (lt_big (by omega)) (lt_big (by decide))
        · rw [nl_len]
        · rw [nl_len, cut_from, List.length_drop, nl_len]
          omega
    · rintro p σ' H' ⟨y3, y4, y5, q, s, es, rfl, hs, hsn, hel, hes, ex, hp, hq⟩
      have hl1 : s.length ≤ 1 := ch.last s (by rw [hm, Nat.add_sub_cancel]; exact hs)
      match s, es, hsn, hl1, hel, hes, hq with
      | [b], [x], _, _, _, hes, hq =>
        have hx : x = wsum r ds := by
          rw [← hes]
          show x = x + b * 0
          omega
        subst hx
        exact s_ret (ev_op (ev_var rfl) ev_c (rv_ixL (sq_of hq) rfl)) fun H2 e2 => k H2 (ex.trans e2)
theorem sv_put_together {H : Hp} {a R : Addr} {r ds : List Nat} (ha : H a = some (.lst (nl ds))) (hR : RowsAt H R (tow r)) (hf : Fit r) (hne : r ≠ []) (hl : ds.length = r.length) (hw : wsum r ds < 2 ^ 4000) : SpV sp_put_together [.ref a, .ref R] H (.int (wsum r ds : Int)) := sv_of fun H1 e Q E k => ⟨a, R, r, ds, rfl, e _ _ ha, hR.mono e, hf, hne, hl, hw, k⟩

def sp_row_towers : Sp := fun vs H Q _ => ∃ (p n : Nat), vs = [.int (p : Int), .int (n : Int)] ∧ 2 ≤ p ∧ p < 1024 ∧ n < 2 ^ 1000 ∧ RetR (fun R H2 => RowsAt H2 R (tow (choice p n))) H Q
theorem can_row_towers (T : Txt K mg cChooseError cBadPrime cBadMany cBadSome cBadNumber cNotFree cAnswer cFree cBound) : Can P w K mg base 4 "row_towers" P_row_towers sp_row_towers := by
  refine T.d_row_towers.can sc_row_towers (fun vs H Q E h => ?_) (fun f cdv A outer s H vs Q E hr h => ?_)
  · obtain ⟨p, n, rfl, _⟩ := h
    rfl
  · obtain ⟨p, n, rfl, hp, hp2, hn, k⟩ := h
    have nd := sc_row_towers.nd
    refine ⟨_, (pss_cons (ps_setLc (i := 2) (own := [("figure", 3)]) (g := gName 3) rfl nd rfl rfl (sw_true rfl rfl rfl (by decide +kernel)) (pi_list (pe_callC (can_figures_of T) (hr.mono (by decide)) (by rfl) (pa_cons (pv 0) (pa_cons (pv 1) pa_nil)))) (blkOk_by (own := [("figure", 3)]) (N := N_row_towers) (sc := defScope s_row_towers) (by decide +kernel)) (fun _ _ _ _ _ => (pg_name (i := 3) nd rfl (Or.inl rfl))) (fun _ _ _ _ _ => pts_nil) (fun _ _ _ _ _ => (pe_op op_add (pv 3) pe_int)))
    (pss_one (ps_ret (pe_callC (can_towers T) (hr.mono (by decide)) (by rfl) (pa_cons (pe_orT (pv 2) (pe_one (pe_lst (pa_cons pe_int pa_nil)))) pa_nil))))), ?_⟩
    have hl := dig_len_small hp hn
    have hfit := fit_choice hp hp2 hn
    refine q_asgL (xs := nl ((dig p n).map (· + 1))) ?_ fun q H1 hq e1 h1 => ?_
    · have e0 : nl ((dig p n).map (· + 1)) = given (dig p n).length (fun _ => true) fun i => V.int (((dig p n).getD i 0 + 1 : Nat) : Int) := by
        rw [given_all, map_range_getD (dig p n) fun d => V.int ((d + 1 : Nat) : Int)]
        unfold nl
        rw [List.map_map]
        rfl
      rw [e0]
      refine el_lcWN (xs := nl (dig p n)) (fun _ => true) _ (ein_list (el_callN (ea_cons (ev_var rfl) (ea_cons (ev_var rfl) ea_nil)) (sl_figures_of hp hp2 hn))) (fun r => by have z := walk_list (K := K) (a := r) (xs := nl (dig p n)); rw [nl_len] at z; exact z) (by omega) (fun r H2 e2 h2 => sq_of h2) fun r i x H2 H3 R e2 h2 hi y kk => ?_
      obtain ⟨rfl, hx⟩ := y
      obtain ⟨d, hd, rfl⟩ := nl_some hx
      exact kk _ _ (Ex.refl _) rfl (fun H4 _ Q q => q H4 (Ex.refl H4)) fun _ => ev_is (ev_op (ev_var rfl) ev_c (rv_addN (n := d) (m := 1))) (by rw [getD_of hd])
    · by_cases hz : dig p n = []
      · have ec : choice p n = [1] := by
          unfold choice
          rw [if_pos hz]
        refine ⟨.ref q, rfl, false, .inl ⟨_, sq_of h1, by rw [hz]; rfl⟩, ?_⟩
        rw [if_neg (by decide)]
        refine (el_lst (vs := nl [1]) (ea_cons (ev_is ev_c rfl) ea_nil) (by show 1 ≤ 100000; decide)) H1 (Ex.refl H1) _ fun a H2 ha e2 h2 => ?_
        show sp_towers K ([.ref a] ++ []) H2 _ E0
        rw [List.append_nil]
        exact ⟨a, choice p n, rfl, by rw [ec]; exact h2, hfit, fun R H3 hR e3 hrows => k R H3 (fresh_back (e1.trans e2) hR) ((e1.trans e2).trans e3) hrows⟩
      · have ec : choice p n = (dig p n).map (· + 1) := by
          unfold choice
          rw [if_neg hz]
        refine ⟨.ref q, rfl, true, .inl ⟨_, sq_of h1, ?_⟩, ?_⟩
        · cases hd : dig p n with
          | nil => exact absurd hd hz
          | cons d ds => rfl
        · show sp_towers K ([.ref q] ++ []) H1 _ E0
          rw [List.append_nil]
          exact ⟨q, choice p n, rfl, by rw [ec]; exact h1, hfit, fun R H3 hR e3 hrows => k R H3 (fresh_back e1 hR) (e1.trans e3) hrows⟩
theorem er_row_towers {σ : L2.St} {H : Hp} {E : XK} {tA : TA} {p n : Nat} (h : EvA tA σ H [.int (p : Int), .int (n : Int)]) (hp : 2 ≤ p) (hp2 : p < 1024) (hn : n < 2 ^ 1000) : EvR (tCall sp_row_towers [] E tA) σ H (fun R H2 => RowsAt H2 R (tow (choice p n))) :=
  er_call h fun H1 e Q E k => ⟨p, n, rfl, hp, hp2, hn, k⟩

def sp_free : Sp := fun vs H Q _ => ∃ (p n : Nat), vs = [.int (p : Int), .int (n : Int)] ∧ primeZ (p : Int) = true ∧ n < 2 ^ 1000 ∧ RetV (.int (cnt p n : Int)) H Q
theorem can_free (T : Txt K mg cChooseError cBadPrime cBadMany cBadSome cBadNumber cNotFree cAnswer cFree cBound) : Can P w K mg base 5 "free" P_free sp_free := by
  refine T.d_free.can sc_free (fun vs H Q E h => ?_) (fun f cdv A outer s H vs Q E hr h => ?_)
  · obtain ⟨p, n, rfl, _⟩ := h
    rfl
  · obtain ⟨p, n, rfl, hpz, hn, k⟩ := h
    have nd := sc_free.nd
    refine ⟨_, (pss_cons (ps_expr (pe_callC (can_check_row T) (hr.mono (by decide)) (by rfl) (pa_cons (pv 0) (pa_cons (pv 1) pa_nil))))
    (pss_one (ps_ret (pe_ix (r := rIxL K) ix_list (pe_ix (r := rIxL K) ix_list (pe_callC (can_row_towers T) (hr.mono (by decide)) (by rfl) (pa_cons (pv 0) (pa_cons (pv 1) pa_nil))) (pe_un un_neg pe_int) (fun _ _ => rfl)) pe_int (fun _ _ => rfl))))), ?_⟩
    refine q_drop (ev_callN (ea_cons (ev_var rfl) (ea_cons (ev_var rfl) ea_nil)) (sv_check_row hpz (by omega))) fun H1 e1 => ?_
    exact s_ret (ev_cntR (er_row_towers (ea_cons (ev_var rfl) (ea_cons (ev_var rfl) ea_nil)) (pr_of hpz).two (by have := (pr_of hpz).lt; omega) hn) (choice_ne p n)) fun H2 e2 => k H2 (e1.trans e2)
theorem sv_free {H : Hp} {p n : Nat} (hp : primeZ (p : Int) = true) (hn : n < 2 ^ 1000) : SpV sp_free [.int (p : Int), .int (n : Int)] H (.int (cnt p n : Int)) := sv_of fun H1 e Q E k => ⟨p, n, rfl, hp, hn, k⟩

def sp_most : Sp := fun vs H Q _ => ∃ (p n : Nat), vs = [.int (p : Int), .int (n : Int)] ∧ primeZ (p : Int) = true ∧ n + 1 < 2 ^ 1000 ∧ RetV (.int (mostV p n : Int)) H Q
theorem can_most (T : Txt K mg cChooseError cBadPrime cBadMany cBadSome cBadNumber cNotFree cAnswer cFree cBound) : Can P w K mg base 4 "most" P_most sp_most := by
  refine T.d_most.can sc_most (fun vs H Q E h => ?_) (fun f cdv A outer s H vs Q E hr h => ?_)
  · obtain ⟨p, n, rfl, _⟩ := h
    rfl
  · obtain ⟨p, n, rfl, hpz, hn, k⟩ := h
    have nd := sc_most.nd
    have hp := (pr_of hpz).two
    have hp2 := (pr_of hpz).lt
    have hll := lowz_lt (n := n) hp
    refine ⟨_, (pss_cons (ps_expr (pe_callC (can_check_row T) (hr.mono (by decide)) (by rfl) (pa_cons (pv 0) (pa_cons (pv 1) pa_nil))))
    (pss_cons (ps_set (i := 2) nd rfl (Or.inl rfl) (pe_callC (can_figures_of T) (hr.mono (by decide)) (by rfl) (pa_cons (pv 0) (pa_cons (pe_op op_add (pv 1) pe_int) pa_nil))))
    (pss_cons (ps_set (i := 3) nd rfl (Or.inl rfl) pe_int)
    (pss_cons (ps_while PassesOwn.never (pt_cmpR op_eq (pe_ix (r := rIxL K) ix_list (pv 2) (pv 3) (fun _ _ => rfl)) pe_int (nomark _)) (pss_one (ps_aug (i := 3) nd rfl (Or.inl rfl) pe_int ip_add)))
    (pss_one (ps_ret (pe_op op_sub (pe_op op_sub (pe_callB (r := rLenS K) call_len_seq (by rfl) T.n_len PySem.boot_len (pa_cons (pv 2) pa_nil)) pe_int) (pv 3)))))))), ?_⟩
    refine q_drop (ev_callN (ea_cons (ev_var rfl) (ea_cons (ev_var rfl) ea_nil)) (sv_check_row hpz (by omega))) fun H1 e1 => ?_
    refine q_asgL (el_callN (ea_cons (ev_var rfl) (ea_cons (ev_op (ev_var rfl) ev_c (rv_addN (n := n) (m := 1))) ea_nil)) (sl_figures_of hp (by omega) hn)) fun q H2 hq e2 h2 => ?_
    refine q_asg (v := .int ((0 : Nat) : Int)) (ev_is ev_c rfl) fun H3 e3 => ?_
    refine q_while (fun m σ' H' => ∃ j : Nat, σ' = [some (.int (p : Int)), some (.int (n : Int)), some (.ref q), some (.int (j : Int))] ∧ j + m = lowz (dig p (n + 1)) ∧ Ex H2 H') (lowz (dig p (n + 1))) ?_ ?_
    · exact ⟨0, rfl, Nat.zero_add _, e3⟩
    · rintro m σ' H' ⟨j, rfl, hj, ex⟩
      have hq' := ex _ _ h2
      refine ⟨decide ((dig p (n + 1)).getD j 0 = 0), et_test (ev_is (ev_op (ev_op (ev_var rfl) (ev_var rfl) (rv_ixL (sq_of hq') (at_nl (j := j) rfl (by omega)))) ev_c (rv_eq rfl)) (by rw [Rl.dec_int]; exact bl_of (by omega))), fun hb H4 e4 => ?_, fun hb H4 e4 => ?_⟩
      · have hz : (dig p (n + 1)).getD j 0 = 0 := of_decide_eq_true hb
        have hjl : j < lowz (dig p (n + 1)) := by
          rcases Nat.lt_or_ge j (lowz (dig p (n + 1))) with z | z
          · exact z
          · exfalso
            have hj2 : j = lowz (dig p (n + 1)) := by omega
            obtain ⟨d, g1, g2⟩ := lowz_at _ (dig_some (n := n) hp)
            rw [hj2, getD_of g1] at hz
            exact g2 hz
        refine ⟨fun σ2 H5 => σ2 = [some (.int (p : Int)), some (.int (n : Int)), some (.ref q), some (.int ((j + 1 : Nat) : Int))] ∧ Ex H2 H5, fun σ2 H5 h => ⟨m - 1, by omega, j + 1, h.1, by omega, h.2⟩, ?_⟩
        exact s_aug (a := (j : Int)) (b := 1) rfl ev_c fun H5 e5 => ⟨rfl, (ex.trans e4).trans e5⟩
      · have hz : ¬ (dig p (n + 1)).getD j 0 = 0 := of_decide_eq_false hb
        have hj2 : j = lowz (dig p (n + 1)) := by
          rcases Nat.lt_or_ge j (lowz (dig p (n + 1))) with z | z
          · exact absurd (getD_of (lowz_before _ j z)) hz
          · omega
        refine s_ret (ev_is (ev_op (ev_op (ev_len (ev_var rfl) (sq_of (e4 _ _ hq'))) ev_c rv_I0) (ev_var rfl) rv_I0) ?_) fun H5 e5 => k H5 ((((e1.trans e2).trans ex).trans e4).trans e5)
        rw [nl_len, hj2]
        refine congrArg V.int ?_
        unfold mostV
        omega
theorem sv_most {H : Hp} {p n : Nat} (hp : primeZ (p : Int) = true) (hn : n + 1 < 2 ^ 1000) : SpV sp_most [.int (p : Int), .int (n : Int)] H (.int (mostV p n : Int)) := sv_of fun H1 e Q E k => ⟨p, n, rfl, hp, hn, k⟩

def sp_place_by : Sp := fun vs H Q _ => ∃ (p n j : Nat), vs = [.int (p : Int), .int (n : Int), .int (j : Int)] ∧ primeZ (p : Int) = true ∧ n < 2 ^ 1000 ∧ j < cnt p n ∧ RetV (.int (place p n j : Int)) H Q
theorem can_place_by (T : Txt K mg cChooseError cBadPrime cBadMany cBadSome cBadNumber cNotFree cAnswer cFree cBound) : Can P w K mg base 5 "place_by" P_place_by sp_place_by := by
  refine T.d_place_by.can sc_place_by (fun vs H Q E h => ?_) (fun f cdv A outer s H vs Q E hr h => ?_)
  · obtain ⟨p, n, j, rfl, _⟩ := h
    rfl
  · obtain ⟨p, n, j, rfl, hpz, hn, hj, k⟩ := h
    have nd := sc_place_by.nd
    have hp := (pr_of hpz).two
    have hp2 := (pr_of hpz).lt
    refine ⟨_, (pss_cons (ps_expr (pe_callC (can_check_row T) (hr.mono (by decide)) (by rfl) (pa_cons (pv 0) (pa_cons (pv 1) pa_nil))))
    (pss_cons (ps_set (i := 3) nd rfl (Or.inl rfl) (pe_callC (can_row_towers T) (hr.mono (by decide)) (by rfl) (pa_cons (pv 0) (pa_cons (pv 1) pa_nil))))
    (pss_cons (ps_if (pt_not (pt_val (pe_callC (can_is_between T) (hr.mono (by decide)) (by rfl) (pa_cons (pv 2) (pa_cons pe_int (pa_cons (pe_op op_sub (pe_ix (r := rIxL K) ix_list (pe_ix (r := rIxL K) ix_list (pv 3) (pe_un un_neg pe_int) (fun _ _ => rfl)) pe_int (fun _ _ => rfl)) pe_int) pa_nil)))))) (pss_one ps_never) pss_nil)
    (pss_cons (ps_set (i := 4) nd rfl (Or.inl rfl) (pe_callC (can_taken_apart T) (hr.mono (by decide)) (by rfl) (pa_cons (pv 2) (pa_cons (pv 3) pa_nil))))
    (pss_one (ps_ret (pe_callC (can_put_together T) (hr.mono (by decide)) (by rfl) (pa_cons (pv 4) (pa_cons (pe_callC (can_towers T) (hr.mono (by decide)) (by rfl) (pa_cons (pe_op op_rep (pe_lst (pa_cons (pv 0) pa_nil)) (pe_callB (r := rLenS K) call_len_seq (by rfl) T.n_len PySem.boot_len (pa_cons (pv 4) pa_nil))) pa_nil)) pa_nil))))))))), ?_⟩
    refine q_drop (ev_callN (ea_cons (ev_var rfl) (ea_cons (ev_var rfl) ea_nil)) (sv_check_row hpz (by omega))) fun H1 e1 => ?_
    refine q_asgR (er_row_towers (ea_cons (ev_var rfl) (ea_cons (ev_var rfl) ea_nil)) hp (by omega) hn) fun R H2 hR e2 hrows => ?_
    refine q_when (b := false) (et_not (a := true) (et_B (ev_is (ev_callN (ea_cons (ev_var rfl) (ea_cons ev_c (ea_cons (ev_op (ev_cntV (ev_var rfl) hrows (choice_ne p n)) ev_c rv_I0) ea_nil))) (sv_is_between (.int (j : Int)))) ?_))) (fun h => by cases h) fun _ H3 e3 => ?_
    · show V.bl (decide ((0 : Int) ≤ (j : Int)) && decide ((j : Int) ≤ ((prodL (choice p n) : Nat) : Int) - 1)) = V.bl true
      have : j < prodL (choice p n) := hj
      rw [decide_eq_true (by omega), decide_eq_true (by omega)]
      rfl
    have hlen := mix_len' (choice_ne p n) j
    have hcl := choice_len_small hp hn
    have hfp := fit_primes hp (show p < 1024 by omega) hn
    refine q_asgL (el_callN (xs := nl (mix (choice p n) j)) (ea_cons (ev_var rfl) (ea_cons (ev_var rfl) ea_nil)) (sl_of fun H5 e5 Q E k => ⟨j, R, choice p n, rfl, (hrows.mono e3).mono e5, fit_choice hp (by omega) hn, k⟩)) fun q H4 hq e4 h4 => ?_
    have hws : wsum (List.replicate (choice p n).length p) (mix (choice p n) j) = place p n j := by
      rw [← hlen, wsum_rep]
      rfl
    have hpl : place p n j < 2 ^ 4000 := Nat.lt_of_le_of_lt (place_le hp hj) (Nat.lt_of_lt_of_le hn (Nat.pow_le_pow_right (by decide) (by decide)))
    refine s_ret (ev_call2R (Pr := fun R2 H' => RowsAt H' R2 (tow (List.replicate (choice p n).length p))) (z := .int (place p n j : Int)) (ev_var rfl) (er_callL (xs := nl (List.replicate (choice p n).length p)) ?_ fun a H5 e5 h5 Q E q => ⟨a, _, rfl, h5, hfp, q⟩) fun R2 H5 e5 hR2 => ?_) fun H5 e5 => k H5 ((((e1.trans e2).trans e3).trans e4).trans e5)
    · rw [nl_rep, ← flat_one]
      have z := el_rep (σ := [some (.int (p : Int)), some (.int (n : Int)), some (.int (j : Int)), some (.ref R), some (.ref q)]) (H := H4) (xs := [V.int (p : Int)]) (k := ((choice p n).length : Int)) (ta := tLst (tCons (tVar 0) tNil)) (tb := tCB (rLenS K) (tCons (tVar 4) tNil))
        (el_lst (ea_cons (ev_var rfl) ea_nil) (by show 1 ≤ 100000; decide)) (ev_is (ev_len (ev_var rfl) (sq_of h4)) (by rw [nl_len, hlen])) (by omega) (by rw [List.length_singleton]; omega)
      rw [Int.toNat_natCast] at z
      exact z
    · rw [← hws]
      exact sv_put_together (e5 _ _ h4) hR2 hfp (by intro z; have := congrArg List.length z; rw [List.length_replicate] at this; exact choice_ne p n (List.length_eq_zero_iff.mp this)) (by rw [List.length_replicate, hlen]) (by rw [hws]; exact hpl)
theorem sv_place_by {H : Hp} {p n j : Nat} (hp : primeZ (p : Int) = true) (hn : n < 2 ^ 1000) (hj : j < cnt p n) : SpV sp_place_by [.int (p : Int), .int (n : Int), .int (j : Int)] H (.int (place p n j : Int)) := sv_of fun H1 e Q E k => ⟨p, n, j, rfl, hp, hn, hj, k⟩

def sp_number_of : Sp := fun vs H Q _ => ∃ (p n s : Nat), vs = [.int (p : Int), .int (n : Int), .int (s : Int)] ∧ primeZ (p : Int) = true ∧ n < 2 ^ 1000 ∧ s ≤ n ∧ waysO p n s = 0 ∧ RetV (.int (numb p n s : Int)) H Q
theorem can_number_of (T : Txt K mg cChooseError cBadPrime cBadMany cBadSome cBadNumber cNotFree cAnswer cFree cBound) : Can P w K mg base 5 "number_of" P_number_of sp_number_of := by
  refine T.d_number_of.can sc_number_of (fun vs H Q E h => ?_) (fun f cdv A outer s H vs Q E hr h => ?_)
  · obtain ⟨p, n, s, rfl, _⟩ := h
    rfl
  · obtain ⟨p, n, s', rfl, hpz, hn, hs, h0, k⟩ := h
    have nd := sc_number_of.nd
    have hp := (pr_of hpz).two
    have hp2 := (pr_of hpz).lt
    have hcl := choice_len_small hp hn
    have hdl := dig_len_mono hp hs
    have hdc := (choice_len p n).1
    have hs2 : s' < 2 ^ 1000 := Nat.lt_of_le_of_lt hs hn
    refine ⟨_, (pss_cons (ps_expr (pe_callC (can_check_pick T) (hr.mono (by decide)) (by rfl) (pa_cons (pv 0) (pa_cons (pv 1) (pa_cons (pv 2) pa_nil)))))
    (pss_cons (ps_if (pt_truth (pe_callC (can_bound_places T) (hr.mono (by decide)) (by rfl) (pa_cons (pv 0) (pa_cons (pv 1) (pa_cons (pv 2) pa_nil)))) (by intro _; rfl)) (pss_one ps_never) pss_nil)
    (pss_cons (ps_set (i := 3) nd rfl (Or.inl rfl) (pe_callC (can_row_towers T) (hr.mono (by decide)) (by rfl) (pa_cons (pv 0) (pa_cons (pv 1) pa_nil))))
    (pss_cons (ps_set (i := 4) nd rfl (Or.inl rfl) (pe_callC (can_figures_of T) (hr.mono (by decide)) (by rfl) (pa_cons (pv 0) (pa_cons (pv 2) pa_nil))))
    (pss_cons (ps_set (i := 5) nd rfl (Or.inl rfl) (pe_op op_rep (pe_lst (pa_cons pe_int pa_nil)) (pe_op op_sub (pe_callB (r := rLenS K) call_len_seq (by rfl) T.n_len PySem.boot_len (pa_cons (pe_ix (r := rIxL K) ix_list (pv 3) pe_int (fun _ _ => rfl)) pa_nil)) (pe_callB (r := rLenS K) call_len_seq (by rfl) T.n_len PySem.boot_len (pa_cons (pv 4) pa_nil)))))
    (pss_one (ps_ret (pe_callC (can_put_together T) (hr.mono (by decide)) (by rfl) (pa_cons (pe_op op_cat (pv 4) (pv 5)) (pa_cons (pv 3) pa_nil)))))))))), ?_⟩
    refine q_drop (ev_callN (ea_cons (ev_var rfl) (ea_cons (ev_var rfl) (ea_cons (ev_var rfl) ea_nil))) (sv_check_pick hpz (by omega) (by omega))) fun H1 e1 => ?_
    refine q_when (b := false) (et_is (et_truthL (el_callN (ea_cons (ev_var rfl) (ea_cons (ev_var rfl) (ea_cons (ev_var rfl) ea_nil))) (sl_bound_places hp (by omega) hn hs))) (by rw [bpl_none hp hs h0]; rfl)) (fun h => by cases h) fun _ H2 e2 => ?_
    refine q_asgR (er_row_towers (ea_cons (ev_var rfl) (ea_cons (ev_var rfl) ea_nil)) hp (by omega) hn) fun R H3 hR e3 hrows => ?_
    refine q_asgL (el_callN (ea_cons (ev_var rfl) (ea_cons (ev_var rfl) ea_nil)) (sl_figures_of hp (by omega) hs2)) fun q H4 hq e4 h4 => ?_
    obtain ⟨as, a0, g1, g2, g3⟩ := rows_first (hrows.mono e4)
    have hle : (((choice p n).length : Int) - ((dig p s').length : Int)) = (((choice p n).length - (dig p s').length : Nat) : Int) := by omega
    refine q_asgL (xs := nl (List.replicate ((choice p n).length - (dig p s').length) 0)) ?_ fun q2 H5 hq2 e5 h5 => ?_
    · rw [nl_rep, ← flat_one]
      have z := el_rep (σ := [some (.int (p : Int)), some (.int (n : Int)), some (.int (s' : Int)), some (.ref R), some (.ref q), none]) (H := H4) (xs := [V.int ((0 : Nat) : Int)]) (k := (((choice p n).length - (dig p s').length : Nat) : Int)) (ta := tLst (tCons (tC (.int 0)) tNil)) (tb := tOp (rI0 fun i j => .int (i - j)) (tCB (rLenS K) (tCons (tOp (rIxL K) (tVar 3) (tC (.int 0))) tNil)) (tCB (rLenS K) (tCons (tVar 4) tNil)))
        (el_lst (ea_cons (ev_is ev_c rfl) ea_nil) (by show 1 ≤ 100000; decide)) (ev_is (ev_op (ev_len (ev_op (ev_var rfl) ev_c (rv_ixL (sq_of g1) (atI_nat (j := 0) g2))) (sq_of g3)) (ev_len (ev_var rfl) (sq_of h4)) rv_I0) (by rw [nl_len, nl_len, hle])) (by omega) (by rw [List.length_singleton]; omega)
      rw [Int.toNat_natCast] at z
      exact z
    · have epad : nl (pad p n s') = nl (dig p s') ++ nl (List.replicate ((choice p n).length - (dig p s').length) 0) := by
        unfold pad
        rw [nl_app]
      have hwl := numb_lt hp hs h0
      have hwb : numb p n s' < 2 ^ 4000 := Nat.lt_trans hwl (fit_choice hp (by omega) hn).prod
      refine s_ret (ev_callLV (xs := nl (pad p n s')) ?_ (ev_var rfl) fun a H6 e6 h6 => sv_put_together h6 ((hrows.mono e4).mono (e5.trans e6)) (fit_choice hp (by omega) hn) (choice_ne p n) (pad_len hp hs) hwb) fun H6 e6 => k H6 (((((e1.trans e2).trans e3).trans e4).trans e5).trans e6)
      rw [epad]
      exact el_catV (ev_var rfl) (e5 _ _ h4) (ev_var rfl) h5 (by rw [nl_len, nl_len, List.length_replicate]; omega)
theorem sv_number_of {H : Hp} {p n s : Nat} (hp : primeZ (p : Int) = true) (hn : n < 2 ^ 1000) (hs : s ≤ n) (h0 : waysO p n s = 0) : SpV sp_number_of [.int (p : Int), .int (n : Int), .int (s : Int)] H (.int (numb p n s : Int)) := sv_of fun H1 e Q E k => ⟨p, n, s, rfl, hp, hn, hs, h0, k⟩
end

/-! ### refused -/
section
variable {P : Program} {w : World} {K : PySem.W.Frag} {mg : Str → Option Value} {base : Heap} {cChooseError cBadPrime cBadMany cBadSome cBadNumber cNotFree cAnswer cFree cBound : Addr}
/-- which refusal a prime and a many bring about -/
def RowE (K : PySem.W.Frag) (cP cM : Addr) (H : Hp) (x y : V) (C : Addr) : Prop := ∃ o1 o2 : Option Int, Knd K H x o1 ∧ Knd K H y o2 ∧ ((o1.any primeZ = false ∧ C = cP) ∨ (o1.any primeZ = true ∧ (o2.any fun n => decide (0 ≤ n)) = false ∧ C = cM))
def PickE (K : PySem.W.Frag) (cP cM cS : Addr) (H : Hp) (x y z : V) (C : Addr) : Prop := RowE K cP cM H x y C ∨ ∃ (p n : Int) (o3 : Option Int), x = .int p ∧ y = .int n ∧ primeZ p = true ∧ 0 ≤ n ∧ Knd K H z o3 ∧ (o3.any fun s => decide (0 ≤ s) && decide (s ≤ n)) = false ∧ C = cS
theorem RowE.mono {cP cM C : Addr} {H H' : Hp} {x y : V} (h : RowE K cP cM H x y C) (e : Ex H H') : RowE K cP cM H' x y C := by
  obtain ⟨o1, o2, h1, h2, h3⟩ := h
  exact ⟨o1, o2, h1.mono e, h2.mono e, h3⟩
theorem PickE.mono {cP cM cS C : Addr} {H H' : Hp} {x y z : V} (h : PickE K cP cM cS H x y z C) (e : Ex H H') : PickE K cP cM cS H' x y z C := by
  rcases h with h | ⟨p, n, o3, h1, h2, h3, h4, h5, h6⟩
  · exact .inl (h.mono e)
  · exact .inr ⟨p, n, o3, h1, h2, h3, h4, h5.mono e, h6⟩
def sp_rowX (K : PySem.W.Frag) (cP cM : Addr) : Sp := fun vs H _ E => ∃ (x y : V) (C : Addr), vs = [x, y] ∧ RowE K cP cM H x y C ∧ ∀ H2, Ex H H2 → E (.ref C) none H2
def sp_pickX (K : PySem.W.Frag) (cP cM cS : Addr) : Sp := fun vs H _ E => ∃ (x y z : V) (C : Addr), vs = [x, y, z] ∧ PickE K cP cM cS H x y z C ∧ ∀ H2, Ex H H2 → E (.ref C) none H2
theorem canX_check_row (T : Txt K mg cChooseError cBadPrime cBadMany cBadSome cBadNumber cNotFree cAnswer cFree cBound) : CanX P w K mg base 3 "check_row" P_check_row (sp_rowX K cBadPrime cBadMany) := by
  refine T.d_check_row.canX sc_check_row (fun vs H Q E h => ?_) (fun f cdv A outer s H vs Q E hr h => ?_)
  · obtain ⟨x, y, C, rfl, _⟩ := h
    rfl
  · obtain ⟨x, y, C, rfl, ⟨o1, o2, k1, k2, hc⟩, k⟩ := h
    have nd := sc_check_row.nd
    refine ⟨_, (pss_cons (ps_if (pt_not (pt_val (pe_callC (can_is_prime T) (hr.mono (by decide)) (by rfl) (pa_cons (pv 0) pa_nil)))) (pss_one (L2N.ps_raise rfl (L2N.takes_of rfl rfl rfl rfl) (L2N.pmk_own PySem.F.excBase_ValueError T.x_BadPrime T.g_BadPrime T.k_BadPrime (raises_own T.b_BadPrime T.t_BadPrime) rfl))) pss_nil)
      (pss_one (ps_if (pt_not (pt_val (pe_callC (can_is_many T) (hr.mono (by decide)) (by rfl) (pa_cons (pv 1) pa_nil)))) (pss_one (L2N.ps_raise rfl (L2N.takes_of rfl rfl rfl rfl) (L2N.pmk_own PySem.F.excBase_ValueError T.x_BadMany T.g_BadMany T.k_BadMany (raises_own T.b_BadMany T.t_BadMany) rfl))) pss_nil))), ?_⟩
    rcases hc with ⟨h1, rfl⟩ | ⟨h1, h2, rfl⟩
    · exact q_when (b := true) (et_not (a := false) (et_B (ev_is (ev_callN (ea_cons (ev_var rfl) ea_nil) (sv_is_prime k1)) (by rw [h1])))) (fun _ H1 e1 => k H1 e1) fun h => by cases h
    · refine q_when (b := false) (et_not (a := true) (et_B (ev_is (ev_callN (ea_cons (ev_var rfl) ea_nil) (sv_is_prime k1)) (by rw [h1])))) (fun h => by cases h) fun _ H1 e1 => ?_
      exact s_when (b := true) (et_not (a := false) (et_B (ev_is (ev_callN (ea_cons (ev_var rfl) ea_nil) (sv_is_many (k2.mono e1))) (by rw [h2])))) (fun _ H2 e2 => k H2 (e1.trans e2)) fun h => by cases h
theorem canX_check_pick (T : Txt K mg cChooseError cBadPrime cBadMany cBadSome cBadNumber cNotFree cAnswer cFree cBound) : CanX P w K mg base 4 "check_pick" P_check_pick (sp_pickX K cBadPrime cBadMany cBadSome) := by
  refine T.d_check_pick.canX sc_check_pick (fun vs H Q E h => ?_) (fun f cdv A outer s H vs Q E hr h => ?_)
  · obtain ⟨x, y, z, C, rfl, _⟩ := h
    rfl
  · obtain ⟨x, y, z, C, rfl, hc, k⟩ := h
    have nd := sc_check_pick.nd
    rcases hc with hR | ⟨p, n, o3, rfl, rfl, hp, hn, k3, h3, rfl⟩
    · refine ⟨_, (pss_cons (ps_expr (pe_callX (canX_check_row T) (L2N.takes_of rfl rfl rfl rfl) (hr.mono (by decide)) (by rfl) (pa_cons (pv 0) (pa_cons (pv 1) pa_nil)))) pss_never), ?_⟩
      exact ⟨_, rfl, _, rfl, x, y, C, rfl, hR, k⟩
    · refine ⟨_, (pss_cons (ps_expr (pe_callC (can_check_row T) (hr.mono (by decide)) (by rfl) (pa_cons (pv 0) (pa_cons (pv 1) pa_nil))))
        (pss_one (ps_if (pt_not (pt_val (pe_callC (can_is_between T) (hr.mono (by decide)) (by rfl) (pa_cons (pv 2) (pa_cons pe_int (pa_cons (pv 1) pa_nil)))))) (pss_one (L2N.ps_raise rfl (L2N.takes_of rfl rfl rfl rfl) (L2N.pmk_own PySem.F.excBase_ValueError T.x_BadSome T.g_BadSome T.k_BadSome (raises_own T.b_BadSome T.t_BadSome) rfl))) pss_nil))), ?_⟩
      refine q_drop (ev_callN (ea_cons (ev_var rfl) (ea_cons (ev_var rfl) ea_nil)) (sv_check_row hp hn)) fun H1 e1 => ?_
      exact s_when (b := true) (et_not (a := false) (et_B (ev_is (ev_callN (ea_cons (ev_var rfl) (ea_cons ev_c (ea_cons (ev_var rfl) ea_nil))) (sv_is_between (k3.mono e1))) (by rw [h3])))) (fun _ H2 e2 => k H2 (e1.trans e2)) fun h => by cases h
theorem canX_figures (T : Txt K mg cChooseError cBadPrime cBadMany cBadSome cBadNumber cNotFree cAnswer cFree cBound) : CanX P w K mg base 4 "figures" P_figures (sp_rowX K cBadPrime cBadMany) := by
  refine T.d_figures.canX sc_figures (fun vs H Q E h => ?_) (fun f cdv A outer s H vs Q E hr h => ?_)
  · obtain ⟨x, y, C, rfl, _⟩ := h
    rfl
  · obtain ⟨x, y, C, rfl, hR, k⟩ := h
    have nd := sc_figures.nd
    refine ⟨_, (pss_cons (ps_expr (pe_callX (canX_check_row T) (L2N.takes_of rfl rfl rfl rfl) (hr.mono (by decide)) (by rfl) (pa_cons (pv 0) (pa_cons (pv 1) pa_nil)))) pss_never), ?_⟩
    exact ⟨_, rfl, _, rfl, x, y, C, rfl, hR, k⟩
theorem canX_product (T : Txt K mg cChooseError cBadPrime cBadMany cBadSome cBadNumber cNotFree cAnswer cFree cBound) : CanX P w K mg base 5 "product" P_product (sp_rowX K cBadPrime cBadMany) := by
  refine T.d_product.canX sc_product (fun vs H Q E h => ?_) (fun f cdv A outer s H vs Q E hr h => ?_)
  · obtain ⟨x, y, C, rfl, _⟩ := h
    rfl
  · obtain ⟨x, y, C, rfl, hR, k⟩ := h
    have nd := sc_product.nd
    refine ⟨_, (pss_cons (ps_expr (pe_callX (canX_check_row T) (L2N.takes_of rfl rfl rfl rfl) (hr.mono (by decide)) (by rfl) (pa_cons (pv 0) (pa_cons (pv 1) pa_nil)))) pss_never), ?_⟩
    exact ⟨_, rfl, _, rfl, x, y, C, rfl, hR, k⟩
theorem canX_free (T : Txt K mg cChooseError cBadPrime cBadMany cBadSome cBadNumber cNotFree cAnswer cFree cBound) : CanX P w K mg base 5 "free" P_free (sp_rowX K cBadPrime cBadMany) := by
  refine T.d_free.canX sc_free (fun vs H Q E h => ?_) (fun f cdv A outer s H vs Q E hr h => ?_)
  · obtain ⟨x, y, C, rfl, _⟩ := h
    rfl
  · obtain ⟨x, y, C, rfl, hR, k⟩ := h
    have nd := sc_free.nd
    refine ⟨_, (pss_cons (ps_expr (pe_callX (canX_check_row T) (L2N.takes_of rfl rfl rfl rfl) (hr.mono (by decide)) (by rfl) (pa_cons (pv 0) (pa_cons (pv 1) pa_nil)))) pss_never), ?_⟩
    exact ⟨_, rfl, _, rfl, x, y, C, rfl, hR, k⟩
theorem canX_most (T : Txt K mg cChooseError cBadPrime cBadMany cBadSome cBadNumber cNotFree cAnswer cFree cBound) : CanX P w K mg base 4 "most" P_most (sp_rowX K cBadPrime cBadMany) := by
  refine T.d_most.canX sc_most (fun vs H Q E h => ?_) (fun f cdv A outer s H vs Q E hr h => ?_)
  · obtain ⟨x, y, C, rfl, _⟩ := h
    rfl
  · obtain ⟨x, y, C, rfl, hR, k⟩ := h
    have nd := sc_most.nd
    refine ⟨_, (pss_cons (ps_expr (pe_callX (canX_check_row T) (L2N.takes_of rfl rfl rfl rfl) (hr.mono (by decide)) (by rfl) (pa_cons (pv 0) (pa_cons (pv 1) pa_nil)))) pss_never), ?_⟩
    exact ⟨_, rfl, _, rfl, x, y, C, rfl, hR, k⟩
theorem canX_ways (T : Txt K mg cChooseError cBadPrime cBadMany cBadSome cBadNumber cNotFree cAnswer cFree cBound) : CanX P w K mg base 6 "ways" P_ways (sp_pickX K cBadPrime cBadMany cBadSome) := by
  refine T.d_ways.canX sc_ways (fun vs H Q E h => ?_) (fun f cdv A outer s H vs Q E hr h => ?_)
  · obtain ⟨x, y, z, C, rfl, _⟩ := h
    rfl
  · obtain ⟨x, y, z, C, rfl, hR, k⟩ := h
    have nd := sc_ways.nd
    refine ⟨_, (pss_cons (ps_expr (pe_callX (canX_check_pick T) (L2N.takes_of rfl rfl rfl rfl) (hr.mono (by decide)) (by rfl) (pa_cons (pv 0) (pa_cons (pv 1) (pa_cons (pv 2) pa_nil))))) pss_never), ?_⟩
    exact ⟨_, rfl, _, rfl, _, rfl, x, y, z, C, rfl, hR, k⟩
theorem canX_told (T : Txt K mg cChooseError cBadPrime cBadMany cBadSome cBadNumber cNotFree cAnswer cFree cBound) : CanX P w K mg base 6 "told" P_told (sp_pickX K cBadPrime cBadMany cBadSome) := by
  refine T.d_told.canX sc_told (fun vs H Q E h => ?_) (fun f cdv A outer s H vs Q E hr h => ?_)
  · obtain ⟨x, y, z, C, rfl, _⟩ := h
    rfl
  · obtain ⟨x, y, z, C, rfl, hR, k⟩ := h
    have nd := sc_told.nd
    refine ⟨_, (pss_cons (ps_expr (pe_callX (canX_check_pick T) (L2N.takes_of rfl rfl rfl rfl) (hr.mono (by decide)) (by rfl) (pa_cons (pv 0) (pa_cons (pv 1) (pa_cons (pv 2) pa_nil))))) pss_never), ?_⟩
    exact ⟨_, rfl, _, rfl, _, rfl, x, y, z, C, rfl, hR, k⟩
/-- number_of: as the others, and where the place is not free -/
def sp_number_ofX (K : PySem.W.Frag) (cP cM cS cN : Addr) : Sp := fun vs H _ E => ∃ (x y z : V) (C : Addr), vs = [x, y, z] ∧ (PickE K cP cM cS H x y z C ∨ ∃ p n s : Nat, x = .int (p : Int) ∧ y = .int (n : Int) ∧ z = .int (s : Int) ∧ primeZ (p : Int) = true ∧ n < 2 ^ 1000 ∧ s ≤ n ∧ ¬ waysO p n s = 0 ∧ C = cN) ∧ ∀ H2, Ex H H2 → E (.ref C) none H2
theorem canX_number_of (T : Txt K mg cChooseError cBadPrime cBadMany cBadSome cBadNumber cNotFree cAnswer cFree cBound) : CanX P w K mg base 5 "number_of" P_number_of (sp_number_ofX K cBadPrime cBadMany cBadSome cNotFree) := by
  refine T.d_number_of.canX sc_number_of (fun vs H Q E h => ?_) (fun f cdv A outer s H vs Q E hr h => ?_)
  · obtain ⟨x, y, z, C, rfl, _⟩ := h
    rfl
  · obtain ⟨x, y, z, C, rfl, hc, k⟩ := h
    have nd := sc_number_of.nd
    rcases hc with hR | ⟨p, n, s', rfl, rfl, rfl, hpz, hn, hs, h0, rfl⟩
    · refine ⟨_, (pss_cons (ps_expr (pe_callX (canX_check_pick T) (L2N.takes_of rfl rfl rfl rfl) (hr.mono (by decide)) (by rfl) (pa_cons (pv 0) (pa_cons (pv 1) (pa_cons (pv 2) pa_nil))))) pss_never), ?_⟩
      exact ⟨_, rfl, _, rfl, _, rfl, x, y, z, C, rfl, hR, k⟩
    · have hp := (pr_of hpz).two
      have hp2 := (pr_of hpz).lt
      refine ⟨_, (pss_cons (ps_expr (pe_callC (can_check_pick T) (hr.mono (by decide)) (by rfl) (pa_cons (pv 0) (pa_cons (pv 1) (pa_cons (pv 2) pa_nil)))))
        (pss_cons (ps_if (pt_truth (pe_callC (can_bound_places T) (hr.mono (by decide)) (by rfl) (pa_cons (pv 0) (pa_cons (pv 1) (pa_cons (pv 2) pa_nil)))) (by intro _; rfl)) (pss_one (L2N.ps_raise rfl (L2N.takes_of rfl rfl rfl rfl) (L2N.pmk_own PySem.F.excBase_ValueError T.x_NotFree T.g_NotFree T.k_NotFree (raises_own T.b_NotFree T.t_NotFree) rfl))) pss_nil) pss_never)), ?_⟩
      refine q_drop (ev_callN (ea_cons (ev_var rfl) (ea_cons (ev_var rfl) (ea_cons (ev_var rfl) ea_nil))) (sv_check_pick hpz (by omega) (by omega))) fun H1 e1 => ?_
      refine q_when (b := true) (et_is (et_truthL (el_callN (ea_cons (ev_var rfl) (ea_cons (ev_var rfl) (ea_cons (ev_var rfl) ea_nil))) (sl_bound_places hp (by omega) hn hs))) ?_) (fun _ H2 e2 => k H2 (e1.trans e2)) fun h => by cases h
      have z := (bpl_some hp hs h0).1
      cases hb : bpl p n s' with
      | nil =>
        rw [hb] at z
        cases z
      | cons a l => rfl
/-- place_by: as the others, and where the number is none -/
def sp_place_byX (K : PySem.W.Frag) (cP cM cB : Addr) : Sp := fun vs H _ E => ∃ (x y z : V) (C : Addr), vs = [x, y, z] ∧ (RowE K cP cM H x y C ∨ ∃ (p n : Nat) (o3 : Option Int), x = .int (p : Int) ∧ y = .int (n : Int) ∧ primeZ (p : Int) = true ∧ n < 2 ^ 1000 ∧ Knd K H z o3 ∧ (o3.any fun j => decide (0 ≤ j) && decide (j ≤ (cnt p n : Int) - 1)) = false ∧ C = cB) ∧ ∀ H2, Ex H H2 → E (.ref C) none H2
theorem canX_place_by (T : Txt K mg cChooseError cBadPrime cBadMany cBadSome cBadNumber cNotFree cAnswer cFree cBound) : CanX P w K mg base 5 "place_by" P_place_by (sp_place_byX K cBadPrime cBadMany cBadNumber) := by
  refine T.d_place_by.canX sc_place_by (fun vs H Q E h => ?_) (fun f cdv A outer s H vs Q E hr h => ?_)
  · obtain ⟨x, y, z, C, rfl, _⟩ := h
    rfl
  · obtain ⟨x, y, z, C, rfl, hc, k⟩ := h
    have nd := sc_place_by.nd
    rcases hc with hR | ⟨p, n, o3, rfl, rfl, hpz, hn, k3, h3, rfl⟩
    · refine ⟨_, (pss_cons (ps_expr (pe_callX (canX_check_row T) (L2N.takes_of rfl rfl rfl rfl) (hr.mono (by decide)) (by rfl) (pa_cons (pv 0) (pa_cons (pv 1) pa_nil)))) pss_never), ?_⟩
      exact ⟨_, rfl, _, rfl, x, y, C, rfl, hR, k⟩
    · have hp := (pr_of hpz).two
      have hp2 := (pr_of hpz).lt
      refine ⟨_, (pss_cons (ps_expr (pe_callC (can_check_row T) (hr.mono (by decide)) (by rfl) (pa_cons (pv 0) (pa_cons (pv 1) pa_nil))))
        (pss_cons (ps_set (i := 3) nd rfl (Or.inl rfl) (pe_callC (can_row_towers T) (hr.mono (by decide)) (by rfl) (pa_cons (pv 0) (pa_cons (pv 1) pa_nil))))
        (pss_cons (ps_if (pt_not (pt_val (pe_callC (can_is_between T) (hr.mono (by decide)) (by rfl) (pa_cons (pv 2) (pa_cons pe_int (pa_cons (pe_op op_sub (pe_ix (r := rIxL K) ix_list (pe_ix (r := rIxL K) ix_list (pv 3) (pe_un un_neg pe_int) (fun _ _ => rfl)) pe_int (fun _ _ => rfl)) pe_int) pa_nil)))))) (pss_one (L2N.ps_raise rfl (L2N.takes_of rfl rfl rfl rfl) (L2N.pmk_own PySem.F.excBase_ValueError T.x_BadNumber T.g_BadNumber T.k_BadNumber (raises_own T.b_BadNumber T.t_BadNumber) rfl))) pss_nil) pss_never))), ?_⟩
      refine q_drop (ev_callN (ea_cons (ev_var rfl) (ea_cons (ev_var rfl) ea_nil)) (sv_check_row hpz (by omega))) fun H1 e1 => ?_
      refine q_asgR (er_row_towers (ea_cons (ev_var rfl) (ea_cons (ev_var rfl) ea_nil)) hp (by omega) hn) fun R H2 hR e2 hrows => ?_
      exact q_when (b := true) (et_not (a := false) (et_B (ev_is (ev_callN (ea_cons (ev_var rfl) (ea_cons ev_c (ea_cons (ev_op (ev_cntV (ev_var rfl) hrows (choice_ne p n)) ev_c rv_I0) ea_nil))) (sv_is_between (k3.mono (e1.trans e2)))) (congrArg V.bl h3)))) (fun _ H3 e3 => k H3 ((e1.trans e2).trans e3)) fun h => by cases h
end

/-! ### asking, and what is told then -/
section
variable {P : Program} {w : World} {K : PySem.W.Frag} {mg : Str → Option Value} {base : Heap} {cChooseError cBadPrime cBadMany cBadSome cBadNumber cNotFree cAnswer cFree cBound : Addr}
/-- what a class of refusals is -/
structure Kd (K : PySem.W.Frag) (cE cP cM cS cB cN D : Addr) (b1 b2 b3 b4 b5 : Bool) : Prop where
  ec : ExcC K D
  e : PySem.W.exmOne K (.ref D) (.ref cE) = some true
  k1 : PySem.W.kitOne K (.ref D) (.ref cP) = some b1
  k2 : PySem.W.kitOne K (.ref D) (.ref cM) = some b2
  k3 : PySem.W.kitOne K (.ref D) (.ref cS) = some b3
  k4 : PySem.W.kitOne K (.ref D) (.ref cB) = some b4
  k5 : PySem.W.kitOne K (.ref D) (.ref cN) = some b5
  k6 : PySem.W.kitOne K (.ref D) (.type "ValueError") = some true
theorem kdP (T : Txt K mg cChooseError cBadPrime cBadMany cBadSome cBadNumber cNotFree cAnswer cFree cBound) : Kd K cChooseError cBadPrime cBadMany cBadSome cBadNumber cNotFree cBadPrime true false false false false := ⟨T.ec_BadPrime, T.e_BadPrime, T.kt_BadPrime_BadPrime, T.kt_BadPrime_BadMany, T.kt_BadPrime_BadSome, T.kt_BadPrime_BadNumber, T.kt_BadPrime_NotFree, T.kv_BadPrime⟩
theorem kdM (T : Txt K mg cChooseError cBadPrime cBadMany cBadSome cBadNumber cNotFree cAnswer cFree cBound) : Kd K cChooseError cBadPrime cBadMany cBadSome cBadNumber cNotFree cBadMany false true false false false := ⟨T.ec_BadMany, T.e_BadMany, T.kt_BadMany_BadPrime, T.kt_BadMany_BadMany, T.kt_BadMany_BadSome, T.kt_BadMany_BadNumber, T.kt_BadMany_NotFree, T.kv_BadMany⟩
theorem kdS (T : Txt K mg cChooseError cBadPrime cBadMany cBadSome cBadNumber cNotFree cAnswer cFree cBound) : Kd K cChooseError cBadPrime cBadMany cBadSome cBadNumber cNotFree cBadSome false false true false false := ⟨T.ec_BadSome, T.e_BadSome, T.kt_BadSome_BadPrime, T.kt_BadSome_BadMany, T.kt_BadSome_BadSome, T.kt_BadSome_BadNumber, T.kt_BadSome_NotFree, T.kv_BadSome⟩
theorem kdB (T : Txt K mg cChooseError cBadPrime cBadMany cBadSome cBadNumber cNotFree cAnswer cFree cBound) : Kd K cChooseError cBadPrime cBadMany cBadSome cBadNumber cNotFree cBadNumber false false false true false := ⟨T.ec_BadNumber, T.e_BadNumber, T.kt_BadNumber_BadPrime, T.kt_BadNumber_BadMany, T.kt_BadNumber_BadSome, T.kt_BadNumber_BadNumber, T.kt_BadNumber_NotFree, T.kv_BadNumber⟩
theorem kdN (T : Txt K mg cChooseError cBadPrime cBadMany cBadSome cBadNumber cNotFree cAnswer cFree cBound) : Kd K cChooseError cBadPrime cBadMany cBadSome cBadNumber cNotFree cNotFree false false false false true := ⟨T.ec_NotFree, T.e_NotFree, T.kt_NotFree_BadPrime, T.kt_NotFree_BadMany, T.kt_NotFree_BadSome, T.kt_NotFree_BadNumber, T.kt_NotFree_NotFree, T.kv_NotFree⟩
def sp_law_kinds (b1 b2 b3 b4 b5 : Bool) (a : Addr) : Sp := fun vs H Q _ => vs = [.ref a] ∧ RetL [.bl b1, .bl b2, .bl b3, .bl b4, .bl b5, .bl true] H Q
theorem fnE_kinds (T : Txt K mg cChooseError cBadPrime cBadMany cBadSome cBadNumber cNotFree cAnswer cFree cBound) {D : Addr} {b1 b2 b3 b4 b5 : Bool} (hk : Kd K cChooseError cBadPrime cBadMany cBadSome cBadNumber cNotFree D b1 b2 b3 b4 b5) :
    ∃ (f : Addr) (fd : FuncData), FnE P w K mg base 1 f fd P_law_kinds D (sp_law_kinds b1 b2 b3 b4 b5) ∧ mg "_law_kinds" = some (.ref f) ∧ PySem.W.keepIn K (.ref f) = true ∧ Binds K fd P_law_kinds [] := by
  obtain ⟨f, fd, F, hm, b⟩ := T.d_law_kinds.ex
  obtain ⟨oc, od, kV, doc, pm, an, cdv, ct, osl, rfl, lk, hcd⟩ := F.ex
  refine ⟨f, _, fn_ofE lk hcd sc_law_kinds (fun a vs H Q E h => ?_) (fun A outer s H vs Q E p hot hz hr h => ?_), hm, F.kp, b⟩
  · obtain ⟨rfl, _⟩ := h
    rfl
  · obtain ⟨rfl, k⟩ := h
    obtain ⟨hh, v1, hv, hctx⟩ := hot
    have hf : ∃ vs, p.2.data = .fields vs := ⟨v1, hv⟩
    have nd := sc_law_kinds.nd
    refine ⟨_, (pss_cons (ps_set (i := 1) nd rfl (Or.inl rfl) (pe_lst (pa_cons (pe_callB (call_isP hk.ec (List.mem_cons_self ..) hz hf) (by rfl) T.n_isinstance (by decide +kernel) (pa_cons (pv 0) (pa_cons (pe_glob (v := .ref _) (by rfl) T.g_BadPrime rfl) pa_nil))) (pa_cons (pe_callB (call_isP hk.ec (List.mem_cons_self ..) hz hf) (by rfl) T.n_isinstance (by decide +kernel) (pa_cons (pv 0) (pa_cons (pe_glob (v := .ref _) (by rfl) T.g_BadMany rfl) pa_nil))) (pa_cons (pe_callB (call_isP hk.ec (List.mem_cons_self ..) hz hf) (by rfl) T.n_isinstance (by decide +kernel) (pa_cons (pv 0) (pa_cons (pe_glob (v := .ref _) (by rfl) T.g_BadSome rfl) pa_nil))) pa_nil)))))
      (pss_one (ps_ret (pe_op op_cat (pv 1) (pe_lst (pa_cons (pe_callB (call_isP hk.ec (List.mem_cons_self ..) hz hf) (by rfl) T.n_isinstance (by decide +kernel) (pa_cons (pv 0) (pa_cons (pe_glob (v := .ref _) (by rfl) T.g_BadNumber rfl) pa_nil))) (pa_cons (pe_callB (call_isP hk.ec (List.mem_cons_self ..) hz hf) (by rfl) T.n_isinstance (by decide +kernel) (pa_cons (pv 0) (pa_cons (pe_glob (v := .ref _) (by rfl) T.g_NotFree rfl) pa_nil))) (pa_cons (pe_callB (call_isP hk.ec (List.mem_cons_self ..) hz hf) (by rfl) T.n_isinstance (by decide +kernel) (pa_cons (pv 0) (pa_cons (pe_bltn (v := .ty "ValueError") (by rfl) T.n_ValueError (by decide +kernel) rfl) pa_nil))) pa_nil)))))))), ?_⟩
    refine q_asgL (xs := [.bl b1, .bl b2, .bl b3]) (el_lst (ea_cons (ev_cb (ea_cons (ev_var rfl) (ea_cons ev_c ea_nil)) (rc_isE hk.k1)) (ea_cons (ev_cb (ea_cons (ev_var rfl) (ea_cons ev_c ea_nil)) (rc_isE hk.k2)) (ea_cons (ev_cb (ea_cons (ev_var rfl) (ea_cons ev_c ea_nil)) (rc_isE hk.k3)) ea_nil))) (by show 3 ≤ 100000; decide)) fun q H1 hq e1 h1 => ?_
    exact s_retL (xs := [V.bl b1, V.bl b2, V.bl b3] ++ [V.bl b4, V.bl b5, V.bl true]) (el_cat (xs := [V.bl b1, V.bl b2, V.bl b3]) (ys := [V.bl b4, V.bl b5, V.bl true]) (ev_var rfl) h1 (el_lst (vs := [V.bl b4, V.bl b5, V.bl true]) (ea_cons (ev_cb (vs := [.ref p.1, .ref cBadNumber]) (ea_cons (ev_var rfl) (ea_cons ev_c ea_nil)) (rc_isE hk.k4)) (ea_cons (ev_cb (vs := [.ref p.1, .ref cNotFree]) (ea_cons (ev_var rfl) (ea_cons ev_c ea_nil)) (rc_isE hk.k5)) (ea_cons (ev_cb (vs := [.ref p.1, .ty "ValueError"]) (ea_cons (ev_var rfl) (ea_cons ev_c ea_nil)) (rc_isEV hk.k6)) ea_nil))) (by show 3 ≤ 100000; decide)) (by show 3 + 3 ≤ 100000; decide)) fun r H2 hr2 e2 h2 => k r H2 (fresh_back e1 hr2) (e1.trans e2) h2
theorem hot1_suite {X : Cx} {a : Addr} {oe : Obj} {pn : List (Addr × Obj)} {cls : Value} {d : Option Addr} (hz : L2N.Zn cls d oe) (hf : ∃ vs, oe.data = .fields vs) : L2H.Hot1 (X.suite a ((a, oe) :: pn)).A (a, oe) := by
  obtain ⟨vs, hv⟩ := hf
  exact ⟨rfl, vs, hv, hz.2.2 vs hv⟩
theorem roomH_suite {X : Cx} {k : Nat} {a : Addr} {pn : List (Addr × Obj)} (h : Room k X.A) : L2H.RoomH k (X.suite a pn).A := ⟨(L2H.roomH_of h).dp, (L2H.roomH_of h).un⟩
theorem pe_callES {X : Cx} {k : Nat} {f D a : Addr} {oe : Obj} {pn : List (Addr × Obj)} {cls : Value} {d : Option Addr} {fd : FuncData} {ps : List Str} {sp : Addr → Sp} {x : Str} {q pos : Pos} {e : Expr} {es : List Expr} {t : TA} (F : FnE X.prog X.w X.K X.mg X.base k f fd ps D sp) (hr : Room k X.A) (hz : L2N.Zn cls d oe) (hh : cls = .ref D ∧ d = none) (hf : ∃ vs, oe.data = .fields vs)
    (hm : X.mg x = some (.ref f)) (hk : PySem.W.keepIn X.K (.ref f) = true) (hb : Binds X.K fd ps []) (hg : Gl (X.suite a ((a, oe) :: pn)) x) (ha : PA (X.suite a ((a, oe) :: pn)) (e :: es) t) (hdb : (x == ("__debug__" : Str)) = false := by decide) (he : starEach (e :: es) (X.suite a ((a, oe) :: pn)).env = (false, eval e (X.suite a ((a, oe) :: pn)).env) :: starEach es (X.suite a ((a, oe) :: pn)).env := by rfl) (hpl : (backTo pos (starEach es (X.suite a ((a, oe) :: pn)).env)).any (·.1) = false := by rfl) :
    PE (X.suite a ((a, oe) :: pn)) (.Call (.Name x q) (e :: es) [] pos) (tCallS (sp a) (fun _ => E0) t) :=
  pe_callE (X := X.suite a ((a, oe) :: pn)) (p := (a, oe)) F (roomH_suite hr) (hot1_suite hz hf) (List.mem_cons_self ..) (zc_of hh hz) hg hm hk hb ha hdb he hpl
/-- a def that, asked for x and y, refuses by D -/
def Asks (P : Program) (w : World) (K : PySem.W.Frag) (mg : Str → Option Value) (base : Heap) (k : Nat) (f : Addr) (x y : V) (H : Hp) (D : Addr) : Prop :=
  ∃ (kk : Nat) (fd : FuncData) (ps : List Str) (sp : Sp), kk ≤ k ∧ FnOk P w K mg base (L2N.CX P w) kk f fd ps sp ∧ PySem.W.keepIn K (.ref f) = true ∧ Binds K fd ps [] ∧ ∀ H2, Ex H H2 → ∀ (Q : VK) (E : XK), (∀ H3, Ex H2 H3 → E (.ref D) none H3) → sp [x, y] H2 Q E
theorem asks_of {k kk : Nat} {f D : Addr} {x y : V} {H : Hp} {n : Str} {ps : List Str} {sp : Sp} (c : CanX P w K mg base kk n ps sp) (hk : kk ≤ k) (hf : mg n = some (.ref f)) (hs : ∀ H2, Ex H H2 → ∀ (Q : VK) (E : XK), (∀ H3, Ex H2 H3 → E (.ref D) none H3) → sp [x, y] H2 Q E) : Asks P w K mg base k f x y H D := by
  obtain ⟨f', fd, F, hm, kp, b⟩ := c.ex
  have e := hf.symm.trans hm
  cases e
  exact ⟨kk, fd, ps, sp, hk, F, kp, b, hs⟩
theorem Asks.mono {k : Nat} {f D : Addr} {x y : V} {H H' : Hp} (h : Asks P w K mg base k f x y H D) (e : Ex H H') : Asks P w K mg base k f x y H' D := by
  obtain ⟨kk, fd, ps, sp, hkk, F, kp, b, hs⟩ := h
  exact ⟨kk, fd, ps, sp, hkk, F, kp, b, fun H2 e2 => hs H2 (e.trans e2)⟩
def sp_law_told (P : Program) (w : World) (K : PySem.W.Frag) (mg : Str → Option Value) (base : Heap) (k : Nat) (cE cP cM cS cB cN : Addr) : Sp := fun vs H Q _ => ∃ (f D : Addr) (x y : V) (b1 b2 b3 b4 b5 : Bool), vs = [.ref f, x, y] ∧ Kd K cE cP cM cS cB cN D b1 b2 b3 b4 b5 ∧ Asks P w K mg base k f x y H D ∧ RetL [.bl b1, .bl b2, .bl b3, .bl b4, .bl b5, .bl true] H Q
theorem can_law_told (T : Txt K mg cChooseError cBadPrime cBadMany cBadSome cBadNumber cNotFree cAnswer cFree cBound) : Can P w K mg base 9 "_law_told" P_law_told (sp_law_told P w K mg base 7 cChooseError cBadPrime cBadMany cBadSome cBadNumber cNotFree) := by
  refine T.d_law_told.can sc_law_told (fun vs H Q E h => ?_) (fun f cdv A outer s H vs Q E hr h => ?_)
  · obtain ⟨f, D, x, y, b1, b2, b3, b4, b5, rfl, _⟩ := h
    rfl
  · obtain ⟨g, D, x, y, b1, b2, b3, b4, b5, rfl, hk, ⟨kn, fd, ps, sp, hkn, F, kp, b, hs⟩, k⟩ := h
    have nd := sc_law_told.nd
    obtain ⟨fk, fdk, FE, hmk, hkk, bk⟩ := fnE_kinds (P := P) (w := w) (base := base) T hk
    refine ⟨_, (pss_cons (L2N.ps_try_as (i := 3) rfl rfl nd rfl rfl ⟨rfl, by decide, .inl T.g_ChooseError⟩ takesN
      (fun W pn xe tk _ => pss_one (ps_expr (pe_callVX (i := 0) F kp b tk (hr.mono (Nat.le_trans hkn (by decide))) rfl (Or.inl rfl) (pa_cons (pv 1) (pa_cons (pv 2) pa_nil)))))
      (fun a oe cls d pn hz hf => pss_hyp (h := cls = .ref D ∧ d = none) fun hh => (pss_one (ps_ret (pe_callES FE (hr.mono (by decide)) hz hh hf hmk hkk bk (by rfl) (pa_cons (pv 3) pa_nil))))))
      (pss_one (ps_ret (pe_lst pa_nil)))), ?_⟩
    refine ⟨rfl, _, rfl, _, rfl, hs H (Ex.refl H) _ _ fun H1 e1 => ?_⟩
    refine ⟨true, hk.e, fun _ a ha => ⟨⟨rfl, rfl⟩, ?_⟩, fun q => nomatch q⟩
    exact ⟨_, rfl, rfl, fun p H2 hp e2 h2 => k p H2 (fresh_back e1 hp) (e1.trans e2) h2⟩
theorem sl_law_told {H : Hp} {k : Nat} {f D cE cP cM cS cB cN : Addr} {x y : V} {b1 b2 b3 b4 b5 : Bool} (hk : Kd K cE cP cM cS cB cN D b1 b2 b3 b4 b5) (h : Asks P w K mg base k f x y H D) : SpL (sp_law_told P w K mg base k cE cP cM cS cB cN) [.ref f, x, y] H [.bl b1, .bl b2, .bl b3, .bl b4, .bl b5, .bl true] := sl_of fun H1 e Q E kk => ⟨f, D, x, y, b1, b2, b3, b4, b5, rfl, hk, h.mono e, kk⟩
end

/-! ### the law's own doors -/
section
variable {P : Program} {w : World} {K : PySem.W.Frag} {mg : Str → Option Value} {base : Heap} {cChooseError cBadPrime cBadMany cBadSome cBadNumber cNotFree cAnswer cFree cBound : Addr}
theorem knd_non {H : Hp} : Knd K H .non none := .inr ⟨"NoneType", by decide, .non, rfl⟩
def sp_withP (K : PySem.W.Frag) (C : Addr) : Sp := fun vs H _ E => ∃ (j : Nat) (x : V) (o : Option Int), vs = [.int (j : Int), x] ∧ Knd K H x o ∧ o.any primeZ = false ∧ ∀ H2, Ex H H2 → E (.ref C) none H2
theorem canX_law_with_prime (T : Txt K mg cChooseError cBadPrime cBadMany cBadSome cBadNumber cNotFree cAnswer cFree cBound) : CanX P w K mg base 7 "_law_with_prime" P_law_with_prime (sp_withP K cBadPrime) := by
  refine T.d_law_with_prime.canX sc_law_with_prime (fun vs H Q E h => ?_) (fun f cdv A outer s H vs Q E hr h => ?_)
  · obtain ⟨j, x, o, rfl, _⟩ := h
    rfl
  · obtain ⟨j, x, o, rfl, hk, ho, k⟩ := h
    have nd := sc_law_with_prime.nd
    refine ⟨_, (pss_cons (ps_if (pt_cmpR op_lt (pv 0) pe_int (nomark _)) (pss_cons (ps_if (pt_cmpR op_lt (pv 0) pe_int (nomark _)) (pss_one (ps_ret (pe_ifExp (pt_cmpR op_eq (pv 0) pe_int (nomark _)) (pe_callX (canX_figures T) (L2N.takes_of rfl rfl rfl rfl) (hr.mono (by decide)) (by rfl) (pa_cons (pv 1) (pa_cons pe_non pa_nil))) (pe_callX (canX_product T) (L2N.takes_of rfl rfl rfl rfl) (hr.mono (by decide)) (by rfl) (pa_cons (pv 1) (pa_cons (pe_un un_neg pe_int) pa_nil)))))) pss_nil)
    (pss_one (ps_ret (pe_ifExp (pt_cmpR op_eq (pv 0) pe_int (nomark _)) (pe_callX (canX_ways T) (L2N.takes_of rfl rfl rfl rfl) (hr.mono (by decide)) (by rfl) (pa_cons (pv 1) (pa_cons pe_non (pa_cons (pe_un un_neg pe_int) pa_nil)))) (pe_callX (canX_told T) (L2N.takes_of rfl rfl rfl rfl) (hr.mono (by decide)) (by rfl) (pa_cons (pv 1) (pa_cons (pe_un un_neg pe_int) (pa_cons pe_non pa_nil)))))))) pss_nil)
    (pss_cons (ps_if (pt_cmpR op_lt (pv 0) pe_int (nomark _)) (pss_one (ps_ret (pe_ifExp (pt_cmpR op_eq (pv 0) pe_int (nomark _)) (pe_callX (canX_free T) (L2N.takes_of rfl rfl rfl rfl) (hr.mono (by decide)) (by rfl) (pa_cons (pv 1) (pa_cons (pe_un un_neg pe_int) pa_nil))) (pe_callX (canX_most T) (L2N.takes_of rfl rfl rfl rfl) (hr.mono (by decide)) (by rfl) (pa_cons (pv 1) (pa_cons pe_non pa_nil)))))) pss_nil)
    (pss_one (ps_ret (pe_ifExp (pt_cmpR op_eq (pv 0) pe_int (nomark _)) (pe_callX (canX_place_by T) (L2N.takes_of rfl rfl rfl rfl) (hr.mono (by decide)) (by rfl) (pa_cons (pv 1) (pa_cons (pe_un un_neg pe_int) (pa_cons (pe_un un_neg pe_int) pa_nil)))) (pe_callX (canX_number_of T) (L2N.takes_of rfl rfl rfl rfl) (hr.mono (by decide)) (by rfl) (pa_cons (pv 1) (pa_cons pe_non (pa_cons pe_non pa_nil))))))))), ?_⟩
    have kn : ∀ {H' : Hp}, Knd K H' .non none := knd_non
    have rowE : ∀ {y : V} {o2 : Option Int} {H' : Hp}, Ex H H' → Knd K H' y o2 → RowE K cBadPrime cBadMany H' x y cBadPrime := fun {y o2 H'} e hy => ⟨o, o2, hk.mono e, hy, .inl ⟨ho, rfl⟩⟩
    refine q_when (b := decide (j < 4)) (et_test (ev_is (ev_op (ev_var rfl) ev_c rv_I0) (bl_of (by omega)))) (fun _ H1 e1 => ?_) fun _ H1 e1 => ?_
    · refine q_when (b := decide (j < 2)) (et_test (ev_is (ev_op (ev_var rfl) ev_c rv_I0) (bl_of (by omega)))) (fun _ H2 e2 => ?_) fun _ H2 e2 => ?_
      · skip
        refine s_retIf (b := decide (j = 0)) (et_test (ev_is (ev_op (ev_var rfl) ev_c (rv_eq rfl)) (by rw [Rl.dec_int]; exact bl_of (by omega)))) (fun _ H4 e4 => ?_) fun _ H4 e4 => ?_
        · exact callS_A (ea_cons (ev_var rfl) (ea_cons ev_c ea_nil)) fun H5 e5 => ⟨_, _, _, rfl, (rowE (((e1.trans e2).trans e4).trans e5) kn), fun H6 e6 => k H6 ((((e1.trans e2).trans e4).trans e5).trans e6)⟩
        · exact callS_A (ea_cons (ev_var rfl) (ea_cons (ev_un ev_c ru_neg) ea_nil)) fun H5 e5 => ⟨_, _, _, rfl, (rowE (((e1.trans e2).trans e4).trans e5) (.int _)), fun H6 e6 => k H6 ((((e1.trans e2).trans e4).trans e5).trans e6)⟩
      · skip
        refine s_retIf (b := decide (j = 2)) (et_test (ev_is (ev_op (ev_var rfl) ev_c (rv_eq rfl)) (by rw [Rl.dec_int]; exact bl_of (by omega)))) (fun _ H4 e4 => ?_) fun _ H4 e4 => ?_
        · exact callS_A (ea_cons (ev_var rfl) (ea_cons ev_c (ea_cons (ev_un ev_c ru_neg) ea_nil))) fun H5 e5 => ⟨_, _, _, _, rfl, .inl (rowE (((e1.trans e2).trans e4).trans e5) kn), fun H6 e6 => k H6 ((((e1.trans e2).trans e4).trans e5).trans e6)⟩
        · exact callS_A (ea_cons (ev_var rfl) (ea_cons (ev_un ev_c ru_neg) (ea_cons ev_c ea_nil))) fun H5 e5 => ⟨_, _, _, _, rfl, .inl (rowE (((e1.trans e2).trans e4).trans e5) (.int _)), fun H6 e6 => k H6 ((((e1.trans e2).trans e4).trans e5).trans e6)⟩
    · refine q_when (b := decide (j < 6)) (et_test (ev_is (ev_op (ev_var rfl) ev_c rv_I0) (bl_of (by omega)))) (fun _ H2 e2 => ?_) fun _ H2 e2 => ?_
      · skip
        refine s_retIf (b := decide (j = 4)) (et_test (ev_is (ev_op (ev_var rfl) ev_c (rv_eq rfl)) (by rw [Rl.dec_int]; exact bl_of (by omega)))) (fun _ H4 e4 => ?_) fun _ H4 e4 => ?_
        · exact callS_A (ea_cons (ev_var rfl) (ea_cons (ev_un ev_c ru_neg) ea_nil)) fun H5 e5 => ⟨_, _, _, rfl, (rowE (((e1.trans e2).trans e4).trans e5) (.int _)), fun H6 e6 => k H6 ((((e1.trans e2).trans e4).trans e5).trans e6)⟩
        · exact callS_A (ea_cons (ev_var rfl) (ea_cons ev_c ea_nil)) fun H5 e5 => ⟨_, _, _, rfl, (rowE (((e1.trans e2).trans e4).trans e5) kn), fun H6 e6 => k H6 ((((e1.trans e2).trans e4).trans e5).trans e6)⟩
      · skip
        refine s_retIf (b := decide (j = 6)) (et_test (ev_is (ev_op (ev_var rfl) ev_c (rv_eq rfl)) (by rw [Rl.dec_int]; exact bl_of (by omega)))) (fun _ H4 e4 => ?_) fun _ H4 e4 => ?_
        · exact callS_A (ea_cons (ev_var rfl) (ea_cons (ev_un ev_c ru_neg) (ea_cons (ev_un ev_c ru_neg) ea_nil))) fun H5 e5 => ⟨_, _, _, _, rfl, .inl (rowE (((e1.trans e2).trans e4).trans e5) (.int _)), fun H6 e6 => k H6 ((((e1.trans e2).trans e4).trans e5).trans e6)⟩
        · exact callS_A (ea_cons (ev_var rfl) (ea_cons ev_c (ea_cons ev_c ea_nil))) fun H5 e5 => ⟨_, _, _, _, rfl, .inl (.inl (rowE (((e1.trans e2).trans e4).trans e5) kn)), fun H6 e6 => k H6 ((((e1.trans e2).trans e4).trans e5).trans e6)⟩
def sp_withM (K : PySem.W.Frag) (C : Addr) : Sp := fun vs H _ E => ∃ (j : Nat) (x : V) (o : Option Int), vs = [.int (j : Int), x] ∧ Knd K H x o ∧ (o.any fun n => decide (0 ≤ n)) = false ∧ ∀ H2, Ex H H2 → E (.ref C) none H2
theorem canX_law_with_many (T : Txt K mg cChooseError cBadPrime cBadMany cBadSome cBadNumber cNotFree cAnswer cFree cBound) : CanX P w K mg base 7 "_law_with_many" P_law_with_many (sp_withM K cBadMany) := by
  refine T.d_law_with_many.canX sc_law_with_many (fun vs H Q E h => ?_) (fun f cdv A outer s H vs Q E hr h => ?_)
  · obtain ⟨j, x, o, rfl, _⟩ := h
    rfl
  · obtain ⟨j, x, o, rfl, hk, ho, k⟩ := h
    have nd := sc_law_with_many.nd
    refine ⟨_, (pss_cons (ps_if (pt_cmpR op_lt (pv 0) pe_int (nomark _)) (pss_cons (ps_if (pt_cmpR op_lt (pv 0) pe_int (nomark _)) (pss_one (ps_ret (pe_ifExp (pt_cmpR op_eq (pv 0) pe_int (nomark _)) (pe_callX (canX_figures T) (L2N.takes_of rfl rfl rfl rfl) (hr.mono (by decide)) (by rfl) (pa_cons pe_int (pa_cons (pv 1) pa_nil))) (pe_callX (canX_product T) (L2N.takes_of rfl rfl rfl rfl) (hr.mono (by decide)) (by rfl) (pa_cons pe_int (pa_cons (pv 1) pa_nil)))))) pss_nil)
    (pss_one (ps_ret (pe_ifExp (pt_cmpR op_eq (pv 0) pe_int (nomark _)) (pe_callX (canX_ways T) (L2N.takes_of rfl rfl rfl rfl) (hr.mono (by decide)) (by rfl) (pa_cons pe_int (pa_cons (pv 1) (pa_cons (pe_un un_neg pe_int) pa_nil)))) (pe_callX (canX_told T) (L2N.takes_of rfl rfl rfl rfl) (hr.mono (by decide)) (by rfl) (pa_cons pe_int (pa_cons (pv 1) (pa_cons pe_non pa_nil)))))))) pss_nil)
    (pss_cons (ps_if (pt_cmpR op_lt (pv 0) pe_int (nomark _)) (pss_one (ps_ret (pe_ifExp (pt_cmpR op_eq (pv 0) pe_int (nomark _)) (pe_callX (canX_free T) (L2N.takes_of rfl rfl rfl rfl) (hr.mono (by decide)) (by rfl) (pa_cons pe_int (pa_cons (pv 1) pa_nil))) (pe_callX (canX_most T) (L2N.takes_of rfl rfl rfl rfl) (hr.mono (by decide)) (by rfl) (pa_cons pe_int (pa_cons (pv 1) pa_nil)))))) pss_nil)
    (pss_one (ps_ret (pe_ifExp (pt_cmpR op_eq (pv 0) pe_int (nomark _)) (pe_callX (canX_place_by T) (L2N.takes_of rfl rfl rfl rfl) (hr.mono (by decide)) (by rfl) (pa_cons pe_int (pa_cons (pv 1) (pa_cons (pe_un un_neg pe_int) pa_nil)))) (pe_callX (canX_number_of T) (L2N.takes_of rfl rfl rfl rfl) (hr.mono (by decide)) (by rfl) (pa_cons pe_int (pa_cons (pv 1) (pa_cons (pe_un un_neg pe_int) pa_nil))))))))), ?_⟩
    have rowE : ∀ {H' : Hp}, Ex H H' → ∀ p : Int, primeZ p = true → RowE K cBadPrime cBadMany H' (.int p) x cBadMany := fun {H'} e p hp => ⟨some p, o, .int p, hk.mono e, .inr ⟨hp, ho, rfl⟩⟩
    refine q_when (b := decide (j < 4)) (et_test (ev_is (ev_op (ev_var rfl) ev_c rv_I0) (bl_of (by omega)))) (fun _ H1 e1 => ?_) fun _ H1 e1 => ?_
    · refine q_when (b := decide (j < 2)) (et_test (ev_is (ev_op (ev_var rfl) ev_c rv_I0) (bl_of (by omega)))) (fun _ H2 e2 => ?_) fun _ H2 e2 => ?_
      · skip
        refine s_retIf (b := decide (j = 0)) (et_test (ev_is (ev_op (ev_var rfl) ev_c (rv_eq rfl)) (by rw [Rl.dec_int]; exact bl_of (by omega)))) (fun _ H4 e4 => ?_) fun _ H4 e4 => ?_
        · exact callS_A (ea_cons ev_c (ea_cons (ev_var rfl) ea_nil)) fun H5 e5 => ⟨_, _, _, rfl, (rowE (((e1.trans e2).trans e4).trans e5) 7 (by decide +kernel)), fun H6 e6 => k H6 ((((e1.trans e2).trans e4).trans e5).trans e6)⟩
        · exact callS_A (ea_cons ev_c (ea_cons (ev_var rfl) ea_nil)) fun H5 e5 => ⟨_, _, _, rfl, (rowE (((e1.trans e2).trans e4).trans e5) 2 (by decide +kernel)), fun H6 e6 => k H6 ((((e1.trans e2).trans e4).trans e5).trans e6)⟩
      · skip
        refine s_retIf (b := decide (j = 2)) (et_test (ev_is (ev_op (ev_var rfl) ev_c (rv_eq rfl)) (by rw [Rl.dec_int]; exact bl_of (by omega)))) (fun _ H4 e4 => ?_) fun _ H4 e4 => ?_
        · exact callS_A (ea_cons ev_c (ea_cons (ev_var rfl) (ea_cons (ev_un ev_c ru_neg) ea_nil))) fun H5 e5 => ⟨_, _, _, _, rfl, .inl (rowE (((e1.trans e2).trans e4).trans e5) 3 (by decide +kernel)), fun H6 e6 => k H6 ((((e1.trans e2).trans e4).trans e5).trans e6)⟩
        · exact callS_A (ea_cons ev_c (ea_cons (ev_var rfl) (ea_cons ev_c ea_nil))) fun H5 e5 => ⟨_, _, _, _, rfl, .inl (rowE (((e1.trans e2).trans e4).trans e5) 997 (by decide +kernel)), fun H6 e6 => k H6 ((((e1.trans e2).trans e4).trans e5).trans e6)⟩
    · refine q_when (b := decide (j < 6)) (et_test (ev_is (ev_op (ev_var rfl) ev_c rv_I0) (bl_of (by omega)))) (fun _ H2 e2 => ?_) fun _ H2 e2 => ?_
      · skip
        refine s_retIf (b := decide (j = 4)) (et_test (ev_is (ev_op (ev_var rfl) ev_c (rv_eq rfl)) (by rw [Rl.dec_int]; exact bl_of (by omega)))) (fun _ H4 e4 => ?_) fun _ H4 e4 => ?_
        · exact callS_A (ea_cons ev_c (ea_cons (ev_var rfl) ea_nil)) fun H5 e5 => ⟨_, _, _, rfl, (rowE (((e1.trans e2).trans e4).trans e5) 2 (by decide +kernel)), fun H6 e6 => k H6 ((((e1.trans e2).trans e4).trans e5).trans e6)⟩
        · exact callS_A (ea_cons ev_c (ea_cons (ev_var rfl) ea_nil)) fun H5 e5 => ⟨_, _, _, rfl, (rowE (((e1.trans e2).trans e4).trans e5) 5 (by decide +kernel)), fun H6 e6 => k H6 ((((e1.trans e2).trans e4).trans e5).trans e6)⟩
      · skip
        refine s_retIf (b := decide (j = 6)) (et_test (ev_is (ev_op (ev_var rfl) ev_c (rv_eq rfl)) (by rw [Rl.dec_int]; exact bl_of (by omega)))) (fun _ H4 e4 => ?_) fun _ H4 e4 => ?_
        · exact callS_A (ea_cons ev_c (ea_cons (ev_var rfl) (ea_cons (ev_un ev_c ru_neg) ea_nil))) fun H5 e5 => ⟨_, _, _, _, rfl, .inl (rowE (((e1.trans e2).trans e4).trans e5) 11 (by decide +kernel)), fun H6 e6 => k H6 ((((e1.trans e2).trans e4).trans e5).trans e6)⟩
        · exact callS_A (ea_cons ev_c (ea_cons (ev_var rfl) (ea_cons (ev_un ev_c ru_neg) ea_nil))) fun H5 e5 => ⟨_, _, _, _, rfl, .inl (.inl (rowE (((e1.trans e2).trans e4).trans e5) 2 (by decide +kernel))), fun H6 e6 => k H6 ((((e1.trans e2).trans e4).trans e5).trans e6)⟩
end

section
variable {P : Program} {w : World} {K : PySem.W.Frag} {mg : Str → Option Value} {base : Heap} {cChooseError cBadPrime cBadMany cBadSome cBadNumber cNotFree cAnswer cFree cBound : Addr}
def sp_withS (K : PySem.W.Frag) (cS cN : Addr) : Sp := fun vs H _ E => ∃ (q : Addr) (j m : Nat) (x : V) (C : Addr), vs = [.ref q, x] ∧ H q = some (.tup [.int (j : Int), .int (m : Int)]) ∧ ((∃ o : Option Int, Knd K H x o ∧ (o.any fun s => decide (0 ≤ s) && decide (s ≤ (m : Int))) = false ∧ C = cS) ∨ ∃ s : Nat, 2 ≤ j ∧ x = .int (s : Int) ∧ m < 2 ^ 1000 ∧ s ≤ m ∧ ¬ waysO 2 m s = 0 ∧ C = cN) ∧ ∀ H2, Ex H H2 → E (.ref C) none H2
theorem canX_law_with_some (T : Txt K mg cChooseError cBadPrime cBadMany cBadSome cBadNumber cNotFree cAnswer cFree cBound) : CanX P w K mg base 7 "_law_with_some" P_law_with_some (sp_withS K cBadSome cNotFree) := by
  refine T.d_law_with_some.canX sc_law_with_some (fun vs H Q E h => ?_) (fun f cdv A outer s H vs Q E hr h => ?_)
  · obtain ⟨q, j, m, x, C, rfl, _⟩ := h
    rfl
  · obtain ⟨q, j, m, x, C, rfl, hq, hc, k⟩ := h
    have nd := sc_law_with_some.nd
    refine ⟨_, (pss_cons (ps_asg (pv 0) (pg_tup rfl (pgs_cons (pg_name (i := 2) nd rfl (Or.inl rfl)) (pgs_cons (pg_name (i := 3) nd rfl (Or.inl rfl)) pgs_nil))))
    (pss_one (ps_ret (pe_ifExp (pt_cmpR op_eq (pv 2) pe_int (nomark _)) (pe_callX (canX_ways T) (L2N.takes_of rfl rfl rfl rfl) (hr.mono (by decide)) (by rfl) (pa_cons pe_int (pa_cons (pv 3) (pa_cons (pv 1) pa_nil)))) (pe_ifExp (pt_cmpR op_eq (pv 2) pe_int (nomark _)) (pe_callX (canX_told T) (L2N.takes_of rfl rfl rfl rfl) (hr.mono (by decide)) (by rfl) (pa_cons pe_int (pa_cons (pv 3) (pa_cons (pv 1) pa_nil)))) (pe_callX (canX_number_of T) (L2N.takes_of rfl rfl rfl rfl) (hr.mono (by decide)) (by rfl) (pa_cons pe_int (pa_cons (pv 3) (pa_cons (pv 1) pa_nil))))))))), ?_⟩
    refine ⟨.ref q, rfl, g_pair hq ?_⟩
    rcases hc with ⟨o, hk, ho, rfl⟩ | ⟨s', hj, rfl, hm, hs, h0, rfl⟩
    · have pick : ∀ {H' : Hp}, Ex H H' → ∀ p : Int, primeZ p = true → PickE K cBadPrime cBadMany C H' (.int p) (.int (m : Int)) x C := fun {H'} e p hp => .inr ⟨p, m, o, rfl, rfl, hp, by omega, hk.mono e, ho, rfl⟩
      refine s_retIf (b := decide (j = 0)) (et_test (ev_is (ev_op (ev_var rfl) ev_c (rv_eq rfl)) (by rw [Rl.dec_int]; exact bl_of (by omega)))) (fun _ H1 e1 => ?_) fun _ H1 e1 => t_ifs (b := decide (j = 1)) (et_test (ev_is (ev_op (ev_var rfl) ev_c (rv_eq rfl)) (by rw [Rl.dec_int]; exact bl_of (by omega)))) (fun _ H2 e2 => ?_) fun _ H2 e2 => ?_
      · exact callS_A (ea_cons ev_c (ea_cons (ev_var rfl) (ea_cons (ev_var rfl) ea_nil))) fun H3 e3 => ⟨_, _, _, _, rfl, pick (e1.trans e3) 3 (by decide +kernel), fun H4 e4 => k H4 ((e1.trans e3).trans e4)⟩
      · exact callS_A (ea_cons ev_c (ea_cons (ev_var rfl) (ea_cons (ev_var rfl) ea_nil))) fun H3 e3 => ⟨_, _, _, _, rfl, pick ((e1.trans e2).trans e3) 5 (by decide +kernel), fun H4 e4 => k H4 (((e1.trans e2).trans e3).trans e4)⟩
      · exact callS_A (ea_cons ev_c (ea_cons (ev_var rfl) (ea_cons (ev_var rfl) ea_nil))) fun H3 e3 => ⟨_, _, _, _, rfl, .inl (pick ((e1.trans e2).trans e3) 2 (by decide +kernel)), fun H4 e4 => k H4 (((e1.trans e2).trans e3).trans e4)⟩
    · refine s_retIf (b := false) (et_test (ev_is (ev_op (ev_var rfl) ev_c (rv_eq rfl)) (by rw [Rl.dec_int, decide_eq_false (by omega)]))) (fun h => by cases h) fun _ H1 e1 => t_ifs (b := false) (et_test (ev_is (ev_op (ev_var rfl) ev_c (rv_eq rfl)) (by rw [Rl.dec_int, decide_eq_false (by omega)]))) (fun h => by cases h) fun _ H2 e2 => ?_
      exact callS_A (ea_cons ev_c (ea_cons (ev_var rfl) (ea_cons (ev_var rfl) ea_nil))) fun H3 e3 => ⟨_, _, _, _, rfl, .inr ⟨2, m, s', rfl, rfl, rfl, by decide +kernel, hm, hs, h0, rfl⟩, fun H4 e4 => k H4 (((e1.trans e2).trans e3).trans e4)⟩
def sp_withN (K : PySem.W.Frag) (cB : Addr) : Sp := fun vs H _ E => ∃ (q : Addr) (p m : Nat) (x : V) (o : Option Int), vs = [.ref q, x] ∧ H q = some (.tup [.int (p : Int), .int (m : Int)]) ∧ primeZ (p : Int) = true ∧ m < 2 ^ 1000 ∧ Knd K H x o ∧ (o.any fun j => decide (0 ≤ j) && decide (j ≤ (cnt p m : Int) - 1)) = false ∧ ∀ H2, Ex H H2 → E (.ref cB) none H2
theorem canX_law_with_number (T : Txt K mg cChooseError cBadPrime cBadMany cBadSome cBadNumber cNotFree cAnswer cFree cBound) : CanX P w K mg base 6 "_law_with_number" P_law_with_number (sp_withN K cBadNumber) := by
  refine T.d_law_with_number.canX sc_law_with_number (fun vs H Q E h => ?_) (fun f cdv A outer s H vs Q E hr h => ?_)
  · obtain ⟨q, p, m, x, o, rfl, _⟩ := h
    rfl
  · obtain ⟨q, p, m, x, o, rfl, hq, hp, hm, hk, ho, k⟩ := h
    have nd := sc_law_with_number.nd
    refine ⟨_, (pss_cons (ps_asg (pv 0) (pg_tup rfl (pgs_cons (pg_name (i := 2) nd rfl (Or.inl rfl)) (pgs_cons (pg_name (i := 3) nd rfl (Or.inl rfl)) pgs_nil))))
    (pss_one (ps_ret (pe_callX (canX_place_by T) (L2N.takes_of rfl rfl rfl rfl) (hr.mono (by decide)) (by rfl) (pa_cons (pv 2) (pa_cons (pv 3) (pa_cons (pv 1) pa_nil))))))), ?_⟩
    refine ⟨.ref q, rfl, g_pair hq ?_⟩
    exact callS_A (ea_cons (ev_var rfl) (ea_cons (ev_var rfl) (ea_cons (ev_var rfl) ea_nil))) fun H3 e3 => ⟨_, _, _, _, rfl, .inr ⟨p, m, o, rfl, rfl, hp, hm, hk.mono e3, ho, rfl⟩, fun H4 e4 => k H4 (e3.trans e4)⟩
end

/-! ### what is told, held against what is due -/
section
variable {P : Program} {w : World} {K : PySem.W.Frag} {mg : Str → Option Value} {base : Heap} {cChooseError cBadPrime cBadMany cBadSome cBadNumber cNotFree cAnswer cFree cBound : Addr}
def bdat (bs : List Bool) : PyData := .list (bs.map PyData.bool)
def dueL (j : Nat) : List Bool := [decide (j = 0), decide (j = 1), decide (j = 2), decide (j = 3), decide (j = 4), true]
theorem due_ok : ∀ j, j < 5 → PyData.eqv (bdat (dueL j)) (bdat (dueL j)) = true ∧ SeqAt.shaped (bdat (dueL j)) = true := by decide +kernel
theorem dpa_bools {H : Hp} : ∀ l : List Bool, DpAll K H (l.map V.bl) (l.map PyData.bool)
  | [] => .nil
  | a :: l => .cons (.bl a) (dpa_bools l)
theorem dp_bl {H : Hp} {q : Addr} {l : List Bool} (h : H q = some (.lst (l.map V.bl))) : ∀ H1, Ex H H1 → Dp K H1 (.ref q) (bdat l) := fun H1 e => .lst (sq_of (e _ _ h)) (dpa_bools l)
def DueAt (H : Hp) (q : Addr) : Prop := ∃ as : List Addr, H q = some (.lst (as.map V.ref)) ∧ as.length = 5 ∧ ∀ (j : Nat) (a : Addr), as[j]? = some a → H a = some (.lst ((dueL j).map V.bl))
theorem DueAt.mono {H H' : Hp} {q : Addr} (h : DueAt H q) (e : Ex H H') : DueAt H' q := by
  obtain ⟨as, h1, h2, h3⟩ := h
  exact ⟨as, e _ _ h1, h2, fun j a hj => e _ _ (h3 j a hj)⟩
theorem ev_due {σ : L2.St} {H : Hp} {t : TE} {q : Addr} (h : Ev t σ H (.ref q)) (hd : DueAt H q) (j : Nat) (hj : j < 5) : ∃ a, Ev (tOp (rIxL K) t (tC (.int (j : Int)))) σ H (.ref a) ∧ H a = some (.lst ((dueL j).map V.bl)) := by
  obtain ⟨as, h1, h2, h3⟩ := hd
  obtain ⟨a, ha⟩ : ∃ a, as[j]? = some a := ⟨as[j]'(by omega), List.getElem?_eq_getElem (by omega)⟩
  exact ⟨a, ev_op h ev_c (rv_ixL (sq_of h1) (atI_nat (by rw [List.getElem?_map, ha]; rfl))), h3 j a ha⟩
theorem ev_eqDue {σ : L2.St} {H : Hp} {te t : TE} {q : Addr} {j : Nat} (h : EvL te σ H ((dueL j).map V.bl)) (hq : Ev t σ H (.ref q)) (hd : DueAt H q) (hj : j < 5) : Ev (tOp (rEqD K) te (tOp (rIxL K) t (tC (.int (j : Int))))) σ H (.bl true) := by
  obtain ⟨a, h1, h2⟩ := ev_due (K := K) hq hd j hj
  exact ev_is (Evl.ev_opL1 h (fun H1 e => h1.mono e) fun p H1 hp e => rv_eqD (dp_bl hp) (dp_bl (e _ _ h2)) (due_ok j hj).2 (due_ok j hj).2) (by rw [(due_ok j hj).1])
theorem ev_neDue {σ : L2.St} {H : Hp} {te t : TE} {q : Addr} {j : Nat} (h : EvL te σ H ((dueL j).map V.bl)) (hq : Ev t σ H (.ref q)) (hd : DueAt H q) (hj : j < 5) : Ev (tOp (rNeD K) te (tOp (rIxL K) t (tC (.int (j : Int))))) σ H (.bl false) := by
  obtain ⟨a, h1, h2⟩ := ev_due (K := K) hq hd j hj
  exact ev_is (Evl.ev_opL1 h (fun H1 e => h1.mono e) fun p H1 hp e => rv_neD (dp_bl hp) (dp_bl (e _ _ h2)) (due_ok j hj).2 (due_ok j hj).2) (by rw [(due_ok j hj).1]; rfl)
theorem el_told {σ : L2.St} {H : Hp} {tA : TA} {k : Nat} {f D cE cP cM cS cB cN : Addr} {x y : V} {b1 b2 b3 b4 b5 : Bool} (hA : EvA tA σ H [.ref f, x, y]) (hk : Kd K cE cP cM cS cB cN D b1 b2 b3 b4 b5) (h : Asks P w K mg base k f x y H D) : EvL (tCall (sp_law_told P w K mg base k cE cP cM cS cB cN) [] E0 tA) σ H (([b1, b2, b3, b4, b5, true] : List Bool).map V.bl) := el_callN hA (sl_law_told hk h)
theorem el_toldU {σ : L2.St} {H : Hp} {tF tU tY : TE} {k : Nat} {f D cE cP cM cS cB cN : Addr} {xs : List V} {y : V} {b1 b2 b3 b4 b5 : Bool} (hF : Ev tF σ H (.ref f)) (hU : EvU tU σ H xs) (hY : Ev tY σ H y) (hk : Kd K cE cP cM cS cB cN D b1 b2 b3 b4 b5) (h : ∀ q H1, Ex H H1 → H1 q = some (.tup xs) → Asks P w K mg base k f (.ref q) y H1 D) :
    EvL (tCall (sp_law_told P w K mg base k cE cP cM cS cB cN) [] E0 (tCons tF (tCons tU (tCons tY tNil)))) σ H (([b1, b2, b3, b4, b5, true] : List Bool).map V.bl) := fun H1 e Q q =>
  hF H1 e _ fun H2 e2 => hU H2 (e.trans e2) _ fun p H3 hp e3 h3 => hY H3 ((e.trans e2).trans e3) _ fun H4 e4 => by
    show sp_law_told P w K mg base k cE cP cM cS cB cN ([.ref f, .ref p, y] ++ []) H4 Q E0
    rw [List.append_nil]
    exact ⟨f, D, .ref p, y, b1, b2, b3, b4, b5, rfl, hk, h p H4 (((e.trans e2).trans e3).trans e4) (e4 _ _ h3), fun r H5 hr e5 h5 => q r H5 (fresh_back ((e2.trans e3).trans e4) hr) (((e2.trans e3).trans e4).trans e5) h5⟩
/-- things that are no number from 0 on -/
def Odd (K : PySem.W.Frag) (H : Hp) (x : V) : Prop := ∃ o : Option Int, Knd K H x o ∧ ∀ n, o = some n → n < 0
def OddL (K : PySem.W.Frag) (H : Hp) (q : Addr) (xs : List V) : Prop := H q = some (.lst xs) ∧ xs.length = 9 ∧ ∀ x ∈ xs, Odd K H x
theorem Odd.mono {H H' : Hp} {x : V} (h : Odd K H x) (e : Ex H H') : Odd K H' x := by
  obtain ⟨o, h1, h2⟩ := h
  exact ⟨o, h1.mono e, h2⟩
theorem Odd.any {H : Hp} {x : V} (h : Odd K H x) (g : Int → Bool) (hg : ∀ n, n < 0 → g n = false) : ∃ o : Option Int, Knd K H x o ∧ o.any g = false := by
  obtain ⟨o, h1, h2⟩ := h
  refine ⟨o, h1, ?_⟩
  cases o with
  | none => rfl
  | some n => exact hg n (h2 n rfl)
theorem primeZ_neg {n : Int} (h : n < 2 ∨ 997 < n) : primeZ n = false := by
  unfold primeZ
  rcases h with h | h
  · rw [decide_eq_false (by omega)]
    rfl
  · rw [decide_eq_false (show ¬ n ≤ 997 by omega), Bool.and_false]
    rfl
theorem numb_last {p n : Nat} (hp : 2 ≤ p) : cnt p n - 1 < cnt p n ∧ place p n (cnt p n - 1) = n := by
  have hc := cnt_pos p n
  have h0 : waysO p n n = 0 := by
    unfold waysO
    rw [Nat.sub_self, lg_zero]
    omega
  have h1 := numb_lt hp (Nat.le_refl n) h0
  have h2 := place_numb hp (Nat.le_refl n) h0
  have h3 := place_le (n := n) hp (show cnt p n - 1 < cnt p n by omega)
  refine ⟨by omega, ?_⟩
  by_cases e : numb p n n = cnt p n - 1
  · rw [← e]
    exact h2
  · have := place_mono (n := n) hp (show numb p n n < cnt p n - 1 by omega)
    omega
end

/-! ### the law's own draws -/
section
variable {P : Program} {w : World} {K : PySem.W.Frag} {mg : Str → Option Value} {base : Heap} {cChooseError cBadPrime cBadMany cBadSome cBadNumber cNotFree cAnswer cFree cBound : Addr}
def sp_law_cell_at (K : PySem.W.Frag) : Sp := fun vs H Q _ => ∃ (a : Addr) (ns : List Int) (k : Nat), vs = [.ref a, .int (k : Int)] ∧ SqL K H a (ns.map V.int) ∧ RetV (.int (ns.getD k 0)) H Q
theorem can_law_cell_at (T : Txt K mg cChooseError cBadPrime cBadMany cBadSome cBadNumber cNotFree cAnswer cFree cBound) : Can P w K mg base 1 "_law_cell_at" P_law_cell_at (sp_law_cell_at K) := by
  refine T.d_law_cell_at.can sc_law_cell_at (fun vs H Q E h => ?_) (fun f cdv A outer s H vs Q E hr h => ?_)
  · obtain ⟨a, ns, k, rfl, _⟩ := h
    rfl
  · obtain ⟨a, ns, k, rfl, hS, kk⟩ := h
    have nd := sc_law_cell_at.nd
    refine ⟨_, (pss_cons (ps_if (pt_cmpR op_lt (pv 1) (pe_callB (r := rLenS K) call_len_seq (by rfl) T.n_len PySem.boot_len (pa_cons (pv 0) pa_nil)) (nomark _)) (pss_one (ps_ret (pe_ix (r := rIxL K) ix_list (pv 0) (pv 1) (fun _ _ => rfl)))) pss_nil)
    (pss_one (ps_ret pe_int))), ?_⟩
    refine q_when (b := decide (k < ns.length)) (et_test (ev_is (ev_op (ev_var rfl) (ev_len (ev_var rfl) hS) rv_I0) ?_)) (fun hb H1 e1 => ?_) fun hb H1 e1 => ?_
    · rw [List.length_map]
      congr 1
      exact decide_eq_decide.mpr (by omega)
    · have hk : k < ns.length := of_decide_eq_true hb
      refine s_ret (ev_op (ev_var rfl) (ev_var rfl) (rv_ixL (ex_l e1 hS) (atI_nat (v := .int (ns.getD k 0)) ?_))) fun H2 e2 => kk H2 (e1.trans e2)
      rw [List.getElem?_map, List.getElem?_eq_getElem hk, List.getD_eq_getElem?_getD, List.getElem?_eq_getElem hk]
      rfl
    · have hk : ¬ k < ns.length := of_decide_eq_false hb
      have e0 : ns.getD k 0 = 0 := by
        rw [List.getD_eq_getElem?_getD, List.getElem?_eq_none (by omega)]
        rfl
      rw [e0] at kk
      exact s_ret ev_c fun H2 e2 => kk H2 (e1.trans e2)
theorem sv_law_cell_at {H : Hp} {a : Addr} {ns : List Int} {k : Nat} (h : SqL K H a (ns.map V.int)) : SpV (sp_law_cell_at K) [.ref a, .int (k : Int)] H (.int (ns.getD k 0)) := sv_of fun H1 e Q E kk => ⟨a, ns, k, rfl, ex_l e h, kk⟩

def sp_law_draw : Sp := fun vs H Q _ => ∃ (c : Int) (k m : Nat), vs = [.int c, .int (k : Int), .int (m : Int)] ∧ Builtin.Int.intBits c ≤ 4000000 ∧ k ≤ 100000 ∧ 0 < m ∧ RetV (.int (drawV c k m : Int)) H Q
theorem can_law_draw (T : Txt K mg cChooseError cBadPrime cBadMany cBadSome cBadNumber cNotFree cAnswer cFree cBound) : Can P w K mg base 1 "_law_draw" P_law_draw sp_law_draw := by
  refine T.d_law_draw.can sc_law_draw (fun vs H Q E h => ?_) (fun f cdv A outer s H vs Q E hr h => ?_)
  · obtain ⟨c, k, m, rfl, _⟩ := h
    rfl
  · obtain ⟨c, k, m, rfl, hc, hk, hm, kk⟩ := h
    have nd := sc_law_draw.nd
    refine ⟨_, (pss_cons (ps_set (i := 3) nd rfl (Or.inl rfl) (pe_tup (pa_cons pe_int (pa_cons pe_int (pa_cons pe_int (pa_cons pe_int (pa_cons pe_int (pa_cons pe_int (pa_cons pe_int (pa_cons pe_int (pa_cons pe_int (pa_cons pe_int (pa_cons pe_int (pa_cons pe_int (pa_cons pe_int (pa_cons pe_int (pa_cons pe_int (pa_cons pe_int pa_nil))))))))))))))))))
    (pss_one (ps_ret (pe_op op_mod (pe_op op_mod (pe_op op_add (pe_op op_mulX (pv 0) pe_int) (pe_op op_mulX (pv 1) pe_int)) (pe_ix (r := rIxT K) ix_tup (pv 3) (pe_op op_mod (pv 1) pe_int) (fun _ _ => rfl))) (pv 2))))), ?_⟩
    refine q_asgU (xs := nl drP) ?_ fun t H1 ht e1 h1 => ?_
    · refine eu_tup (vs := nl drP) ?_ (by rw [nl_len, drP_len]; decide)
      exact ea_cons ev_c (ea_cons ev_c (ea_cons ev_c (ea_cons ev_c (ea_cons ev_c (ea_cons ev_c (ea_cons ev_c (ea_cons ev_c (ea_cons ev_c (ea_cons ev_c (ea_cons ev_c (ea_cons ev_c (ea_cons ev_c (ea_cons ev_c (ea_cons ev_c (ea_cons ev_c ea_nil)))))))))))))))
    · have j16 : k % 16 < 16 := Nat.mod_lt _ (by decide)
      have b1 : CMulX c 48271 := by
        show (Builtin.Int.intBits c : Int) + (Builtin.Int.intBits (48271 : Int) : Int) ≤ 134217728
        have : Builtin.Int.intBits (48271 : Int) ≤ 16 := by decide +kernel
        omega
      have b2 : CMulX (k : Int) 69621 := cmul_small (n := k) (m := 69621) (lt_big (by omega)) (lt_big (by decide))
      have d0 := drP_pos (k % 16) j16
      have e0 : (V.int ((c * 48271 + (k : Int) * 69621) % ((drP.getD (k % 16) 1 : Nat) : Int) % (m : Int))) = V.int (drawV c k m : Int) := by
        unfold drawV
        congr 1
        have h1 := Int.emod_nonneg ((c * 48271 + (k : Int) * 69621) % ((drP.getD (k % 16) 1 : Nat) : Int)) (show (m : Int) ≠ 0 by omega)
        omega
      refine s_ret (ev_is (ev_op (ev_op (ev_op (ev_op (ev_var rfl) ev_c (rv_I b1)) (ev_op (ev_var rfl) ev_c (rv_I b2)) rv_I0) (ev_op (ev_var rfl) (ev_op (ev_var rfl) ev_c (rv_modN (n := k) (p := 16) (by decide))) (rv_ixT (st_of h1) (v := .int ((drP.getD (k % 16) 1 : Nat) : Int)) ?_)) (rv_mod (by omega))) (ev_var rfl) (rv_mod (by omega))) e0) fun H2 e2 => kk H2 (e1.trans e2)
      refine atI_nat (nl_get ?_)
      rw [List.getD_eq_getElem?_getD, List.getElem?_eq_getElem (by rw [drP_len]; exact j16)]
      rfl
theorem sv_law_draw {H : Hp} {c : Int} {k m : Nat} (hc : Builtin.Int.intBits c ≤ 4000000) (hk : k ≤ 100000) (hm : 0 < m) : SpV sp_law_draw [.int c, .int (k : Int), .int (m : Int)] H (.int (drawV c k m : Int)) := sv_of fun H1 e Q E kk => ⟨c, k, m, rfl, hc, hk, hm, kk⟩

def sp_law_value : Sp := fun vs H Q _ => ∃ (c : Int) (k m : Nat), vs = [.int c, .int (k : Int), .int (m : Int)] ∧ Builtin.Int.intBits c ≤ 1048576 ∧ k ≤ 1000 ∧ 0 < m ∧ RetV (.int (valueV c k m : Int)) H Q
theorem can_law_value (T : Txt K mg cChooseError cBadPrime cBadMany cBadSome cBadNumber cNotFree cAnswer cFree cBound) : Can P w K mg base 2 "_law_value" P_law_value sp_law_value := by
  refine T.d_law_value.can sc_law_value (fun vs H Q E h => ?_) (fun f cdv A outer s H vs Q E hr h => ?_)
  · obtain ⟨c, k, m, rfl, _⟩ := h
    rfl
  · obtain ⟨c, k, m, rfl, hc, hk, hm, kk⟩ := h
    have nd := sc_law_value.nd
    refine ⟨_, (pss_cons (ps_if (pt_cmpR op_ge (pv 0) (pe_op op_pow pe_int pe_int) (nomark _)) (pss_one (ps_ret (pe_op op_mod (pe_op op_sub (pv 0) (pe_op op_pow pe_int pe_int)) (pe_op op_pow pe_int pe_int)))) pss_nil)
    (pss_one (ps_ret (pe_callC (can_law_draw T) (hr.mono (by decide)) (by rfl) (pa_cons (pe_op op_mulX (pe_op op_add (pv 0) (pe_op op_mulX pe_int (pv 1))) (pe_op op_add (pe_op op_add (pv 0) (pe_op op_mulX pe_int (pv 1))) pe_int)) (pa_cons (pe_op op_add (pe_op op_mod (pv 1) pe_int) pe_int) (pa_cons (pv 2) pa_nil))))))), ?_⟩
    refine q_when (b := decide (((10 ^ 18 : Nat) : Int) ≤ c)) (et_test (ev_op (ev_var rfl) (ev_op ev_c ev_c (rv_pow10 18 (by decide))) rv_I0)) (fun hb H1 e1 => ?_) fun hb H1 e1 => ?_
    · have hc2 := of_decide_eq_true hb
      refine s_ret (v := .int (valueV c k m : Int)) (ev_is (ev_op (ev_op (ev_var rfl) (ev_op ev_c ev_c (rv_pow10 18 (by decide))) rv_I0) (ev_op ev_c ev_c (rv_pow10 40 (by decide))) (rv_mod (by decide))) ?_) fun H2 e2 => kk H2 (e1.trans e2)
      unfold valueV
      rw [if_pos hc2]
      congr 1
      have h1 := Int.emod_nonneg (c - ((10 ^ 18 : Nat) : Int)) (show ((10 ^ 40 : Nat) : Int) ≠ 0 by decide)
      omega
    · have hc2 := of_decide_eq_false hb
      have bk : Builtin.Int.intBits (k : Int) ≤ 10 := intBits_le_iff.mpr (by rw [Int.natAbs_natCast]; exact Nat.lt_of_le_of_lt hk (by decide))
      have c977 : Builtin.Int.intBits (977 : Int) ≤ 10 := by decide +kernel
      have c31 : Builtin.Int.intBits (31 : Int) ≤ 10 := by decide +kernel
      have c5 : Builtin.Int.intBits (5 : Int) ≤ 10 := by decide +kernel
      have m1 := intBits_mul_le c977 bk
      have m2 := intBits_mul_le c31 bk
      have a1 := intBits_add_le hc m1
      have a2 := intBits_add_le (intBits_add_le hc m2) c5
      have a1' : Builtin.Int.intBits (c + 977 * (k : Int)) ≤ 1048577 := a1
      have a2' : Builtin.Int.intBits (c + 31 * (k : Int) + 5) ≤ 1048578 := a2
      have b1 : CMulX 977 (k : Int) := by
        show (Builtin.Int.intBits (977 : Int) : Int) + (Builtin.Int.intBits (k : Int) : Int) ≤ 134217728
        omega
      have b2 : CMulX 31 (k : Int) := by
        show (Builtin.Int.intBits (31 : Int) : Int) + (Builtin.Int.intBits (k : Int) : Int) ≤ 134217728
        omega
      have b3 : CMulX (c + 977 * (k : Int)) (c + 31 * (k : Int) + 5) := by
        show (Builtin.Int.intBits (c + 977 * (k : Int)) : Int) + (Builtin.Int.intBits (c + 31 * (k : Int) + 5) : Int) ≤ 134217728
        omega
      have m3 : Builtin.Int.intBits ((c + 977 * (k : Int)) * (c + 31 * (k : Int) + 5)) ≤ 4000000 := by
        have := intBits_mul_le a1' a2'
        omega
      have e0 : valueV c k m = drawV ((c + 977 * (k : Int)) * (c + 31 * (k : Int) + 5)) (k % 9 + 1) m := by
        unfold valueV
        rw [if_neg hc2]
      rw [e0] at kk
      exact s_ret (ev_callN (ea_cons (ev_op (ev_op (ev_var rfl) (ev_op ev_c (ev_var rfl) (rv_I b1)) rv_I0) (ev_op (ev_op (ev_var rfl) (ev_op ev_c (ev_var rfl) (rv_I b2)) rv_I0) ev_c rv_I0) (rv_I b3)) (ea_cons (ev_op (ev_op (ev_var rfl) ev_c (rv_modN (n := k) (p := 9) (by decide))) ev_c (rv_addN (n := k % 9) (m := 1))) (ea_cons (ev_var rfl) ea_nil))) (sv_law_draw m3 (by omega) hm)) fun H2 e2 => kk H2 (e1.trans e2)
theorem sv_law_value {H : Hp} {c : Int} {k m : Nat} (hc : Builtin.Int.intBits c ≤ 1048576) (hk : k ≤ 1000) (hm : 0 < m) : SpV sp_law_value [.int c, .int (k : Int), .int (m : Int)] H (.int (valueV c k m : Int)) := sv_of fun H1 e Q E kk => ⟨c, k, m, rfl, hc, hk, hm, kk⟩
/-- a cell, cut to 10 ** 18 -/
theorem cut18 (c : Int) : ∃ n : Nat, c % ((10 ^ 18 : Nat) : Int) = (n : Int) ∧ n < 10 ^ 18 := by
  have h1 := Int.emod_nonneg c (show ((10 ^ 18 : Nat) : Int) ≠ 0 by decide)
  have h2 := Int.emod_lt_of_pos c (show (0 : Int) < ((10 ^ 18 : Nat) : Int) by decide)
  exact ⟨(c % ((10 ^ 18 : Nat) : Int)).toNat, by omega, by omega⟩
theorem bits_nat {n m : Nat} (h : n < 2 ^ m) : Builtin.Int.intBits (n : Int) ≤ m := intBits_le_iff.mpr (by rw [Int.natAbs_natCast]; exact h)
end

/-! ### the law's own figures and pairs -/
section
variable {P : Program} {w : World} {K : PySem.W.Frag} {mg : Str → Option Value} {base : Heap} {cChooseError cBadPrime cBadMany cBadSome cBadNumber cNotFree cAnswer cFree cBound : Addr}
def sp_law_figures : Sp := fun vs H Q _ => ∃ (p n : Nat), vs = [.int (p : Int), .int (n : Int)] ∧ 2 ≤ p ∧ p < 1024 ∧ n < 2 ^ 1000 ∧ RetL (nl (dig p n)) H Q
theorem can_law_figures (T : Txt K mg cChooseError cBadPrime cBadMany cBadSome cBadNumber cNotFree cAnswer cFree cBound) : Can P w K mg base 1 "_law_figures" P_law_figures sp_law_figures := by
  refine T.d_law_figures.can sc_law_figures (fun vs H Q E h => ?_) (fun f cdv A outer s H vs Q E hr h => ?_)
  · obtain ⟨p, n, rfl, _⟩ := h
    rfl
  · obtain ⟨p, n, rfl, hp, hp2, hn, k⟩ := h
    have nd := sc_law_figures.nd
    have hl := dig_len_small hp hn
    refine ⟨_, (pss_cons (ps_set (i := 2) nd rfl (Or.inl rfl) (pe_lst pa_nil))
    (pss_cons (ps_while PassesOwn.never (pt_cmpR op_gt (pv 1) pe_int (nomark _)) (pss_cons (ps_expr (pe_bm PySem.F.plainAttrs_list PySem.F.slot_list_append PySem.F.type_list_append mt_append (pv 2) (pa_cons (pe_op op_mod (pv 1) (pv 0)) pa_nil)))
    (pss_one (ps_set (i := 1) nd rfl (Or.inl rfl) (pe_op op_fdivW (pv 1) (pv 0))))))
    (pss_one (ps_ret (pv 2))))), ?_⟩
    refine q_asgL (xs := nl []) (el_lst ea_nil (by show 0 ≤ 100000; decide)) fun q H1 hq e1 h1 => ?_
    refine q_while (fun m σ' H' => ∃ done : List Nat, σ' = [some (.int (p : Int)), some (.int (m : Int)), some (.ref q)] ∧ dig p n = done ++ dig p m ∧ Ex H H' ∧ H' q = some (.lst (nl done))) n ?_ ?_
    · exact ⟨[], rfl, rfl, e1, h1⟩
    · rintro m σ' H' ⟨done, rfl, hd, ex, hl2⟩
      refine ⟨decide (0 < m), et_test (ev_is (ev_op (ev_var rfl) ev_c rv_I0) (bl_of (by omega))), fun hb H2 e2 => ?_, fun hb H2 e2 => ?_⟩
      · have m0 : 0 < m := of_decide_eq_true hb
        refine ⟨fun σ2 H3 => ∃ m', m' < m ∧ ∃ done : List Nat, σ2 = [some (.int (p : Int)), some (.int (m' : Int)), some (.ref q)] ∧ dig p n = done ++ dig p m' ∧ Ex H H3 ∧ H3 q = some (.lst (nl done)), fun σ2 H3 h => ?_, ?_⟩
        · obtain ⟨m', h1, h2⟩ := h
          exact ⟨m', h1, h2⟩
        · refine q_app (e2 _ _ hl2) (ev_var rfl) (ev_op (ev_var rfl) (ev_var rfl) (rv_modN (n := m) (p := p) (by omega))) ?_ fun H3 e3 => ?_
          · rw [nl_len]
            have z := congrArg List.length hd
            rw [List.length_append] at z
            omega
          · refine s_asg (ev_op (ev_var rfl) (ev_var rfl) (rv_divN (n := m) (p := p) (by omega) (small4 (lt_big (by omega))))) fun H4 e4 => ⟨m / p, div_lt hp (by omega), done ++ [m % p], rfl, ?_, (Ex.mut ((ex.trans e2).trans e3) hq).trans e4, ?_⟩
            · rw [hd, dig_step hp (show m ≠ 0 by omega), List.append_assoc]
              rfl
            · refine e4 _ _ ?_
              rw [upd_same, nl_app]
              rfl
      · have m0 : m = 0 := by have := of_decide_eq_false hb; omega
        subst m0
        rw [dig_zero, List.append_nil] at hd
        rw [hd] at k
        exact s_ret (ev_var rfl) fun H3 e3 => k q H3 hq ((ex.trans e2).trans e3) (e3 _ _ (e2 _ _ hl2))
theorem sl_law_figures {H : Hp} {p n : Nat} (hp : 2 ≤ p) (hp2 : p < 1024) (hn : n < 2 ^ 1000) : SpL sp_law_figures [.int (p : Int), .int (n : Int)] H (nl (dig p n)) := sl_of fun H1 e Q E k => ⟨p, n, rfl, hp, hp2, hn, k⟩

/-- figures, each one below p: the number they tell is below p to their length -/
theorem worth_lt {p : Nat} (hp : 0 < p) : ∀ ds : List Nat, (∀ d ∈ ds, d < p) → worth p ds < p ^ ds.length
  | [], _ => by show 0 < 1; decide
  | d :: ds, h => by
    have ih := worth_lt hp ds fun e he => h e (List.mem_cons_of_mem _ he)
    have hd := h d List.mem_cons_self
    show worth p ds * p + d < p ^ (ds.length + 1)
    rw [Nat.pow_succ]
    have h2 : (worth p ds + 1) * p ≤ p ^ ds.length * p := Nat.mul_le_mul_right _ ih
    rw [Nat.add_mul, Nat.one_mul] at h2
    omega
def sp_law_worth (K : PySem.W.Frag) : Sp := fun vs H Q _ => ∃ (p : Nat) (a : Addr) (ds : List Nat), vs = [.int (p : Int), .ref a] ∧ SqL K H a (nl ds) ∧ 2 ≤ p ∧ p < 1024 ∧ ds.length ≤ 1000 ∧ worth p ds < 2 ^ 3000 ∧ RetV (.int (worth p ds : Int)) H Q
theorem worth_drop_le (p : Nat) (hp : 0 < p) : ∀ (ds : List Nat) (i : Nat), worth p (ds.drop i) ≤ worth p ds
  | [], i => by rw [List.drop_nil]; exact Nat.le_refl _
  | d :: ds, 0 => Nat.le_refl _
  | d :: ds, i + 1 => by
    have ih := worth_drop_le p hp ds i
    show worth p (ds.drop i) ≤ worth p ds * p + d
    have : worth p ds ≤ worth p ds * p := Nat.le_mul_of_pos_right _ hp
    omega
theorem can_law_worth (T : Txt K mg cChooseError cBadPrime cBadMany cBadSome cBadNumber cNotFree cAnswer cFree cBound) : Can P w K mg base 1 "_law_worth" P_law_worth (sp_law_worth K) := by
  refine T.d_law_worth.can sc_law_worth (fun vs H Q E h => ?_) (fun f cdv A outer s H vs Q E hr h => ?_)
  · obtain ⟨p, a, ds, rfl, _⟩ := h
    rfl
  · obtain ⟨p, a, ds, rfl, hS, hp, hp2, hl, hw, k⟩ := h
    have nd := sc_law_worth.nd
    refine ⟨_, (pss_cons (ps_set (i := 2) nd rfl (Or.inl rfl) pe_int)
    (pss_cons (ps_for PassesOwn.never rfl (pi_list (pe_revL (pv 1))) (pg_name (i := 3) nd rfl (Or.inl rfl)) (pss_one (ps_set (i := 2) nd rfl (Or.inl rfl) (pe_op op_add (pe_op op_mulX (pv 2) (pv 0)) (pv 3)))))
    (pss_one (ps_ret (pv 2))))), ?_⟩
    refine q_asg (v := .int ((0 : Nat) : Int)) (ev_is ev_c rfl) fun H1 e1 => ?_
    have hrev : EvL (tRevL K (tVar 1)) ((start N_law_worth [.int (p : Int), .ref a]).set 2 (some (.int ((0 : Nat) : Int)))) H1 (nl ds.reverse) := by
      have e0 : nl ds.reverse = (nl ds).reverse := by
        unfold nl
        rw [List.map_reverse]
      rw [e0]
      exact el_revL (ev_var rfl) (ex_l e1 hS)
    refine q_forWN (n := ds.length) (ein_list hrev) (fun q => by have z := walk_list (K := K) (a := q) (xs := nl ds.reverse); rw [nl_len, List.length_reverse] at z; exact z)
      (fun q i σ' H' => ∃ y, σ' = [some (.int (p : Int)), some (.ref a), some (.int (worth p (ds.drop (ds.length - i)) : Int)), y] ∧ Ex H H' ∧ H' q = some (.lst (nl ds.reverse))) ?_ ?_ ?_ ?_
    · intro q H2 hq e2 h2
      refine ⟨none, ?_, e1.trans e2, h2⟩
      rw [Nat.sub_zero, List.drop_of_length_le (Nat.le_refl _)]
      rfl
    · rintro q i σ' H' hi ⟨y, _, _, h⟩
      exact sq_of h
    · rintro q i x σ' H2 H3 hi ⟨y, rfl, ex, hq⟩ yy
      obtain ⟨rfl, hx⟩ := yy
      obtain ⟨d, hd, rfl⟩ := nl_some hx
      rw [List.getElem?_reverse hi] at hd
      have hj : ds.length - 1 - i < ds.length := by omega
      have e0 : ds.drop (ds.length - (i + 1)) = d :: ds.drop (ds.length - i) := by
        rw [show ds.length - (i + 1) = ds.length - 1 - i by omega, List.drop_eq_getElem_cons hj, show ds.length - 1 - i + 1 = ds.length - i by omega]
        rw [List.getElem?_eq_getElem hj] at hd
        rw [Option.some.inj hd]
      have hb := Nat.lt_of_le_of_lt (worth_drop_le p (by omega) ds (ds.length - i)) hw
      have hb2 : worth p (ds.drop (ds.length - i)) < 2 ^ 4000 := Nat.lt_of_lt_of_le hb (Nat.pow_le_pow_right (by decide) (by decide))
      refine s_asg (v := .int (worth p (ds.drop (ds.length - (i + 1))) : Int)) ?_ fun H4 e4 => ⟨_, rfl, ex.trans e4, e4 _ _ hq⟩
      rw [e0]
      exact ev_op (ev_op (ev_var rfl) (ev_var rfl) (rv_mulN (cmul_small hb2 (lt_big (by omega))))) (ev_var rfl) (rv_addN (n := worth p (ds.drop (ds.length - i)) * p) (m := d))
    · rintro q σ' H2 ⟨y, rfl, ex, _⟩
      rw [Nat.sub_self, List.drop_zero]
      exact s_ret (ev_var rfl) fun H3 e3 => k H3 (ex.trans e3)
theorem sv_law_worth {H : Hp} {p : Nat} {a : Addr} {ds : List Nat} (h : SqL K H a (nl ds)) (hp : 2 ≤ p) (hp2 : p < 1024) (hl : ds.length ≤ 1000) (hw : worth p ds < 2 ^ 3000) : SpV (sp_law_worth K) [.int (p : Int), .ref a] H (.int (worth p ds : Int)) := sv_of fun H1 e Q E k => ⟨p, a, ds, rfl, ex_l e h, hp, hp2, hl, hw, k⟩

def sp_law_pair (K : PySem.W.Frag) : Sp := fun vs H Q _ => ∃ (a : Addr) (ns : List Int) (k p : Nat), vs = [.ref a, .int (k : Int), .int (p : Int)] ∧ SqL K H a (ns.map V.int) ∧ Scr ns ∧ k ≤ 100 ∧ 2 ≤ p ∧ p < 1024 ∧ ∀ m s : Nat, s ≤ m → m < 2 ^ 900 → RetU [.int (m : Int), .int (s : Int)] H Q
theorem can_law_pair (T : Txt K mg cChooseError cBadPrime cBadMany cBadSome cBadNumber cNotFree cAnswer cFree cBound) : Can P w K mg base 3 "_law_pair" P_law_pair (sp_law_pair K) := by
  refine T.d_law_pair.can sc_law_pair (fun vs H Q E h => ?_) (fun f cdv A outer s H vs Q E hr h => ?_)
  · obtain ⟨a, ns, k, p, rfl, _⟩ := h
    rfl
  · obtain ⟨a, ns, k, p, rfl, hS, hscr, hk, hp, hp2, kk⟩ := h
    have nd := sc_law_pair.nd
    refine ⟨_, (pss_cons (ps_set (i := 3) nd rfl (Or.inl rfl) (pe_callC (can_law_draw T) (hr.mono (by decide)) (by rfl) (pa_cons (pe_op op_add (pe_op op_mod (pe_callC (can_law_cell_at T) (hr.mono (by decide)) (by rfl) (pa_cons (pv 0) (pa_cons (pe_op op_add (pv 1) pe_int) pa_nil))) (pe_op op_pow pe_int pe_int)) (pv 1)) (pa_cons pe_int (pa_cons pe_int pa_nil)))))
    (pss_cons (ps_set (i := 4) nd rfl (Or.inl rfl) (pe_ix (r := rIxT K) ix_tup (pe_tup (pa_cons pe_int (pa_cons pe_int (pa_cons pe_int pa_nil)))) (pe_callC (can_law_draw T) (hr.mono (by decide)) (by rfl) (pa_cons (pe_op op_mod (pe_callC (can_law_cell_at T) (hr.mono (by decide)) (by rfl) (pa_cons (pv 0) (pa_cons (pe_op op_add (pv 1) pe_int) pa_nil))) (pe_op op_pow pe_int pe_int)) (pa_cons pe_int (pa_cons pe_int pa_nil)))) (fun _ _ => rfl)))
    (pss_cons (ps_set (i := 5) nd rfl (Or.inl rfl) (pe_callC (can_law_value T) (hr.mono (by decide)) (by rfl) (pa_cons (pe_callC (can_law_cell_at T) (hr.mono (by decide)) (by rfl) (pa_cons (pv 0) (pa_cons (pe_op op_add (pv 1) pe_int) pa_nil))) (pa_cons (pe_op op_add (pv 1) pe_int) (pa_cons (pv 4) pa_nil)))))
    (pss_cons (ps_set (i := 6) nd rfl (Or.inl rfl) (pe_callC (can_law_value T) (hr.mono (by decide)) (by rfl) (pa_cons (pe_callC (can_law_cell_at T) (hr.mono (by decide)) (by rfl) (pa_cons (pv 0) (pa_cons (pe_op op_add (pv 1) pe_int) pa_nil))) (pa_cons (pe_op op_add (pv 1) pe_int) (pa_cons pe_int pa_nil)))))
    (pss_cons (ps_set (i := 7) nd rfl (Or.inl rfl) (pe_op op_mod (pv 6) (pe_op op_add (pv 5) pe_int)))
    (pss_cut (ps_if (pt_cmpR op_lt (pv 3) pe_int (nomark _)) (pss_cons (ps_set (i := 8) nd rfl (Or.inl rfl) (pe_lst pa_nil))
    (pss_cons (ps_for PassesOwn.never rfl (pi_enum (by rfl) T.n_enumerate (pa_cons (pe_callC (can_law_figures T) (hr.mono (by decide)) (by rfl) (pa_cons (pv 2) (pa_cons (pv 5) pa_nil))) pa_nil)) (pg_tup rfl (pgs_cons (pg_name (i := 9) nd rfl (Or.inl rfl)) (pgs_cons (pg_name (i := 10) nd rfl (Or.inl rfl)) pgs_nil))) (pss_one (ps_expr (pe_bm PySem.F.plainAttrs_list PySem.F.slot_list_append PySem.F.type_list_append mt_append (pv 8) (pa_cons (pe_op op_mod (pe_op op_add (pe_op op_add (pv 6) (pe_op op_mulX (pe_op op_mulX pe_int (pv 9)) (pv 9))) (pe_op op_fdivW (pv 6) (pe_op op_add (pv 9) pe_int))) (pe_op op_add (pv 10) pe_int)) pa_nil)))))
    (pss_one (ps_set (i := 7) nd rfl (Or.inl rfl) (pe_callC (can_law_worth T) (hr.mono (by decide)) (by rfl) (pa_cons (pv 2) (pa_cons (pv 8) pa_nil))))))) pss_nil)
    (pss_cut (ps_if (pt_cmpR op_eq (pv 3) pe_int (nomark _)) (pss_cons (ps_set (i := 11) nd rfl (Or.inl rfl) (pv 2))
    (pss_cons (ps_while PassesOwn.never (pt_cmpR op_le (pe_op op_mulX (pv 11) (pv 2)) (pv 5) (nomark _)) (pss_one (ps_set (i := 11) nd rfl (Or.inl rfl) (pe_op op_mulX (pv 11) (pv 2)))))
    (pss_one (ps_par (i := 5) (j := 7) (by rfl) nd rfl rfl (by decide) rfl rfl (pa_cons (pe_op op_sub (pv 11) (pe_op op_mod (pv 6) pe_int)) (pa_cons (pe_op op_mod (pe_op op_fdivW (pv 6) pe_int) (pe_op op_sub (pv 11) pe_int)) pa_nil)) (by rfl))))) pss_nil)
    (pss_one (ps_ret (pe_tup (pa_cons (pv 5) (pa_cons (pe_ifExp (PW.pt (pw_and (pt_cmpR op_eq (pv 3) pe_int (nomark _)) (pw_and1 (pt_cmpR op_eq (pe_op op_mod (pv 6) pe_int) pe_int (nomark _))))) pe_int (pv 7)) pa_nil)))))))))))), ?_⟩
    have hc1 := hscr.cell (k + 1)
    have hc2 := hscr.cell (k + 2)
    generalize hz1 : ns.getD (k + 1) 0 = z1 at hc1
    generalize hz2 : ns.getD (k + 2) 0 = z2 at hc2
    have cell1 : ∀ {σ : L2.St} {H1 : Hp} {t u : TE}, Ex H H1 → Ev t σ H1 (.ref a) → Ev u σ H1 (.int (k : Int)) → Ev (tCall (sp_law_cell_at K) [] E0 (tCons t (tCons (tOp (rI0 fun i j => .int (i + j)) u (tC (.int 1))) tNil))) σ H1 (.int z1) := fun e h1 h2 => by
      rw [← hz1]
      exact ev_callN (ea_cons h1 (ea_cons (ev_op h2 ev_c (rv_addN (n := k) (m := 1))) ea_nil)) (sv_law_cell_at (ex_l e hS))
    have cell2 : ∀ {σ : L2.St} {H1 : Hp} {t u : TE}, Ex H H1 → Ev t σ H1 (.ref a) → Ev u σ H1 (.int (k : Int)) → Ev (tCall (sp_law_cell_at K) [] E0 (tCons t (tCons (tOp (rI0 fun i j => .int (i + j)) u (tC (.int 2))) tNil))) σ H1 (.int z2) := fun e h1 h2 => by
      rw [← hz2]
      exact ev_callN (ea_cons h1 (ea_cons (ev_op h2 ev_c (rv_addN (n := k) (m := 2))) ea_nil)) (sv_law_cell_at (ex_l e hS))
    obtain ⟨c, hc, hcl⟩ := cut18 z1
    have bc : Builtin.Int.intBits (c : Int) ≤ 4000000 := Nat.le_trans (bits_nat (m := 60) (Nat.lt_of_lt_of_le hcl (by decide))) (by decide)
    have bck : Builtin.Int.intBits ((c + k : Nat) : Int) ≤ 4000000 := Nat.le_trans (bits_nat (m := 61) (Nat.lt_of_lt_of_le (show c + k < 10 ^ 18 + 10000 by omega) (by decide))) (by decide)
    -- kind
    refine q_asg (v := .int (drawV ((c + k : Nat) : Int) 8 6 : Int)) (ev_callN (ea_cons (ev_op (ev_is (ev_op (cell1 (Ex.refl H) (ev_var rfl) (ev_var rfl)) (ev_op ev_c ev_c (rv_pow10 18 (by decide))) (rv_mod (by decide))) (by rw [hc])) (ev_var rfl) (rv_addN (n := c) (m := k))) (ea_cons ev_c (ea_cons ev_c ea_nil))) (sv_law_draw (k := 8) (m := 6) bck (by decide) (by decide))) fun H1 e1 => ?_
    generalize drawV ((c + k : Nat) : Int) 8 6 = kind
    -- limit
    have d3 : drawV (c : Int) 7 3 < 3 := drawV_lt (by decide)
    generalize hx3 : drawV (c : Int) 7 3 = x3 at d3
    obtain ⟨lim, hlim, hlim1, hlim2⟩ := menu3 x3 d3
    refine q_asg (v := .int (lim : Int)) ?_ fun H2 e2 => ?_
    · have a3 : Ev (tCall sp_law_draw [] E0 (tCons (tOp (rI (fun _ j => 0 < j) fun i j => .int (i % j)) (tCall (sp_law_cell_at K) [] E0 (tCons (tVar 0) (tCons (tOp (rI0 fun i j => .int (i + j)) (tVar 1) (tC (.int 1))) tNil))) (tOp (rI CPow fun i j => .int (i ^ j.toNat)) (tC (.int 10)) (tC (.int 18)))) (tCons (tC (.int 7)) (tCons (tC (.int 3)) tNil)))) ((start N_law_pair [.ref a, .int (k : Int), .int (p : Int)]).set 3 (some (.int (kind : Int)))) H1 (.int (x3 : Int)) :=
        hx3 ▸ ev_callN (ea_cons (ev_is (ev_op (cell1 e1 (ev_var rfl) (ev_var rfl)) (ev_op ev_c ev_c (rv_pow10 18 (by decide))) (rv_mod (by decide))) (by rw [hc])) (ea_cons ev_c (ea_cons ev_c ea_nil))) (sv_law_draw (k := 7) (m := 3) bc (by decide) (by decide))
      exact ev_opT1 (eu_tup (vs := nl [20, 300, 900000]) (ea_cons ev_c (ea_cons ev_c (ea_cons ev_c ea_nil))) (by show 3 ≤ 100000; decide)) a3 fun q H3 hq e3 => rv_ixT (st_of hq) (atI_nat hlim)
    have e02 := e1.trans e2
    -- many, drawn
    have hm := valueV_lt (c := z1) (k := k + 2) hlim1 (by omega)
    have hd := valueV_lt (c := z2) (k := k + 4) (show 0 < 900000 by decide) (by decide)
    refine q_asg (v := .int (valueV z1 (k + 2) lim : Int)) (ev_callN (ea_cons (cell1 e02 (ev_var rfl) (ev_var rfl)) (ea_cons (ev_op (ev_var rfl) ev_c (rv_addN (n := k) (m := 2))) (ea_cons (ev_var rfl) ea_nil))) (sv_law_value hc1 (by omega) hlim1)) fun H3 e3 => ?_
    refine q_asg (v := .int (valueV z2 (k + 4) 900000 : Int)) (ev_callN (ea_cons (cell2 (e02.trans e3) (ev_var rfl) (ev_var rfl)) (ea_cons (ev_op (ev_var rfl) ev_c (rv_addN (n := k) (m := 4))) (ea_cons ev_c ea_nil))) (sv_law_value hc2 (by omega) (by decide))) fun H4 e4 => ?_
    generalize valueV z1 (k + 2) lim = many at hm
    generalize valueV z2 (k + 4) 900000 = drawn at hd
    have hm9 := lt900 hm
    have hm10 : many < 2 ^ 1000 := Nat.lt_of_lt_of_le hm9 (Nat.pow_le_pow_right (by decide) (by decide))
    have hm40 : many < 2 ^ 4000 := Nat.lt_of_lt_of_le hm9 (Nat.pow_le_pow_right (by decide) (by decide))
    have hd40 : drawn < 2 ^ 4000 := Nat.lt_of_lt_of_le (lt900 hd) (Nat.pow_le_pow_right (by decide) (by decide))
    refine q_asg (v := .int ((drawn % (many + 1) : Nat) : Int)) (ev_op (ev_var rfl) (ev_op (ev_var rfl) ev_c (rv_addN (n := many) (m := 1))) (rv_modN (by omega))) fun H5 e5 => ?_
    have e05 := ((e02.trans e3).trans e4).trans e5
    have hs0 : drawn % (many + 1) ≤ many := Nat.le_of_lt_succ (Nat.mod_lt _ (by omega))
    generalize drawn % (many + 1) = some0 at hs0
    -- behind the first if: some, no greater than many
    refine q_cut (M := fun σ' H' => ∃ (s1 : Nat) (y8 y9 y10 : Option V), s1 ≤ many ∧ σ' = [some (.ref a), some (.int (k : Int)), some (.int (p : Int)), some (.int (kind : Int)), some (.int (lim : Int)), some (.int (many : Int)), some (.int (drawn : Int)), some (.int (s1 : Int)), y8, y9, y10, none] ∧ Ex H H') ?_ ?_
    · refine s_when (b := decide (kind < 2)) (et_test (ev_is (ev_op (ev_var rfl) ev_c rv_I0) (bl_of (by omega)))) (fun _ H6 e6 => ?_) fun _ H6 e6 => ⟨some0, none, none, none, hs0, rfl, e05.trans e6⟩
      refine q_asgL (xs := []) (el_lst ea_nil (by show 0 ≤ 100000; decide)) fun q H7 hq e7 h7 => ?_
      have hl := dig_len_small hp hm10
      have hqn : H q = none := fresh_back (e05.trans e6) hq
      refine q_forWN (n := (dig p many).length) (ein_enum (xs := nl (dig p many)) (el_callN (ea_cons (ev_var rfl) (ea_cons (ev_var rfl) ea_nil)) (sl_law_figures hp hp2 hm10))) (fun r => by have z := walk_enum (K := K) (a := r) (xs := nl (dig p many)); rw [nl_len] at z; exact z)
        (fun r i σ' H' => ∃ (less : List Nat) (y9 y10 : Option V), σ' = [some (.ref a), some (.int (k : Int)), some (.int (p : Int)), some (.int (kind : Int)), some (.int (lim : Int)), some (.int (many : Int)), some (.int (drawn : Int)), some (.int (some0 : Int)), some (.ref q), y9, y10, none] ∧ less.length = i ∧ (∀ (j d e : Nat), less[j]? = some d → (dig p many)[j]? = some e → d ≤ e) ∧ Ex H H' ∧ H' q = some (.lst (nl less)) ∧ H' r = some (.lst (nl (dig p many))) ∧ r ≠ q) ?_ ?_ ?_ ?_
      · intro r H8 hr8 e8 h8
        exact ⟨[], none, none, rfl, rfl, (fun j d e h => by simp at h), (((e05.trans e6).trans e7).trans e8), e8 _ _ h7, h8, (ne_of_none h7 hr8).symm⟩
      · rintro r i σ' H' hi ⟨_, _, _, _, _, _, _, _, h, _⟩
        exact sq_of h
      · rintro r i x σ' H8 H9 hi ⟨less, y9, y10, rfl, hlen, hle, ex, hlq, hlr, hrq⟩ y
        obtain ⟨Tt, u, v, rfl, nT, rfl, eu, ev⟩ := y
        obtain rfl : V.int (i : Nat) = u := Option.some.inj eu
        obtain ⟨d, hdd, rfl⟩ := nl_some ev
        refine g_pair upd_same ?_
        have eT : Ex H8 (upd H8 Tt (.tup [V.int (i : Nat), V.int (d : Int)])) := Ex.new nT
        have hi2 : i < 1000 := by omega
        have i4 : i < 2 ^ 4000 := lt_big (by omega)
        have h7i : 7 * i < 2 ^ 4000 := lt_big (by omega)
        have hval : Ev (tOp (rI (fun _ j => 0 < j) fun i j => V.int (i % j)) (tOp (rI0 fun i j => V.int (i + j)) (tOp (rI0 fun i j => V.int (i + j)) (tVar 6) (tOp (rI CMulX fun i j => V.int (i * j)) (tOp (rI CMulX fun i j => V.int (i * j)) (tC (.int 7)) (tVar 9)) (tVar 9))) (tOp (rI CDivW fun i j => V.int (i / j)) (tVar 6) (tOp (rI0 fun i j => V.int (i + j)) (tVar 9) (tC (.int 3))))) (tOp (rI0 fun i j => V.int (i + j)) (tVar 10) (tC (.int 1))))
            (([some (V.ref a), some (.int (k : Int)), some (.int (p : Int)), some (.int (kind : Int)), some (.int (lim : Int)), some (.int (many : Int)), some (.int (drawn : Int)), some (.int (some0 : Int)), some (.ref q), y9, y10, none].set 9 (some (V.int (i : Nat)))).set 10 (some (V.int (d : Int)))) (upd H8 Tt (.tup [V.int (i : Nat), V.int (d : Int)])) (.int (((drawn + 7 * i * i + drawn / (i + 3)) % (d + 1) : Nat) : Int)) :=
          ev_op (ev_op (ev_op (ev_var rfl) (ev_op (ev_op ev_c (ev_var rfl) (rv_mulN (n := 7) (m := i) (cmul_small (lt_big (by decide)) i4))) (ev_var rfl) (rv_mulN (n := 7 * i) (m := i) (cmul_small h7i i4))) (rv_addN (n := drawn) (m := 7 * i * i))) (ev_op (ev_var rfl) (ev_op (ev_var rfl) ev_c (rv_addN (n := i) (m := 3))) (rv_divN (n := drawn) (p := i + 3) (by omega) (small4 (lt_big (by omega))))) (rv_addN (n := drawn + 7 * i * i) (m := drawn / (i + 3)))) (ev_op (ev_var rfl) ev_c (rv_addN (n := d) (m := 1))) (rv_modN (by omega))
        refine s_app (eT _ _ hlq) (ev_var rfl) hval (by rw [nl_len]; omega) fun H9 e9 => ?_
        refine ⟨less ++ [(drawn + 7 * i * i + drawn / (i + 3)) % (d + 1)], _, _, rfl, by rw [List.length_append, hlen]; rfl, fun j x e h1 h2 => ?_, Ex.mut ((ex.trans eT).trans e9) hqn, ?_, ?_, hrq⟩
        · by_cases hj : j < less.length
          · rw [List.getElem?_append_left hj] at h1
            exact hle j x e h1 h2
          · have hj2 : j = less.length := by
              have := (List.getElem?_eq_some_iff.mp h1).1
              rw [List.length_append, List.length_singleton] at this
              omega
            subst hj2
            have x1 : (drawn + 7 * i * i + drawn / (i + 3)) % (d + 1) = x := by simpa using h1
            rw [hlen, hdd] at h2
            have x2 := Option.some.inj h2
            have := Nat.mod_lt (drawn + 7 * i * i + drawn / (i + 3)) (show 0 < d + 1 by omega)
            omega
        · rw [upd_same, nl_app]
          rfl
        · rw [upd_ne hrq]
          exact e9 _ _ (eT _ _ hlr)
      · rintro r σ' H8 ⟨less, y9, y10, rfl, hlen, hle, ex, hlq, hlr, hrq⟩
        have hw : worth p less ≤ many := by
          have z := worth_le (p := p) less (dig p many) hlen hle
          rw [worth_dig hp] at z
          exact z
        refine s_asg (ev_callN (ea_cons (ev_var rfl) (ea_cons (ev_var rfl) ea_nil)) (sv_law_worth (sq_of hlq) hp hp2 (by omega) (Nat.lt_of_le_of_lt hw (Nat.lt_of_lt_of_le hm9 (Nat.pow_le_pow_right (by decide) (by decide)))))) fun H9 e9 => ⟨worth p less, _, _, _, hw, rfl, ex.trans e9⟩
    · rintro σ' H6 ⟨s1, y8, y9, y10, hs1, rfl, ex6⟩
      -- behind the second if
      refine q_cut (M := fun σ' H' => ∃ (m2 s2 : Nat) (y8 y9 y10 y11 : Option V), s2 ≤ m2 ∧ m2 < 2 ^ 900 ∧ σ' = [some (.ref a), some (.int (k : Int)), some (.int (p : Int)), some (.int (kind : Int)), some (.int (lim : Int)), some (.int (m2 : Int)), some (.int (drawn : Int)), some (.int (s2 : Int)), y8, y9, y10, y11] ∧ Ex H H') ?_ ?_
      · refine s_when (b := decide (kind = 2)) (et_test (ev_is (ev_op (ev_var rfl) ev_c (rv_eq rfl)) (congrArg V.bl (dec_nat kind 2)))) (fun _ H7 e7 => ?_) fun _ H7 e7 => ⟨many, s1, y8, y9, y10, none, hs1, hm9, rfl, ex6.trans e7⟩
        refine q_asg (ev_var rfl) fun H8 e8 => ?_
        have ex8 := (ex6.trans e7).trans e8
        refine q_while (fun m σ' H' => ∃ pw : Nat, σ' = [some (.ref a), some (.int (k : Int)), some (.int (p : Int)), some (.int (kind : Int)), some (.int (lim : Int)), some (.int (many : Int)), some (.int (drawn : Int)), some (.int (s1 : Int)), y8, y9, y10, some (.int (pw : Int))] ∧ 2 ≤ pw ∧ m = many - pw ∧ (pw ≤ many ∨ pw = p) ∧ Ex H H') (many - p) ?_ ?_
        · exact ⟨p, rfl, hp, rfl, .inr rfl, ex8⟩
        · rintro m σ' H' ⟨pw, rfl, hpw, rfl, hpm, ex⟩
          have pb : pw < 2 ^ 4000 := by
            rcases hpm with h | h
            · exact Nat.lt_of_le_of_lt h hm40
            · exact lt_big (by omega)
          refine ⟨decide (pw * p ≤ many), et_test (ev_is (ev_op (ev_op (ev_var rfl) (ev_var rfl) (rv_mulN (cmul_small pb (lt_big (by omega))))) (ev_var rfl) rv_I0) (bl_of (by omega))), fun hb H9 e9 => ?_, fun hb H9 e9 => ?_⟩
          · have hle : pw * p ≤ many := of_decide_eq_true hb
            have hlt : pw < pw * p := by
              have z : pw * 2 ≤ pw * p := Nat.mul_le_mul_left _ hp
              omega
            refine ⟨fun σ2 H3 => ∃ pw' : Nat, pw' = pw * p ∧ σ2 = [some (.ref a), some (.int (k : Int)), some (.int (p : Int)), some (.int (kind : Int)), some (.int (lim : Int)), some (.int (many : Int)), some (.int (drawn : Int)), some (.int (s1 : Int)), y8, y9, y10, some (.int (pw' : Int))] ∧ Ex H H3, fun σ2 H3 h => ?_, ?_⟩
            · obtain ⟨pw', h1, h2, h3⟩ := h
              exact ⟨many - pw', by omega, pw', h2, by omega, rfl, .inl (by omega), h3⟩
            · exact s_asg (ev_op (ev_var rfl) (ev_var rfl) (rv_mulN (cmul_small pb (lt_big (by omega))))) fun H10 e10 => ⟨pw * p, rfl, rfl, (ex.trans e9).trans e10⟩
          · refine s_par (a := .int ((pw - drawn % 2 : Nat) : Int)) (b := .int ((drawn / 2 % (pw - 1) : Nat) : Int)) (ea_cons (ev_op (ev_var rfl) (ev_op (ev_var rfl) ev_c (rv_modN (n := drawn) (p := 2) (by decide))) (rv_subN (by omega))) (ea_cons (ev_op (ev_op (ev_var rfl) ev_c (rv_divN (n := drawn) (p := 2) (by decide) (small4 (lt_big (by decide))))) (ev_op (ev_var rfl) ev_c (rv_subN (n := pw) (m := 1) (by omega))) (rv_modN (by omega))) ea_nil)) fun H10 e10 => ?_
            have h2 := Nat.mod_lt (drawn / 2) (show 0 < pw - 1 by omega)
            have h3 := Nat.mod_lt drawn (show 0 < 2 by decide)
            refine ⟨pw - drawn % 2, drawn / 2 % (pw - 1), y8, y9, y10, some (.int (pw : Int)), by omega, ?_, rfl, (ex.trans e9).trans e10⟩
            rcases hpm with h | h
            · exact Nat.lt_of_le_of_lt (by omega) hm9
            · exact Nat.lt_of_le_of_lt (show pw - drawn % 2 ≤ 1024 by omega) (Nat.lt_of_lt_of_le (show 1024 < 2 ^ 11 by decide) (Nat.pow_le_pow_right (by decide) (by decide)))
      · rintro σ' H7 ⟨m2, s2, z8, z9, z10, z11, hs2, hm2, rfl, ex7⟩
        have hif : ∃ s3 : Nat, s3 ≤ m2 ∧ Ev (tIf (tAnd (tTest (tOp rEq (tVar 3) (tC (.int 5)))) (tTest (tOp rEq (tOp (rI (fun _ j => 0 < j) fun i j => .int (i % j)) (tVar 6) (tC (.int 3))) (tC (.int 0))))) (tC (.int 0)) (tVar 7)) [some (.ref a), some (.int (k : Int)), some (.int (p : Int)), some (.int (kind : Int)), some (.int (lim : Int)), some (.int (m2 : Int)), some (.int (drawn : Int)), some (.int (s2 : Int)), z8, z9, z10, z11] H7 (.int (s3 : Int)) := by
          have et : EvT (tAnd (tTest (tOp rEq (tVar 3) (tC (.int 5)))) (tTest (tOp rEq (tOp (rI (fun _ j => 0 < j) fun i j => .int (i % j)) (tVar 6) (tC (.int 3))) (tC (.int 0))))) [some (.ref a), some (.int (k : Int)), some (.int (p : Int)), some (.int (kind : Int)), some (.int (lim : Int)), some (.int (m2 : Int)), some (.int (drawn : Int)), some (.int (s2 : Int)), z8, z9, z10, z11] H7 (decide (V.int (kind : Int) = V.int 5) && decide (V.int ((drawn % 3 : Nat) : Int) = V.int 0)) :=
            et_and (et_test (ev_op (ev_var rfl) ev_c (rv_eq rfl))) fun _ => et_test (ev_op (ev_op (ev_var rfl) ev_c (rv_modN (n := drawn) (p := 3) (by decide))) ev_c (rv_eq rfl))
          cases hb : (decide (V.int (kind : Int) = V.int 5) && decide (V.int ((drawn % 3 : Nat) : Int) = V.int 0)) with
          | true =>
            rw [hb] at et
            exact ⟨0, Nat.zero_le _, ev_if et (fun _ => ev_c) fun h => by cases h⟩
          | false =>
            rw [hb] at et
            exact ⟨s2, hs2, ev_if et (fun h => by cases h) fun _ => ev_var rfl⟩
        obtain ⟨s3, hs3, hev⟩ := hif
        exact s_retU (xs := [.int (m2 : Int), .int (s3 : Int)]) (eu_tup (ea_cons (ev_var rfl) (ea_cons hev ea_nil)) (by show 2 ≤ 100000; decide)) fun r H8 hr8 e8 h8 => kk m2 s3 hs3 hm2 r H8 (fresh_back ex7 hr8) (ex7.trans e8) h8
theorem eu_law_pair {H : Hp} {a : Addr} {ns : List Int} {k p : Nat} {σ : L2.St} {tA : TA} (hA : EvA tA σ H [.ref a, .int (k : Int), .int (p : Int)]) (hS : SqL K H a (ns.map V.int)) (hscr : Scr ns) (hk : k ≤ 100) (hp : 2 ≤ p) (hp2 : p < 1024) :
    EvUX (tCall (sp_law_pair K) [] E0 tA) σ H (fun xs => ∃ m s : Nat, s ≤ m ∧ m < 2 ^ 900 ∧ xs = [.int (m : Int), .int (s : Int)]) := fun H1 e Q q =>
  hA H1 e _ fun H2 e2 => ⟨a, ns, k, p, rfl, ex_l (e.trans e2) hS, hscr, hk, hp, hp2, fun m s h1 h2 r H3 hr3 e3 h3 => q r _ H3 ⟨m, s, h1, h2, rfl⟩ (fresh_back e2 hr3) (e2.trans e3) h3⟩
end

/-! ### the law -/
section
variable {P : Program} {w : World} {K : PySem.W.Frag} {mg : Str → Option Value} {base : Heap} {cChooseError cBadPrime cBadMany cBadSome cBadNumber cNotFree cAnswer cFree cBound : Addr}
theorem odd_non {H : Hp} : Odd K H .non := ⟨none, .inr ⟨"NoneType", by decide, .non, rfl⟩, fun n h => by cases h⟩
theorem odd_str {H : Hp} (s : Str) : Odd K H (.str s) := ⟨none, .inr ⟨"str", by decide, .str s, rfl⟩, fun n h => by cases h⟩
theorem odd_bl {H : Hp} (b : Bool) : Odd K H (.bl b) := ⟨none, .inr ⟨"bool", by decide, .bl b, rfl⟩, fun n h => by cases h⟩
theorem odd_lst {H : Hp} {q : Addr} {xs : List V} (h : H q = some (.lst xs)) : Odd K H (.ref q) := ⟨none, .inr ⟨"list", by decide, .lst (sq_of h), rfl⟩, fun n h => by cases h⟩
theorem odd_tup {H : Hp} {q : Addr} {xs : List V} (h : H q = some (.tup xs)) : Odd K H (.ref q) := ⟨none, .inr ⟨"tuple", by decide, .tup (st_of h), rfl⟩, fun n h => by cases h⟩
theorem odd_dK {H : Hp} {q : Addr} {kvs : List (Key × V)} (h : H q = some (.dK kvs)) : Odd K H (.ref q) := ⟨none, .inr ⟨"dict", by decide, .dK h, rfl⟩, fun n h => by cases h⟩
theorem odd_int {H : Hp} {z : Int} (h : z < 0) : Odd K H (.int z) := ⟨some z, .int z, fun n e => by cases e; exact h⟩
def EvOd (K : PySem.W.Frag) (te : TE) (σ : L2.St) (H : Hp) : Prop := ∀ H1, Ex H H1 → ∀ Q : VK, (∀ x H2, Ex H1 H2 → Odd K H2 x → Q x H2) → te σ H1 Q
def EvOds (K : PySem.W.Frag) (tA : TA) (σ : L2.St) (H : Hp) (n : Nat) : Prop := ∀ H1, Ex H H1 → ∀ Q : List V → Hp → Prop, (∀ xs H2, Ex H1 H2 → xs.length = n → (∀ x ∈ xs, Odd K H2 x) → Q xs H2) → tA σ H1 Q
theorem eods_nil {σ : L2.St} {H : Hp} : EvOds K tNil σ H 0 := fun H1 e Q q => q [] H1 (Ex.refl H1) rfl fun x h => by cases h
theorem eods_cons {σ : L2.St} {H : Hp} {ta : TE} {tr : TA} {n : Nat} (h : EvOd K ta σ H) (hr : EvOds K tr σ H n) : EvOds K (tCons ta tr) σ H (n + 1) := fun H1 e Q q =>
  h H1 e _ fun x H2 e2 ho => hr H2 (e.trans e2) _ fun xs H3 e3 hl hx => q (x :: xs) H3 (e2.trans e3) (by rw [List.length_cons, hl]) fun y hy => by
    rcases List.mem_cons.mp hy with rfl | hy
    · exact ho.mono e3
    · exact hx y hy
theorem eod_of {σ : L2.St} {H : Hp} {te : TE} {x : V} (h : Ev te σ H x) (ho : ∀ H', Odd K H' x) : EvOd K te σ H := fun H1 e Q q => h H1 e _ fun H2 e2 => q x H2 e2 (ho H2)
theorem eod_L {σ : L2.St} {H : Hp} {te : TE} {xs : List V} (h : EvL te σ H xs) : EvOd K te σ H := fun H1 e Q q => h H1 e _ fun p H2 hp e2 h2 => q _ H2 e2 (odd_lst h2)
theorem eod_U {σ : L2.St} {H : Hp} {te : TE} {xs : List V} (h : EvU te σ H xs) : EvOd K te σ H := fun H1 e Q q => h H1 e _ fun p H2 hp e2 h2 => q _ H2 e2 (odd_tup h2)
theorem eod_D {σ : L2.St} {H : Hp} : EvOd K tDNewK σ H := fun H1 e Q q => fun d hd => q _ _ (Ex.new hd) (odd_dK upd_same)
theorem er_odds {σ : L2.St} {H : Hp} {tA : TA} (h : EvOds K tA σ H 9) : EvR (tLst tA) σ H (fun p H2 => ∃ xs, OddL K H2 p xs) := fun H1 e Q q =>
  h H1 e _ fun xs H2 e2 hl hx => ⟨sz_of (by rw [hl]; decide), fun p hp => q p _ (fresh_back e2 hp) (e2.trans (Ex.new hp)) ⟨xs, upd_same, hl, fun x hx' => (hx x hx').mono (Ex.new hp)⟩⟩
theorem OddL.mono {H H' : Hp} {q : Addr} {xs : List V} (h : OddL K H q xs) (e : Ex H H') : OddL K H' q xs := ⟨e _ _ h.1, h.2.1, fun x hx => (h.2.2 x hx).mono e⟩
/-- all of a list's things asked for, one after the other: each answered as is due -/
theorem ev_allDue {σ : L2.St} {H : Hp} {tl : TE} {g : TG} {te : TE} {q : Addr} {xs : List V} {vs : List Nat} (hl : Ev tl σ H (.ref q)) (hx : H q = some (.lst xs)) (hn : xs.length ≤ 1000)
    (hs : ∀ (x : V), x ∈ xs → ∀ H1 (R : L2.St → Hp → Prop), Ex H H1 → (∀ σ2 H3, Ex H1 H3 → wipe σ2 vs = wipe σ vs → EvT tYes σ2 H3 true → Ev te σ2 H3 (.bl true) → R σ2 H3) → g x (wipe σ vs) H1 R) :
    Ev (tCB (rAll K) (tCons (tLc (iList K tl) g tYes te vs) tNil)) σ H (.bl true) := by
  refine ev_is (ev_cbNew (xs := (List.range xs.length).map fun _ => V.bl true) ?_ fun r H1 e1 h1 => rc_all (bs := (List.range xs.length).map fun _ => true) (by rw [List.map_map]; exact sq_of h1)) (by rw [List.all_map]; exact congrArg V.bl (List.all_eq_true.mpr fun _ _ => rfl))
  rw [← given_all]
  refine el_lcW (n := xs.length) (fun _ => true) _ (ei_list hl (sq_of hx)) walk_list (by omega) (fun H1 e1 => sq_of (e1 _ _ hx)) fun i x H1 H2 R e1 hi y kk => ?_
  obtain ⟨rfl, hxi⟩ := y
  exact hs x (List.mem_of_getElem? hxi) _ R e1 fun σ2 H3 e3 hw ht he => kk σ2 H3 e3 hw ht fun _ => he
theorem and_l {a b : Bool} (h : a = false) : (a && b) = false := by
  rw [h]
  rfl
theorem and_r {a b : Bool} (h : b = false) : (a && b) = false := by
  rw [h, Bool.and_false]
theorem any_r {z hi : Int} (h : ¬ z ≤ hi) : ((some z).any fun s => decide (0 ≤ s) && decide (s ≤ hi)) = false := by
  show (decide (0 ≤ z) && decide (z ≤ hi)) = false
  rw [decide_eq_false h, Bool.and_false]
theorem dig_self {p : Nat} (hp : 2 ≤ p) : dig p p = [0, 1] := by
  rw [dig_step hp (by omega), Nat.mod_self, Nat.div_self (by omega), dig_step hp (by decide), Nat.mod_eq_of_lt (by omega), Nat.div_eq_of_lt (by omega)]
  rfl
theorem evx_ix0 {σ : L2.St} {H : Hp} {te : TE} {Pr : List V → Prop} (h : EvUX te σ H Pr) (hPr : ∀ xs, Pr xs → ∃ m : Nat, m < 2 ^ 900 ∧ atI xs 0 = some (.int (m : Int))) : EvX (tOp (rIxT K) te (tC (.int 0))) σ H (fun v => ∃ m : Nat, m < 2 ^ 900 ∧ v = .int (m : Int)) := fun H1 e Q q =>
  h H1 e _ fun p xs H2 hp _ e2 h2 => by
    obtain ⟨m, hm, ha⟩ := hPr xs hp
    exact rv_ixT (K := K) (st_of h2) ha H2 (Ex.refl H2) _ fun H3 e3 => q _ H3 ⟨m, hm, rfl⟩ (e2.trans e3)
theorem compB_no {n : Nat} (h2 : 2 ≤ n) (h : n < 998) (hc : compB n = true) : primeZ (n : Int) = false := by
  have e := compB_prime n h h2
  rw [hc] at e
  unfold primeZ
  cases hb : primeB n with
  | true =>
    rw [hb] at e
    cases e
  | false => rw [Int.toNat_natCast, hb, Bool.and_false]
def sp_law (K : PySem.W.Frag) : Sp := fun vs H Q _ => ∃ (a : Addr) (ns : List Int), vs = [.ref a] ∧ SqL K H a (ns.map V.int) ∧ Scr ns ∧ ∀ H', Q (.bl true) H'
theorem ok_law (T : Txt K mg cChooseError cBadPrime cBadMany cBadSome cBadNumber cNotFree cAnswer cFree cBound) {f : Addr} {fd : FuncData} (F : Fun K "law" "law" s_law f fd) : FnOk P w K mg base CX0 10 f fd P_law (sp_law K) := by
  refine F.ok sc_law (fun vs H Q E h => ?_) (fun cdv A outer s H vs Q E hr h => ?_)
  · obtain ⟨a, ns, rfl, _⟩ := h
    rfl
  · obtain ⟨a0, ns, rfl, hS, hscr, k⟩ := h
    have nd := sc_law.nd
    obtain ⟨f_law_with_prime, _, _, h_law_with_prime, _⟩ := T.d_law_with_prime.ex
    obtain ⟨f_law_with_many, _, _, h_law_with_many, _⟩ := T.d_law_with_many.ex
    obtain ⟨f_law_with_some, _, _, h_law_with_some, _⟩ := T.d_law_with_some.ex
    obtain ⟨f_law_with_number, _, _, h_law_with_number, _⟩ := T.d_law_with_number.ex
    refine ⟨_, (pss_cons (ps_set (i := 1) nd rfl (Or.inl rfl) (pe_callC (can_law_value T) (hr.mono (by decide)) (by rfl) (pa_cons (pe_callC (can_law_cell_at T) (hr.mono (by decide)) (by rfl) (pa_cons (pv 0) (pa_cons pe_int pa_nil))) (pa_cons pe_int (pa_cons pe_int pa_nil)))))
    (pss_cons (ps_set (i := 2) nd rfl (Or.inr rfl) (pe_lst pa_nil))
    (pss_cons (ps_for PassesOwn.never rfl (pi_range1 (by rfl) T.n_range (pa_cons pe_int pa_nil)) (pg_name (i := 3) nd rfl (Or.inl rfl)) (pss_one (ps_expr (pe_bm PySem.F.plainAttrs_list PySem.F.slot_list_append PySem.F.type_list_append mt_append (pv 2) (pa_cons (pe_lst (pa_cons (pe_cmpR op_eq (pv 3) pe_int (nomark _)) (pa_cons (pe_cmpR op_eq (pv 3) pe_int (nomark _)) (pa_cons (pe_cmpR op_eq (pv 3) pe_int (nomark _)) (pa_cons (pe_cmpR op_eq (pv 3) pe_int (nomark _)) (pa_cons (pe_cmpR op_eq (pv 3) pe_int (nomark _)) (pa_cons pe_bl pa_nil))))))) pa_nil)))))
    (pss_cons (ps_set (i := 4) nd rfl (Or.inl rfl) (pe_lst (pa_cons pe_non (pa_cons pe_str (pa_cons pe_bl (pa_cons pe_bl (pa_cons (pe_lst (pa_cons pe_int pa_nil)) (pa_cons (pe_tup (pa_cons pe_int pa_nil)) (pa_cons pe_dnewK (pa_cons (pe_un un_neg pe_int) (pa_cons (pe_op op_sub (pe_un un_neg pe_int) (pv 1)) pa_nil)))))))))))
    (pss_cons (ps_for PassesOwn.never rfl (pi_range1 (by rfl) T.n_range (pa_cons pe_int pa_nil)) (pg_name (i := 5) nd rfl (Or.inr rfl)) (pss_cons (ps_set (i := 6) nd rfl (Or.inl rfl) (pe_op op_cat (pv 4) (pe_lst (pa_cons pe_int (pa_cons pe_int (pa_cons pe_int (pa_cons pe_int (pa_cons pe_int (pa_cons pe_int (pa_cons pe_int (pa_cons pe_int (pa_cons pe_int (pa_cons (pe_op op_add pe_int (pv 1)) pa_nil)))))))))))))
    (pss_cons (ps_if (pt_not (pt_val (pe_callB (r := rAll K) (cr_all rfl) (by rfl) T.n_all (by decide +kernel) (pa_cons (pe_lc (own := [("_law_thing", 7)]) (g := gName 7) rfl nd (pi_list (pv 6)) (blkOk_by (own := [("_law_thing", 7)]) (N := N_law) (sc := defScope s_law) (by decide +kernel)) (fun _ _ _ _ _ => (pg_name (i := 7) nd rfl (Or.inl rfl))) (fun _ _ _ _ _ => pts_nil) (fun _ _ _ _ _ => (pe_cmpR (r := rEqD K) (op_eqD hr.units) (pe_callC (can_law_told (P := P) (w := w) (base := base) T) (hr.mono (by decide)) (by rfl) (pa_cons (pe_glob (v := .ref f_law_with_prime) (by rfl) h_law_with_prime rfl) (pa_cons (pv 5) (pa_cons (pv 7) pa_nil)))) (pe_ix (r := rIxL K) ix_list (pv 2) pe_int (fun _ _ => rfl)) (nomark _)))) pa_nil)))) (pss_one (ps_ret pe_bl)) pss_nil)
    (pss_one (ps_if (pt_not (pt_val (pe_callB (r := rAll K) (cr_all rfl) (by rfl) T.n_all (by decide +kernel) (pa_cons (pe_lc (own := [("_law_thing", 7)]) (g := gName 7) rfl nd (pi_list (pv 4)) (blkOk_by (own := [("_law_thing", 7)]) (N := N_law) (sc := defScope s_law) (by decide +kernel)) (fun _ _ _ _ _ => (pg_name (i := 7) nd rfl (Or.inl rfl))) (fun _ _ _ _ _ => pts_nil) (fun _ _ _ _ _ => (pe_cmpR (r := rEqD K) (op_eqD hr.units) (pe_callC (can_law_told (P := P) (w := w) (base := base) T) (hr.mono (by decide)) (by rfl) (pa_cons (pe_glob (v := .ref f_law_with_many) (by rfl) h_law_with_many rfl) (pa_cons (pv 5) (pa_cons (pv 7) pa_nil)))) (pe_ix (r := rIxL K) ix_list (pv 2) pe_int (fun _ _ => rfl)) (nomark _)))) pa_nil)))) (pss_one (ps_ret pe_bl)) pss_nil)))))
    (pss_cons (ps_for PassesOwn.never rfl (pi_range2 (by rfl) T.n_range (pa_cons pe_int (pa_cons pe_int pa_nil))) (pg_name (i := 8) nd rfl (Or.inr rfl)) (pss_cons (ps_set (i := 9) nd rfl (Or.inl rfl) (pe_callB (r := rAny K) (cr_any rfl) (by rfl) T.n_any (by decide +kernel) (pa_cons (pe_lc (own := [("_law_part", 10)]) (g := gName 10) rfl nd (pi_range2 (by rfl) T.n_range (pa_cons pe_int (pa_cons pe_int pa_nil))) (blkOk_by (own := [("_law_part", 10)]) (N := N_law) (sc := defScope s_law) (by decide +kernel)) (fun _ _ _ _ _ => (pg_name (i := 10) nd rfl (Or.inl rfl))) (fun _ _ _ _ _ => pts_one (pt_cmpR op_lt (pv 10) (pv 8) (nomark _))) (fun _ _ _ _ _ => (pe_cmpR op_eq (pe_op op_mod (pv 8) (pv 10)) pe_int (nomark _)))) pa_nil)))
    (pss_cons (ps_if (PW.pt (pw_and (pt_val (pv 9)) (pw_and1 (pt_cmpR (r := rNeD K) (op_neD hr.units) (pe_callC (can_law_told (P := P) (w := w) (base := base) T) (hr.mono (by decide)) (by rfl) (pa_cons (pe_glob (v := .ref f_law_with_prime) (by rfl) h_law_with_prime rfl) (pa_cons (pe_op op_mod (pe_op op_fdivW (pv 8) pe_int) pe_int) (pa_cons (pv 8) pa_nil)))) (pe_ix (r := rIxL K) ix_list (pv 2) pe_int (fun _ _ => rfl)) (nomark _))))) (pss_one (ps_ret pe_bl)) pss_nil)
    (pss_one (ps_if (PW.pt (pw_and (pt_not (pt_val (pv 9))) (pw_and1 (pt_cmpR (r := rNeD K) (op_neD hr.units) (pe_callC (can_figures T) (hr.mono (by decide)) (by rfl) (pa_cons (pv 8) (pa_cons (pv 8) pa_nil))) (pe_lst (pa_cons pe_int (pa_cons pe_int pa_nil))) (nomark _))))) (pss_one (ps_ret pe_bl)) pss_nil)))))
    (pss_cons (ps_set (i := 11) nd rfl (Or.inl rfl) (pe_ix (r := rIxT K) ix_tup (pe_callC (can_law_pair T) (hr.mono (by decide)) (by rfl) (pa_cons (pv 0) (pa_cons pe_int (pa_cons pe_int pa_nil)))) pe_int (fun _ _ => rfl)))
    (pss_cons (ps_for PassesOwn.never rfl (pi_range1 (by rfl) T.n_range (pa_cons pe_int pa_nil)) (pg_name (i := 5) nd rfl (Or.inr rfl)) (pss_one (ps_for PassesOwn.never rfl (pi_list (pe_op op_cat (pv 4) (pe_lst (pa_cons (pe_op op_add (pv 11) pe_int) (pa_cons (pe_op op_add (pe_op op_add (pv 11) pe_int) (pv 1)) pa_nil))))) (pg_name (i := 7) nd rfl (Or.inl rfl)) (pss_one (ps_if (pt_cmpR (r := rNeD K) (op_neD hr.units) (pe_callC (can_law_told (P := P) (w := w) (base := base) T) (hr.mono (by decide)) (by rfl) (pa_cons (pe_glob (v := .ref f_law_with_some) (by rfl) h_law_with_some rfl) (pa_cons (pe_tup (pa_cons (pv 5) (pa_cons (pv 11) pa_nil))) (pa_cons (pv 7) pa_nil)))) (pe_ix (r := rIxL K) ix_list (pv 2) pe_int (fun _ _ => rfl)) (nomark _)) (pss_one (ps_ret pe_bl)) pss_nil)))))
    (pss_cons (ps_for PassesOwn.never rfl (pi_tup (pe_tup (pa_cons pe_int (pa_cons pe_int (pa_cons pe_int pa_nil))))) (pg_name (i := 12) nd rfl (Or.inl rfl)) (pss_cons (ps_set (i := 13) nd rfl (Or.inl rfl) (pe_callC (can_free T) (hr.mono (by decide)) (by rfl) (pa_cons (pv 12) (pa_cons (pv 11) pa_nil))))
    (pss_one (ps_for PassesOwn.never rfl (pi_list (pe_op op_cat (pv 4) (pe_lst (pa_cons (pv 13) (pa_cons (pe_op op_add (pv 13) (pv 1)) pa_nil))))) (pg_name (i := 7) nd rfl (Or.inl rfl)) (pss_one (ps_if (pt_cmpR (r := rNeD K) (op_neD hr.units) (pe_callC (can_law_told (P := P) (w := w) (base := base) T) (hr.mono (by decide)) (by rfl) (pa_cons (pe_glob (v := .ref f_law_with_number) (by rfl) h_law_with_number rfl) (pa_cons (pe_tup (pa_cons (pv 12) (pa_cons (pv 11) pa_nil))) (pa_cons (pv 7) pa_nil)))) (pe_ix (r := rIxL K) ix_list (pv 2) pe_int (fun _ _ => rfl)) (nomark _)) (pss_one (ps_ret pe_bl)) pss_nil))))))
    (pss_cons (ps_if (pt_cmpR (r := rNeD K) (op_neD hr.units) (pe_callC (can_law_told (P := P) (w := w) (base := base) T) (hr.mono (by decide)) (by rfl) (pa_cons (pe_glob (v := .ref f_law_with_some) (by rfl) h_law_with_some rfl) (pa_cons (pe_tup (pa_cons pe_int (pa_cons pe_int pa_nil))) (pa_cons pe_int pa_nil)))) (pe_ix (r := rIxL K) ix_list (pv 2) pe_int (fun _ _ => rfl)) (nomark _)) (pss_one (ps_ret pe_bl)) pss_nil)
    (pss_one (ps_ret (pe_and (pe_cmpR (r := rEqD K) (op_eqD hr.units) (pe_callC (can_ways T) (hr.mono (by decide)) (by rfl) (pa_cons pe_int (pa_cons (pv 11) (pa_cons (pv 11) pa_nil)))) (pe_tup (pa_cons pe_int (pa_cons pe_int pa_nil))) (nomark _)) (pe_one (pe_cmpR op_eq (pe_callC (can_place_by T) (hr.mono (by decide)) (by rfl) (pa_cons pe_int (pa_cons (pv 11) (pa_cons (pe_op op_sub (pe_callC (can_free T) (hr.mono (by decide)) (by rfl) (pa_cons pe_int (pa_cons (pv 11) pa_nil))) pe_int) pa_nil)))) (pv 11) (nomark _)))))))))))))))), ?_⟩
    obtain ⟨fr, hF⟩ : ∃ fr, valueV (ns.getD 0 0) 3 900000 = fr := ⟨_, rfl⟩
    refine q_asg (v := .int (fr : Int)) (ev_is (ev_callN (ea_cons (ev_callN (ea_cons (ev_var rfl) (ea_cons ev_c ea_nil)) (sv_law_cell_at (k := 0) hS)) (ea_cons ev_c (ea_cons ev_c ea_nil))) (sv_law_value (k := 3) (m := 900000) (hscr.cell 0) (by decide) (by decide))) (by rw [hF])) fun H1 e1 => ?_
    refine q_asgL (xs := []) (el_lst ea_nil (by show 0 ≤ 100000; decide)) fun dq H2 hdq e2 h2 => ?_
    have hdn : H dq = none := fresh_back e1 hdq
    -- what is due
    refine q_forW (n := 5) (ei_rng1 (hi := 5) (ea_cons ev_c ea_nil) (by decide)) (walk_range (lo := 0)) (fun i σ' H' => ∃ (y3 : Option V) (as : List Addr), σ' = [some (.ref a0), some (.int (fr : Int)), some (.ref dq), y3, none, none, none, none, none, none, none, none, none, none] ∧ Ex H H' ∧ H' dq = some (.lst (as.map V.ref)) ∧ as.length = i ∧ ∀ (j : Nat) (a : Addr), as[j]? = some a → H' a = some (.lst ((dueL j).map V.bl)) ∧ a ≠ dq) ?_ (fun _ _ _ _ _ => trivial) ?_ ?_
    · intro H3 e3
      exact ⟨none, [], rfl, (e1.trans e2).trans e3, e3 _ _ h2, rfl, fun j a h => by simp at h⟩
    · rintro i x σ' H3 H4 hi ⟨y3, as, rfl, ex, hd, hal, has⟩ yy
      obtain ⟨rfl, rfl⟩ := yy
      have eqk : ∀ (m : Nat) {σ2 : L2.St} {H' : Hp}, σ2[3]? = some (some (V.int ((0 : Int) + (i : Nat)))) → Ev (tOp rEq (tVar 3) (tC (.int (m : Int)))) σ2 H' (.bl (decide (i = m))) := fun m {σ2 H'} h => ev_is (ev_op (ev_var h) ev_c (rv_eq rfl)) (by rw [Rl.dec_int]; exact bl_of (by omega))
      refine s_appL (ys := (dueL i).map V.bl) hd (ev_var rfl) (el_lst (ea_cons (eqk 0 rfl) (ea_cons (eqk 1 rfl) (ea_cons (eqk 2 rfl) (ea_cons (eqk 3 rfl) (ea_cons (eqk 4 rfl) (ea_cons ev_c ea_nil)))))) (by show 6 ≤ 100000; decide)) (by rw [List.length_map, hal]; omega) fun p H5 hp e5 h5 => ⟨_, as ++ [p], rfl, Ex.mut (ex.trans e5) hdn, by rw [upd_same, List.map_append]; rfl, by rw [List.length_append, hal]; rfl, fun j a hj => ?_⟩
      have hpd : p ≠ dq := (ne_of_none hd hp).symm
      by_cases hj2 : j < as.length
      · rw [List.getElem?_append_left hj2] at hj
        obtain ⟨g1, g2⟩ := has j a hj
        exact ⟨by rw [upd_ne g2]; exact e5 _ _ g1, g2⟩
      · have hj3 : j = as.length := by
          have := (List.getElem?_eq_some_iff.mp hj).1
          rw [List.length_append, List.length_singleton] at this
          omega
        rw [hj3, List.getElem?_append_right (Nat.le_refl _), Nat.sub_self] at hj
        cases hj
        exact ⟨by rw [upd_ne hpd, hj3, hal]; exact h5, hpd⟩
    · rintro σ' H3 ⟨y3, as, rfl, ex, hd, hal, has⟩
      have hdue : DueAt H3 dq := ⟨as, hd, hal, fun j a h => (has j a h).1⟩
      clear hd has
      -- the strange things
      refine q_asgR (Pr := fun p H2 => ∃ xs, OddL K H2 p xs) (er_odds (eods_cons (eod_of ev_c fun _ => odd_non) (eods_cons (eod_of ev_c fun _ => odd_str _) (eods_cons (eod_of ev_c fun _ => odd_bl _) (eods_cons (eod_of ev_c fun _ => odd_bl _) (eods_cons (eod_L (el_lst (ea_cons ev_c ea_nil) (by show 1 ≤ 100000; decide))) (eods_cons (eod_U (eu_tup (ea_cons ev_c ea_nil) (by show 1 ≤ 100000; decide))) (eods_cons eod_D (eods_cons (eod_of (ev_un ev_c ru_neg) fun _ => odd_int (by decide)) (eods_cons (eod_of (ev_op (ev_un ev_c ru_neg) (ev_var rfl) rv_I0) fun _ => odd_int (by omega)) eods_nil)))))))))) fun sq H4 hsq e4 hod => ?_
      obtain ⟨xs, hod⟩ := hod
      have hdue4 := hdue.mono e4
      -- the doors
      refine q_forW (n := 8) (ei_rng1 (hi := 8) (ea_cons ev_c ea_nil) (by decide)) (walk_range (lo := 0)) (fun i σ' H' => ∃ y5 y6 y7 : Option V, σ' = [some (.ref a0), some (.int (fr : Int)), some (.ref dq), y3, some (.ref sq), y5, y6, y7, none, none, none, none, none, none] ∧ Ex H4 H') ?_ (fun _ _ _ _ _ => trivial) ?_ ?_
      · intro H5 e5
        exact ⟨none, none, none, rfl, e5⟩
      · rintro i x σ' H5 H6 hi ⟨y5, y6, y7, rfl, ex5⟩ yy
        obtain ⟨rfl, rfl⟩ := yy
        have ed : ∀ {σ2 : L2.St} {H' : Hp}, σ2[5]? = some (some (V.int ((0 : Int) + (i : Nat)))) → Ev (tVar 5) σ2 H' (.int ((i : Nat) : Int)) := fun h => ev_is (ev_var h) (congrArg V.int (Int.zero_add _))
        have hod5 := hod.mono ex5
        have hdue5 := hdue4.mono ex5
        refine q_asgL (el_cat (ev_var rfl) hod5.1 (el_lst (vs := [.int 0, .int 1, .int 4, .int 341, .int 561, .int 645, .int 961, .int 998, .int 1009, .int (1009 + (fr : Int))]) (ea_cons ev_c (ea_cons ev_c (ea_cons ev_c (ea_cons ev_c (ea_cons ev_c (ea_cons ev_c (ea_cons ev_c (ea_cons ev_c (ea_cons ev_c (ea_cons (ev_op ev_c (ev_var rfl) rv_I0) ea_nil)))))))))) (by show 10 ≤ 100000; decide)) (by rw [hod5.2.1]; show 9 + 10 ≤ 100000; decide)) fun pq H7 hpq e7 h7 => ?_
        have hod7 := hod5.mono e7
        have hdue7 := hdue5.mono e7
        have good : ∀ x ∈ xs ++ [.int 0, .int 1, .int 4, .int 341, .int 561, .int 645, .int 961, .int 998, .int 1009, .int (1009 + (fr : Int))], ∃ o : Option Int, Knd K H7 x o ∧ o.any primeZ = false := by
          intro x hx
          rcases List.mem_append.mp hx with h | h
          · exact (hod7.2.2 x h).any primeZ fun n hn => primeZ_neg (.inl (by omega))
          · simp only [List.mem_cons, List.not_mem_nil, or_false] at h
            rcases h with rfl | rfl | rfl | rfl | rfl | rfl | rfl | rfl | rfl | rfl
            · exact ⟨_, .int _, by decide +kernel⟩
            · exact ⟨_, .int _, by decide +kernel⟩
            · exact ⟨_, .int _, by decide +kernel⟩
            · exact ⟨_, .int _, by decide +kernel⟩
            · exact ⟨_, .int _, by decide +kernel⟩
            · exact ⟨_, .int _, by decide +kernel⟩
            · exact ⟨_, .int _, by decide +kernel⟩
            · exact ⟨_, .int _, by decide +kernel⟩
            · exact ⟨_, .int _, by decide +kernel⟩
            · exact ⟨_, .int _, primeZ_neg (.inr (by omega))⟩
        refine q_when (b := false) (et_not (a := true) (et_B (ev_allDue (q := pq) (ev_var rfl) h7 (by rw [List.length_append, hod5.2.1]; show 9 + 10 ≤ 1000; decide) fun x hx H8 R e8 kk => kk _ _ (Ex.refl _) rfl (fun H9 _ Q q => q H9 (Ex.refl H9)) ?_))) (fun h => by cases h) fun _ H8 e8 => ?_
        · obtain ⟨o, g1, g2⟩ := good x hx
          exact ev_eqDue (j := 0) (el_told (ea_cons ev_c (ea_cons (ed rfl) (ea_cons (ev_var rfl) ea_nil))) (kdP T) (asks_of (canX_law_with_prime T) (by decide) h_law_with_prime fun H9 e9 Q E kE => ⟨i, x, o, rfl, (g1.mono e8).mono e9, g2, kE⟩)) (ev_var rfl) (hdue7.mono e8) (by decide)
        · have hod8 := hod7.mono e8
          have hdue8 := hdue7.mono e8
          refine s_when (b := false) (et_not (a := true) (et_B (ev_allDue (q := sq) (ev_var rfl) hod8.1 (by rw [hod8.2.1]; decide) fun x hx H9 R e9 kk => kk _ _ (Ex.refl _) rfl (fun H10 _ Q q => q H10 (Ex.refl H10)) ?_))) (fun h => by cases h) fun _ H9 e9 => ⟨_, _, _, rfl, ((ex5.trans e7).trans e8).trans e9⟩
          obtain ⟨o, g1, g2⟩ := (hod8.2.2 x hx).any (fun n => decide (0 ≤ n)) fun n hn => decide_eq_false (by omega)
          exact ev_eqDue (j := 1) (el_told (ea_cons ev_c (ea_cons (ed rfl) (ea_cons (ev_var rfl) ea_nil))) (kdM T) (asks_of (canX_law_with_many T) (by decide) h_law_with_many fun H10 e10 Q E kE => ⟨i, x, o, rfl, (g1.mono e9).mono e10, g2, kE⟩)) (ev_var rfl) (hdue8.mono e9) (by decide)
      · rintro σ' H5 ⟨y5, y6, y7, rfl, ex5⟩
        have hod5 := hod.mono ex5
        have hdue5 := hdue4.mono ex5
        -- all numbers from 2 to 997
        refine q_forW (n := 996) (ei_rng2 (lo := 2) (hi := 998) (ea_cons ev_c (ea_cons ev_c ea_nil)) (by decide)) (walk_range (lo := 2) (n := 996)) (fun i σ' H' => ∃ y8 y9 y10 : Option V, σ' = [some (.ref a0), some (.int (fr : Int)), some (.ref dq), y3, some (.ref sq), y5, y6, y7, y8, y9, y10, none, none, none] ∧ Ex H5 H') ?_ (fun _ _ _ _ _ => trivial) ?_ ?_
        · intro H6 e6
          exact ⟨none, none, none, rfl, e6⟩
        · rintro i x σ' H6 H7 hi ⟨y8, y9, y10, rfl, ex6⟩ yy
          obtain ⟨rfl, rfl⟩ := yy
          have ek : (2 : Int) + (i : Nat) = ((i + 2 : Nat) : Int) := by omega
          show tSeq _ _ _ (List.set _ 8 (some (V.int ((2 : Int) + (i : Nat))))) H7
          rw [ek]
          obtain ⟨n, hn⟩ : ∃ n, i + 2 = n := ⟨_, rfl⟩
          rw [hn]
          have hn2 : 2 ≤ n := by omega
          have hn9 : n < 998 := by omega
          have hdue6 := hdue5.mono ex6
          refine q_asg (v := .bl (compB n)) (ev_is (v := .bl ((((List.range 30).filter fun i => decide (2 + i < n)).map fun i => decide (n % (2 + i) = 0)).any id)) (ev_cbNew (xs := given 30 (fun i => decide (2 + i < n)) fun i => V.bl (decide (n % (2 + i) = 0))) ?_ fun q H3 e3 h3 => ?_) ?_) fun H8 e8 => ?_
          · refine el_lcW (n := 30) _ _ (ei_rng2 (lo := 2) (hi := 32) (ea_cons ev_c (ea_cons ev_c ea_nil)) (by decide)) (walk_range (lo := 2) (n := 30)) (by decide) (fun _ _ => trivial) fun i x H3 H4 R e3 hi y2 kk2 => ?_
            obtain ⟨rfl, rfl⟩ := y2
            refine kk2 _ _ (Ex.refl _) rfl (et_test (ev_is (ev_op (ev_var rfl) (ev_var rfl) rv_I0) (bl_of (by omega)))) fun _ => ?_
            refine ev_is (ev_op (ev_op (ev_var rfl) (ev_var rfl) (rv_mod (by omega))) ev_c (rv_eq rfl)) ?_
            have z : ((n : Int) % (2 + (i : Int))) = ((n % (2 + i) : Nat) : Int) := by rw [Int.natCast_emod, Int.natCast_add]; rfl
            rw [z]
            exact congrArg V.bl (dec_nat _ 0)
          · refine rc_any (bs := ((List.range 30).filter fun i => decide (2 + i < n)).map fun i => decide (n % (2 + i) = 0)) ?_
            rw [List.map_map]
            exact sq_of h3
          · refine congrArg V.bl ?_
            unfold compB
            rw [List.any_map]
            rfl
          have hdue8 := hdue6.mono e8
          refine q_when (b := false) (et_is (et_and (a := compB n) (b := false) (et_B (ev_var rfl)) fun hc => et_test (ev_neDue (j := 0) (el_told (ea_cons ev_c (ea_cons (ev_op (ev_op (ev_var rfl) ev_c (rv_divN (n := n) (p := 2) (by decide) (small4 (lt_big (by decide))))) ev_c (rv_modN (n := n / 2) (p := 8) (by decide))) (ea_cons (ev_var rfl) ea_nil))) (kdP T) (asks_of (canX_law_with_prime T) (by decide) h_law_with_prime fun H9 e9 Q E kE => ⟨n / 2 % 8, .int (n : Int), some (n : Int), rfl, .int _, compB_no hn2 hn9 hc, kE⟩)) (ev_var rfl) hdue8 (by decide))) (Bool.and_false _)) (fun h => by cases h) fun _ H9 e9 => ?_
          refine s_when (b := false) (et_is (et_and (a := !compB n) (b := false) (et_not (a := compB n) (et_B (ev_var rfl))) fun hc => et_test (ev_is (Evl.ev_opLL (el_callN (ea_cons (ev_var rfl) (ea_cons (ev_var rfl) ea_nil)) (sl_figures (p := n) (n := n) (prime_of hn2 hn9 (by rw [Bool.not_eq_true'] at hc; exact hc)) (Nat.lt_trans hn9 (Nat.lt_of_lt_of_le (show 998 < 2 ^ 10 by decide) (Nat.pow_le_pow_right (by decide) (by decide)))))) (el_lst (vs := nl [0, 1]) (ea_cons ev_c (ea_cons ev_c ea_nil)) (by show 2 ≤ 100000; decide)) fun q1 q2 H10 h1 h2 e10 => rv_neD (dp_nl h1) (dp_nl h2) (ldat_shaped _) (ldat_shaped _)) (by rw [dig_self hn2, ldat_refl]; rfl))) (Bool.and_false _)) (fun h => by cases h) fun _ H10 e10 => ⟨_, _, _, rfl, ((ex6.trans e8).trans e9).trans e10⟩
        · rintro σ' H6 ⟨y8, y9, y10, rfl, ex6⟩
          have hod6 := hod5.mono ex6
          have hdue6 := hdue5.mono ex6
          have hS6 : SqL K H6 a0 (ns.map V.int) := ex_l ((((ex.trans e4).trans ex5).trans ex6)) hS
          -- many
          refine q_asgX (evx_ix0 (eu_law_pair (k := 0) (p := 5) (ea_cons (ev_var rfl) (ea_cons ev_c (ea_cons ev_c ea_nil))) hS6 hscr (by decide) (by decide) (by decide)) fun xs h => by
            obtain ⟨m, s, _, hm, rfl⟩ := h
            exact ⟨m, hm, rfl⟩) fun v H7 hv e7 => ?_
          obtain ⟨m, hm, rfl⟩ := hv
          have hm10 : m < 2 ^ 1000 := Nat.lt_of_lt_of_le hm (Nat.pow_le_pow_right (by decide) (by decide))
          have hod7 := hod6.mono e7
          have hdue7 := hdue6.mono e7
          -- the third thing
          refine q_forW (n := 3) (ei_rng1 (hi := 3) (ea_cons ev_c ea_nil) (by decide)) (walk_range (lo := 0)) (fun i σ' H' => ∃ z5 z7 : Option V, σ' = [some (.ref a0), some (.int (fr : Int)), some (.ref dq), y3, some (.ref sq), z5, y6, z7, y8, y9, y10, some (.int (m : Int)), none, none] ∧ Ex H7 H') ?_ (fun _ _ _ _ _ => trivial) ?_ ?_
          · intro H8 e8
            exact ⟨y5, y7, rfl, e8⟩
          · rintro i x σ' H8 H9 hi ⟨z5, z7, rfl, ex8⟩ yy
            obtain ⟨rfl, rfl⟩ := yy
            have hod8 := hod7.mono ex8
            have hdue8 := hdue7.mono ex8
            refine s_forWN (n := (xs ++ [V.int ((m : Int) + 1), V.int ((m : Int) + 1 + (fr : Int))]).length) (xs := xs ++ [V.int ((m : Int) + 1), V.int ((m : Int) + 1 + (fr : Int))]) (ein_list (el_cat (ev_var rfl) hod8.1 (el_lst (vs := [.int ((m : Int) + 1), .int ((m : Int) + 1 + (fr : Int))]) (ea_cons (ev_op (ev_var rfl) ev_c rv_I0) (ea_cons (ev_op (ev_op (ev_var rfl) ev_c rv_I0) (ev_var rfl) rv_I0) ea_nil)) (by show 2 ≤ 100000; decide)) (by rw [hod8.2.1]; show 9 + 2 ≤ 100000; decide))) (fun p => walk_list (xs := xs ++ [V.int ((m : Int) + 1), V.int ((m : Int) + 1 + (fr : Int))]))
              (fun p j σ' H' => ∃ z7 : Option V, σ' = [some (.ref a0), some (.int (fr : Int)), some (.ref dq), y3, some (.ref sq), some (.int ((0 : Int) + (i : Nat))), y6, z7, y8, y9, y10, some (.int (m : Int)), none, none] ∧ Ex H9 H' ∧ H' p = some (.lst (xs ++ [V.int ((m : Int) + 1), V.int ((m : Int) + 1 + (fr : Int))]))) ?_ ?_ ?_ ?_
            · intro p H10 hp e10 h10
              exact ⟨z7, rfl, e10, h10⟩
            · rintro p j σ' H' _ ⟨_, _, _, h⟩
              exact sq_of h
            · rintro p j x σ' H10 H11 hj ⟨z7, rfl, ex10, hp⟩ yy
              obtain ⟨rfl, hx⟩ := yy
              have good : ∃ o : Option Int, Knd K H11 x o ∧ (o.any fun s => decide (0 ≤ s) && decide (s ≤ (m : Int))) = false := by
                rcases List.mem_append.mp (List.mem_of_getElem? hx) with h | h
                · exact ((hod8.mono ex10).2.2 x h).any (fun s => decide (0 ≤ s) && decide (s ≤ (m : Int))) fun n hn => and_l (decide_eq_false (show ¬ 0 ≤ n by omega))
                · simp only [List.mem_cons, List.not_mem_nil, or_false] at h
                  rcases h with rfl | rfl
                  · exact ⟨_, .int _, any_r (by omega)⟩
                  · exact ⟨_, .int _, any_r (by omega)⟩
              obtain ⟨o, g1, g2⟩ := good
              exact s_when (b := false) (et_test (ev_neDue (j := 2) (el_toldU ev_c (eu_tup (vs := [.int ((i : Nat) : Int), .int (m : Int)]) (ea_cons (ev_is (ev_var rfl) (congrArg V.int (Int.zero_add _))) (ea_cons (ev_var rfl) ea_nil)) (by show 2 ≤ 100000; decide)) (ev_var rfl) (kdS T) fun q H1 e h => asks_of (canX_law_with_some T) (by decide) h_law_with_some fun H2 e2 Q E kE => ⟨q, i, m, x, cBadSome, rfl, e2 _ _ h, .inl ⟨o, (g1.mono e).mono e2, g2, rfl⟩, kE⟩) (ev_var rfl) (hdue8.mono ex10) (by decide))) (fun h => by cases h) fun _ H12 e12 => ⟨_, rfl, ex10.trans e12, e12 _ _ hp⟩
            · rintro p σ' H10 ⟨z7, rfl, ex10, _⟩
              exact ⟨_, _, rfl, ex8.trans ex10⟩
          · rintro σ' H8 ⟨z5, z7, rfl, ex8⟩
            have hod8 := hod7.mono ex8
            have hdue8 := hdue7.mono ex8
            -- the number
            refine q_forWP (n := 3) (eip_tup (xs := nl [2, 5, 997]) (eu_tup (ea_cons ev_c (ea_cons ev_c (ea_cons ev_c ea_nil))) (by show 3 ≤ 100000; decide))) (fun q => walk_tup (xs := nl [2, 5, 997]))
              (fun q j σ' H' => ∃ z7 z12 z13 : Option V, σ' = [some (.ref a0), some (.int (fr : Int)), some (.ref dq), y3, some (.ref sq), z5, y6, z7, y8, y9, y10, some (.int (m : Int)), z12, z13] ∧ Ex H8 H' ∧ H' q = some (.tup (nl [2, 5, 997]))) ?_ ?_ ?_ ?_
            · intro q H9 hq e9 h9
              exact ⟨_, _, _, rfl, e9, h9⟩
            · rintro q j σ' H' _ ⟨_, _, _, _, _, h⟩
              exact st_of h
            · rintro q j x σ' H9 H10 hj ⟨z7, z12, z13, rfl, ex9, hq⟩ yy
              obtain ⟨rfl, hx⟩ := yy
              obtain ⟨t, ht, rfl⟩ := nl_some hx
              have hpz : primeZ (t : Int) = true := by
                have := List.mem_of_getElem? ht
                simp only [List.mem_cons, List.not_mem_nil, or_false] at this
                rcases this with rfl | rfl | rfl <;> decide +kernel
              refine q_asg (v := .int (Cc.cnt t m : Int)) (ev_callN (ea_cons (ev_var rfl) (ea_cons (ev_var rfl) ea_nil)) (sv_free hpz hm10)) fun H11 e11 => ?_
              have hod11 := (hod8.mono ex9).mono e11
              have hdue11 := (hdue8.mono ex9).mono e11
              refine s_forWN (n := (xs ++ [V.int (Cc.cnt t m : Int), V.int ((Cc.cnt t m : Int) + (fr : Int))]).length) (xs := xs ++ [V.int (Cc.cnt t m : Int), V.int ((Cc.cnt t m : Int) + (fr : Int))]) (ein_list (el_cat (ev_var rfl) hod11.1 (el_lst (vs := [.int (Cc.cnt t m : Int), .int ((Cc.cnt t m : Int) + (fr : Int))]) (ea_cons (ev_var rfl) (ea_cons (ev_op (ev_var rfl) (ev_var rfl) rv_I0) ea_nil)) (by show 2 ≤ 100000; decide)) (by rw [hod11.2.1]; show 9 + 2 ≤ 100000; decide))) (fun p => walk_list (xs := xs ++ [V.int (Cc.cnt t m : Int), V.int ((Cc.cnt t m : Int) + (fr : Int))]))
                (fun p j σ' H' => ∃ z7 : Option V, σ' = [some (.ref a0), some (.int (fr : Int)), some (.ref dq), y3, some (.ref sq), z5, y6, z7, y8, y9, y10, some (.int (m : Int)), some (.int (t : Int)), some (.int (Cc.cnt t m : Int))] ∧ Ex H11 H' ∧ H' p = some (.lst (xs ++ [V.int (Cc.cnt t m : Int), V.int ((Cc.cnt t m : Int) + (fr : Int))]))) ?_ ?_ ?_ ?_
              · intro p H12 hp e12 h12
                exact ⟨_, rfl, e12, h12⟩
              · rintro p j σ' H' _ ⟨_, _, _, h⟩
                exact sq_of h
              · rintro p j x σ' H12 H13 hj ⟨z7, rfl, ex12, hp⟩ yy
                obtain ⟨rfl, hx⟩ := yy
                have good : ∃ o : Option Int, Knd K H13 x o ∧ (o.any fun s => decide (0 ≤ s) && decide (s ≤ (Cc.cnt t m : Int) - 1)) = false := by
                  rcases List.mem_append.mp (List.mem_of_getElem? hx) with h | h
                  · exact ((hod11.mono ex12).2.2 x h).any (fun s => decide (0 ≤ s) && decide (s ≤ (Cc.cnt t m : Int) - 1)) fun n hn => and_l (decide_eq_false (show ¬ 0 ≤ n by omega))
                  · simp only [List.mem_cons, List.not_mem_nil, or_false] at h
                    rcases h with rfl | rfl
                    · exact ⟨_, .int _, any_r (by omega)⟩
                    · exact ⟨_, .int _, any_r (by omega)⟩
                obtain ⟨o, g1, g2⟩ := good
                exact s_when (b := false) (et_test (ev_neDue (j := 3) (el_toldU ev_c (eu_tup (vs := [.int (t : Int), .int (m : Int)]) (ea_cons (ev_var rfl) (ea_cons (ev_var rfl) ea_nil)) (by show 2 ≤ 100000; decide)) (ev_var rfl) (kdB T) fun q H1 e h => asks_of (canX_law_with_number T) (by decide) h_law_with_number fun H2 e2 Q E kE => ⟨q, t, m, x, o, rfl, e2 _ _ h, hpz, hm10, (g1.mono e).mono e2, g2, kE⟩) (ev_var rfl) (hdue11.mono ex12) (by decide))) (fun h => by cases h) fun _ H14 e14 => ⟨_, rfl, ex12.trans e14, e14 _ _ hp⟩
              · rintro p σ' H12 ⟨z7, rfl, ex12, _⟩
                exact ⟨_, _, _, rfl, (ex9.trans e11).trans ex12, ex12 _ _ (e11 _ _ hq)⟩
            · rintro q σ' H9 ⟨z7, z12, z13, rfl, ex9, _⟩
              have hdue9 := hdue8.mono ex9
              have nc : (4 : Nat) < 2 ^ 1000 := Nat.lt_of_lt_of_le (show 4 < 2 ^ 3 by decide) (Nat.pow_le_pow_right (by decide) (by decide))
              refine q_when (b := false) (et_test (ev_neDue (j := 4) (el_toldU (y := .int ((2 : Nat) : Int)) ev_c (eu_tup (vs := [.int ((2 : Nat) : Int), .int ((4 : Nat) : Int)]) (ea_cons (ev_is ev_c rfl) (ea_cons (ev_is ev_c rfl) ea_nil)) (by show 2 ≤ 100000; decide)) (ev_is ev_c rfl) (kdN T) fun q H1 e h => asks_of (canX_law_with_some T) (by decide) h_law_with_some fun H2 e2 Q E kE => ⟨q, 2, 4, .int ((2 : Nat) : Int), cNotFree, rfl, e2 _ _ h, .inr ⟨2, by decide, rfl, nc, by decide, by decide +kernel, rfl⟩, kE⟩) (ev_var rfl) hdue9 (by decide))) (fun h => by cases h) fun _ H10 e10 => ?_
              have w3 := ways_self (p := 3) (n := m) (pr_of (by decide +kernel))
              have p2 : primeZ ((2 : Nat) : Int) = true := by decide +kernel
              have nl2 := numb_last (p := 2) (n := m) (by decide)
              refine s_ret (ev_andV (a := true) (b := true) (ev_is (ev_opUU (eu_call (ea_cons ev_c (ea_cons (ev_var rfl) (ea_cons (ev_var rfl) ea_nil))) (su_ways (p := 3) (n := m) (s := m) (by decide +kernel) hm10 (Nat.le_refl _))) (eu_tup (vs := [.int 0, .int 1]) (ea_cons ev_c (ea_cons ev_c ea_nil)) (by show 2 ≤ 100000; decide)) fun q1 q2 H11 h1 h2 e11 => rv_eqD (dp_two (st_of h1)) (dp_two (st_of h2)) (two_shaped _ _) (two_shaped _ _)) ?_) fun _ => ev_is (ev_op (ev_callN (ea_cons ev_c (ea_cons (ev_var rfl) (ea_cons (ev_op (ev_callN (ea_cons ev_c (ea_cons (ev_var rfl) ea_nil)) (sv_free (p := 2) (n := m) p2 hm10)) ev_c (rv_subN (n := Cc.cnt 2 m) (m := 1) (cnt_pos 2 m))) ea_nil))) (sv_place_by (p := 2) (n := m) (j := Cc.cnt 2 m - 1) p2 hm10 nl2.1)) (ev_var rfl) (rv_eq rfl)) (by rw [nl2.2, decide_eq_true rfl])) fun H11 _ => k H11
              rw [two_eqv, w3.1, w3.2]
              rfl
end

/-! ### what the top has written, and the law's own head -/
theorem all_mk {P : Program} {w : World} {K : PySem.W.Frag} {h : Heap} {mg : Str → Option Value} {fa cChooseError cBadPrime cBadMany cBadSome cBadNumber cNotFree cAnswer cFree cBound : Addr} (X : K.In h) (G : h.Ns mainGlobals mg) (hfa0 : mg "law" = some (.ref fa))
    {f0 : Addr} {od0 an0 : Option Addr} {sl0 : Array (Option Value)} {oc0 kV0 dc0 pm0 cd0 ct0 : Value}
    {f1 : Addr} {od1 an1 : Option Addr} {sl1 : Array (Option Value)} {oc1 kV1 dc1 pm1 cd1 ct1 : Value}
    {f2 : Addr} {od2 an2 : Option Addr} {sl2 : Array (Option Value)} {oc2 kV2 dc2 pm2 cd2 ct2 : Value}
    {f3 : Addr} {od3 an3 : Option Addr} {sl3 : Array (Option Value)} {oc3 kV3 dc3 pm3 cd3 ct3 : Value}
    {f4 : Addr} {od4 an4 : Option Addr} {sl4 : Array (Option Value)} {oc4 kV4 dc4 pm4 cd4 ct4 : Value}
    {f5 : Addr} {od5 an5 : Option Addr} {sl5 : Array (Option Value)} {oc5 kV5 dc5 pm5 cd5 ct5 : Value}
    {f6 : Addr} {od6 an6 : Option Addr} {sl6 : Array (Option Value)} {oc6 kV6 dc6 pm6 cd6 ct6 : Value}
    {f7 : Addr} {od7 an7 : Option Addr} {sl7 : Array (Option Value)} {oc7 kV7 dc7 pm7 cd7 ct7 : Value}
    {f8 : Addr} {od8 an8 : Option Addr} {sl8 : Array (Option Value)} {oc8 kV8 dc8 pm8 cd8 ct8 : Value}
    {f9 : Addr} {od9 an9 : Option Addr} {sl9 : Array (Option Value)} {oc9 kV9 dc9 pm9 cd9 ct9 : Value}
    {f10 : Addr} {od10 an10 : Option Addr} {sl10 : Array (Option Value)} {oc10 kV10 dc10 pm10 cd10 ct10 : Value}
    {f11 : Addr} {od11 an11 : Option Addr} {sl11 : Array (Option Value)} {oc11 kV11 dc11 pm11 cd11 ct11 : Value}
    {f12 : Addr} {od12 an12 : Option Addr} {sl12 : Array (Option Value)} {oc12 kV12 dc12 pm12 cd12 ct12 : Value}
    {f13 : Addr} {od13 an13 : Option Addr} {sl13 : Array (Option Value)} {oc13 kV13 dc13 pm13 cd13 ct13 : Value}
    {f14 : Addr} {od14 an14 : Option Addr} {sl14 : Array (Option Value)} {oc14 kV14 dc14 pm14 cd14 ct14 : Value}
    {f15 : Addr} {od15 an15 : Option Addr} {sl15 : Array (Option Value)} {oc15 kV15 dc15 pm15 cd15 ct15 : Value}
    {f16 : Addr} {od16 an16 : Option Addr} {sl16 : Array (Option Value)} {oc16 kV16 dc16 pm16 cd16 ct16 : Value}
    {f17 : Addr} {od17 an17 : Option Addr} {sl17 : Array (Option Value)} {oc17 kV17 dc17 pm17 cd17 ct17 : Value}
    {f18 : Addr} {od18 an18 : Option Addr} {sl18 : Array (Option Value)} {oc18 kV18 dc18 pm18 cd18 ct18 : Value}
    {f19 : Addr} {od19 an19 : Option Addr} {sl19 : Array (Option Value)} {oc19 kV19 dc19 pm19 cd19 ct19 : Value}
    {f20 : Addr} {od20 an20 : Option Addr} {sl20 : Array (Option Value)} {oc20 kV20 dc20 pm20 cd20 ct20 : Value}
    {f21 : Addr} {od21 an21 : Option Addr} {sl21 : Array (Option Value)} {oc21 kV21 dc21 pm21 cd21 ct21 : Value}
    {f22 : Addr} {od22 an22 : Option Addr} {sl22 : Array (Option Value)} {oc22 kV22 dc22 pm22 cd22 ct22 : Value}
    {f23 : Addr} {od23 an23 : Option Addr} {sl23 : Array (Option Value)} {oc23 kV23 dc23 pm23 cd23 ct23 : Value}
    {f24 : Addr} {od24 an24 : Option Addr} {sl24 : Array (Option Value)} {oc24 kV24 dc24 pm24 cd24 ct24 : Value}
    {f25 : Addr} {od25 an25 : Option Addr} {sl25 : Array (Option Value)} {oc25 kV25 dc25 pm25 cd25 ct25 : Value}
    {f26 : Addr} {od26 an26 : Option Addr} {sl26 : Array (Option Value)} {oc26 kV26 dc26 pm26 cd26 ct26 : Value}
    {f27 : Addr} {od27 an27 : Option Addr} {sl27 : Array (Option Value)} {oc27 kV27 dc27 pm27 cd27 ct27 : Value}
    {f28 : Addr} {od28 an28 : Option Addr} {sl28 : Array (Option Value)} {oc28 kV28 dc28 pm28 cd28 ct28 : Value}
    {f29 : Addr} {od29 an29 : Option Addr} {sl29 : Array (Option Value)} {oc29 kV29 dc29 pm29 cd29 ct29 : Value}
    {f30 : Addr} {od30 an30 : Option Addr} {sl30 : Array (Option Value)} {oc30 kV30 dc30 pm30 cd30 ct30 : Value}
    {f31 : Addr} {od31 an31 : Option Addr} {sl31 : Array (Option Value)} {oc31 kV31 dc31 pm31 cd31 ct31 : Value}
    {f32 : Addr} {od32 an32 : Option Addr} {sl32 : Array (Option Value)} {oc32 kV32 dc32 pm32 cd32 ct32 : Value}
    {f33 : Addr} {od33 an33 : Option Addr} {sl33 : Array (Option Value)} {oc33 kV33 dc33 pm33 cd33 ct33 : Value}
    {f34 : Addr} {od34 an34 : Option Addr} {sl34 : Array (Option Value)} {oc34 kV34 dc34 pm34 cd34 ct34 : Value}
    {f35 : Addr} {od35 an35 : Option Addr} {sl35 : Array (Option Value)} {oc35 kV35 dc35 pm35 cd35 ct35 : Value}
    {f36 : Addr} {od36 an36 : Option Addr} {sl36 : Array (Option Value)} {oc36 kV36 dc36 pm36 cd36 ct36 : Value}
    {f37 : Addr} {od37 an37 : Option Addr} {sl37 : Array (Option Value)} {oc37 kV37 dc37 pm37 cd37 ct37 : Value}
    {f38 : Addr} {od38 an38 : Option Addr} {sl38 : Array (Option Value)} {oc38 kV38 dc38 pm38 cd38 ct38 : Value}
    {f39 : Addr} {od39 an39 : Option Addr} {sl39 : Array (Option Value)} {oc39 kV39 dc39 pm39 cd39 ct39 : Value}
    {f40 : Addr} {od40 an40 : Option Addr} {sl40 : Array (Option Value)} {oc40 kV40 dc40 pm40 cd40 ct40 : Value}
    {f41 : Addr} {od41 an41 : Option Addr} {sl41 : Array (Option Value)} {oc41 kV41 dc41 pm41 cd41 ct41 : Value}
    {gt0 : Tok}
    (aC0 : PySem.W.nsIn K mainGlobals "ChooseError" = some (some (.ref cChooseError)))
    (aC1 : PySem.W.nsIn K mainGlobals "BadPrime" = some (some (.ref cBadPrime)))
    (aC2 : PySem.W.nsIn K mainGlobals "BadMany" = some (some (.ref cBadMany)))
    (aC3 : PySem.W.nsIn K mainGlobals "BadSome" = some (some (.ref cBadSome)))
    (aC4 : PySem.W.nsIn K mainGlobals "BadNumber" = some (some (.ref cBadNumber)))
    (aC5 : PySem.W.nsIn K mainGlobals "NotFree" = some (some (.ref cNotFree)))
    (aC6 : PySem.W.nsIn K mainGlobals "Answer" = some (some (.ref cAnswer)))
    (aC7 : PySem.W.nsIn K mainGlobals "Free" = some (some (.ref cFree)))
    (aC8 : PySem.W.nsIn K mainGlobals "Bound" = some (some (.ref cBound)))
    (a0 : PySem.W.nsIn K mainGlobals "is_whole" = some (some (.ref f0)))
    (l0 : K.lookup f0 = some ⟨oc0, od0, .func (PySem.W.fnOf "is_whole" "is_whole" (defArgs s_is_whole) (defBody s_is_whole) (defScope s_is_whole) .none kV0 dc0 pm0 an0 cd0 ct0), sl0⟩)
    (c0 : PySem.W.codeIn K cd0 "is_whole" = true)
    (k0 : PySem.W.keepIn K (.ref f0) = true)
    (a1 : PySem.W.nsIn K mainGlobals "is_prime" = some (some (.ref f1)))
    (l1 : K.lookup f1 = some ⟨oc1, od1, .func (PySem.W.fnOf "is_prime" "is_prime" (defArgs s_is_prime) (defBody s_is_prime) (defScope s_is_prime) .none kV1 dc1 pm1 an1 cd1 ct1), sl1⟩)
    (c1 : PySem.W.codeIn K cd1 "is_prime" = true)
    (k1 : PySem.W.keepIn K (.ref f1) = true)
    (a2 : PySem.W.nsIn K mainGlobals "is_between" = some (some (.ref f2)))
    (l2 : K.lookup f2 = some ⟨oc2, od2, .func (PySem.W.fnOf "is_between" "is_between" (defArgs s_is_between) (defBody s_is_between) (defScope s_is_between) .none kV2 dc2 pm2 an2 cd2 ct2), sl2⟩)
    (c2 : PySem.W.codeIn K cd2 "is_between" = true)
    (k2 : PySem.W.keepIn K (.ref f2) = true)
    (a3 : PySem.W.nsIn K mainGlobals "is_many" = some (some (.ref f3)))
    (l3 : K.lookup f3 = some ⟨oc3, od3, .func (PySem.W.fnOf "is_many" "is_many" (defArgs s_is_many) (defBody s_is_many) (defScope s_is_many) .none kV3 dc3 pm3 an3 cd3 ct3), sl3⟩)
    (c3 : PySem.W.codeIn K cd3 "is_many" = true)
    (k3 : PySem.W.keepIn K (.ref f3) = true)
    (a4 : PySem.W.nsIn K mainGlobals "check_row" = some (some (.ref f4)))
    (l4 : K.lookup f4 = some ⟨oc4, od4, .func (PySem.W.fnOf "check_row" "check_row" (defArgs s_check_row) (defBody s_check_row) (defScope s_check_row) .none kV4 dc4 pm4 an4 cd4 ct4), sl4⟩)
    (c4 : PySem.W.codeIn K cd4 "check_row" = true)
    (k4 : PySem.W.keepIn K (.ref f4) = true)
    (a5 : PySem.W.nsIn K mainGlobals "check_pick" = some (some (.ref f5)))
    (l5 : K.lookup f5 = some ⟨oc5, od5, .func (PySem.W.fnOf "check_pick" "check_pick" (defArgs s_check_pick) (defBody s_check_pick) (defScope s_check_pick) .none kV5 dc5 pm5 an5 cd5 ct5), sl5⟩)
    (c5 : PySem.W.codeIn K cd5 "check_pick" = true)
    (k5 : PySem.W.keepIn K (.ref f5) = true)
    (a6 : PySem.W.nsIn K mainGlobals "paired" = some (some (.ref f6)))
    (l6 : K.lookup f6 = some ⟨oc6, od6, .func (PySem.W.fnOf "paired" "paired" (defArgs s_paired) (defBody s_paired) (defScope s_paired) .none kV6 dc6 pm6 an6 cd6 ct6), sl6⟩)
    (c6 : PySem.W.codeIn K cd6 "paired" = true)
    (k6 : PySem.W.keepIn K (.ref f6) = true)
    (a7 : PySem.W.nsIn K mainGlobals "towers" = some (some (.ref f7)))
    (l7 : K.lookup f7 = some ⟨oc7, od7, .func (PySem.W.fnOf "towers" "towers" (defArgs s_towers) (defBody s_towers) (defScope s_towers) .none kV7 dc7 pm7 an7 cd7 ct7), sl7⟩)
    (c7 : PySem.W.codeIn K cd7 "towers" = true)
    (k7 : PySem.W.keepIn K (.ref f7) = true)
    (a8 : PySem.W.nsIn K mainGlobals "taken_apart" = some (some (.ref f8)))
    (l8 : K.lookup f8 = some ⟨oc8, od8, .func (PySem.W.fnOf "taken_apart" "taken_apart" (defArgs s_taken_apart) (defBody s_taken_apart) (defScope s_taken_apart) .none kV8 dc8 pm8 an8 cd8 ct8), sl8⟩)
    (c8 : PySem.W.codeIn K cd8 "taken_apart" = true)
    (k8 : PySem.W.keepIn K (.ref f8) = true)
    (a9 : PySem.W.nsIn K mainGlobals "put_together" = some (some (.ref f9)))
    (l9 : K.lookup f9 = some ⟨oc9, od9, .func (PySem.W.fnOf "put_together" "put_together" (defArgs s_put_together) (defBody s_put_together) (defScope s_put_together) .none kV9 dc9 pm9 an9 cd9 ct9), sl9⟩)
    (c9 : PySem.W.codeIn K cd9 "put_together" = true)
    (k9 : PySem.W.keepIn K (.ref f9) = true)
    (a10 : PySem.W.nsIn K mainGlobals "figures_of" = some (some (.ref f10)))
    (l10 : K.lookup f10 = some ⟨oc10, od10, .func (PySem.W.fnOf "figures_of" "figures_of" (defArgs s_figures_of) (defBody s_figures_of) (defScope s_figures_of) .none kV10 dc10 pm10 an10 cd10 ct10), sl10⟩)
    (c10 : PySem.W.codeIn K cd10 "figures_of" = true)
    (k10 : PySem.W.keepIn K (.ref f10) = true)
    (a11 : PySem.W.nsIn K mainGlobals "products_left" = some (some (.ref f11)))
    (l11 : K.lookup f11 = some ⟨oc11, od11, .func (PySem.W.fnOf "products_left" "products_left" (defArgs s_products_left) (defBody s_products_left) (defScope s_products_left) .none kV11 dc11 pm11 an11 cd11 ct11), sl11⟩)
    (c11 : PySem.W.codeIn K cd11 "products_left" = true)
    (k11 : PySem.W.keepIn K (.ref f11) = true)
    (a12 : PySem.W.nsIn K mainGlobals "product_of" = some (some (.ref f12)))
    (l12 : K.lookup f12 = some ⟨oc12, od12, .func (PySem.W.fnOf "product_of" "product_of" (defArgs s_product_of) (defBody s_product_of) (defScope s_product_of) .none kV12 dc12 pm12 an12 cd12 ct12), sl12⟩)
    (c12 : PySem.W.codeIn K cd12 "product_of" = true)
    (k12 : PySem.W.keepIn K (.ref f12) = true)
    (a13 : PySem.W.nsIn K mainGlobals "inverse" = some (some (.ref f13)))
    (l13 : K.lookup f13 = some ⟨oc13, od13, .func (PySem.W.fnOf "inverse" "inverse" (defArgs s_inverse) (defBody s_inverse) (defScope s_inverse) .none kV13 dc13 pm13 an13 cd13 ct13), sl13⟩)
    (c13 : PySem.W.codeIn K cd13 "inverse" = true)
    (k13 : PySem.W.keepIn K (.ref f13) = true)
    (a14 : PySem.W.nsIn K mainGlobals "ways_of" = some (some (.ref f14)))
    (l14 : K.lookup f14 = some ⟨oc14, od14, .func (PySem.W.fnOf "ways_of" "ways_of" (defArgs s_ways_of) (defBody s_ways_of) (defScope s_ways_of) .none kV14 dc14 pm14 an14 cd14 ct14), sl14⟩)
    (c14 : PySem.W.codeIn K cd14 "ways_of" = true)
    (k14 : PySem.W.keepIn K (.ref f14) = true)
    (a15 : PySem.W.nsIn K mainGlobals "bound_places" = some (some (.ref f15)))
    (l15 : K.lookup f15 = some ⟨oc15, od15, .func (PySem.W.fnOf "bound_places" "bound_places" (defArgs s_bound_places) (defBody s_bound_places) (defScope s_bound_places) .none kV15 dc15 pm15 an15 cd15 ct15), sl15⟩)
    (c15 : PySem.W.codeIn K cd15 "bound_places" = true)
    (k15 : PySem.W.keepIn K (.ref f15) = true)
    (a16 : PySem.W.nsIn K mainGlobals "figures" = some (some (.ref f16)))
    (l16 : K.lookup f16 = some ⟨oc16, od16, .func (PySem.W.fnOf "figures" "figures" (defArgs s_figures) (defBody s_figures) (defScope s_figures) .none kV16 dc16 pm16 an16 cd16 ct16), sl16⟩)
    (c16 : PySem.W.codeIn K cd16 "figures" = true)
    (k16 : PySem.W.keepIn K (.ref f16) = true)
    (a17 : PySem.W.nsIn K mainGlobals "product" = some (some (.ref f17)))
    (l17 : K.lookup f17 = some ⟨oc17, od17, .func (PySem.W.fnOf "product" "product" (defArgs s_product) (defBody s_product) (defScope s_product) .none kV17 dc17 pm17 an17 cd17 ct17), sl17⟩)
    (c17 : PySem.W.codeIn K cd17 "product" = true)
    (k17 : PySem.W.keepIn K (.ref f17) = true)
    (a18 : PySem.W.nsIn K mainGlobals "row_towers" = some (some (.ref f18)))
    (l18 : K.lookup f18 = some ⟨oc18, od18, .func (PySem.W.fnOf "row_towers" "row_towers" (defArgs s_row_towers) (defBody s_row_towers) (defScope s_row_towers) .none kV18 dc18 pm18 an18 cd18 ct18), sl18⟩)
    (c18 : PySem.W.codeIn K cd18 "row_towers" = true)
    (k18 : PySem.W.keepIn K (.ref f18) = true)
    (a19 : PySem.W.nsIn K mainGlobals "free" = some (some (.ref f19)))
    (l19 : K.lookup f19 = some ⟨oc19, od19, .func (PySem.W.fnOf "free" "free" (defArgs s_free) (defBody s_free) (defScope s_free) .none kV19 dc19 pm19 an19 cd19 ct19), sl19⟩)
    (c19 : PySem.W.codeIn K cd19 "free" = true)
    (k19 : PySem.W.keepIn K (.ref f19) = true)
    (a20 : PySem.W.nsIn K mainGlobals "most" = some (some (.ref f20)))
    (l20 : K.lookup f20 = some ⟨oc20, od20, .func (PySem.W.fnOf "most" "most" (defArgs s_most) (defBody s_most) (defScope s_most) .none kV20 dc20 pm20 an20 cd20 ct20), sl20⟩)
    (c20 : PySem.W.codeIn K cd20 "most" = true)
    (k20 : PySem.W.keepIn K (.ref f20) = true)
    (a21 : PySem.W.nsIn K mainGlobals "place_by" = some (some (.ref f21)))
    (l21 : K.lookup f21 = some ⟨oc21, od21, .func (PySem.W.fnOf "place_by" "place_by" (defArgs s_place_by) (defBody s_place_by) (defScope s_place_by) .none kV21 dc21 pm21 an21 cd21 ct21), sl21⟩)
    (c21 : PySem.W.codeIn K cd21 "place_by" = true)
    (k21 : PySem.W.keepIn K (.ref f21) = true)
    (a22 : PySem.W.nsIn K mainGlobals "number_of" = some (some (.ref f22)))
    (l22 : K.lookup f22 = some ⟨oc22, od22, .func (PySem.W.fnOf "number_of" "number_of" (defArgs s_number_of) (defBody s_number_of) (defScope s_number_of) .none kV22 dc22 pm22 an22 cd22 ct22), sl22⟩)
    (c22 : PySem.W.codeIn K cd22 "number_of" = true)
    (k22 : PySem.W.keepIn K (.ref f22) = true)
    (a23 : PySem.W.nsIn K mainGlobals "ways" = some (some (.ref f23)))
    (l23 : K.lookup f23 = some ⟨oc23, od23, .func (PySem.W.fnOf "ways" "ways" (defArgs s_ways) (defBody s_ways) (defScope s_ways) .none kV23 dc23 pm23 an23 cd23 ct23), sl23⟩)
    (c23 : PySem.W.codeIn K cd23 "ways" = true)
    (k23 : PySem.W.keepIn K (.ref f23) = true)
    (a24 : PySem.W.nsIn K mainGlobals "told" = some (some (.ref f24)))
    (l24 : K.lookup f24 = some ⟨oc24, od24, .func (PySem.W.fnOf "told" "told" (defArgs s_told) (defBody s_told) (defScope s_told) .none kV24 dc24 pm24 an24 cd24 ct24), sl24⟩)
    (c24 : PySem.W.codeIn K cd24 "told" = true)
    (k24 : PySem.W.keepIn K (.ref f24) = true)
    (a25 : PySem.W.nsIn K mainGlobals "_law_cell_at" = some (some (.ref f25)))
    (l25 : K.lookup f25 = some ⟨oc25, od25, .func (PySem.W.fnOf "_law_cell_at" "_law_cell_at" (defArgs s_law_cell_at) (defBody s_law_cell_at) (defScope s_law_cell_at) .none kV25 dc25 pm25 an25 cd25 ct25), sl25⟩)
    (c25 : PySem.W.codeIn K cd25 "_law_cell_at" = true)
    (k25 : PySem.W.keepIn K (.ref f25) = true)
    (a26 : PySem.W.nsIn K mainGlobals "_law_draw" = some (some (.ref f26)))
    (l26 : K.lookup f26 = some ⟨oc26, od26, .func (PySem.W.fnOf "_law_draw" "_law_draw" (defArgs s_law_draw) (defBody s_law_draw) (defScope s_law_draw) .none kV26 dc26 pm26 an26 cd26 ct26), sl26⟩)
    (c26 : PySem.W.codeIn K cd26 "_law_draw" = true)
    (k26 : PySem.W.keepIn K (.ref f26) = true)
    (a27 : PySem.W.nsIn K mainGlobals "_law_value" = some (some (.ref f27)))
    (l27 : K.lookup f27 = some ⟨oc27, od27, .func (PySem.W.fnOf "_law_value" "_law_value" (defArgs s_law_value) (defBody s_law_value) (defScope s_law_value) .none kV27 dc27 pm27 an27 cd27 ct27), sl27⟩)
    (c27 : PySem.W.codeIn K cd27 "_law_value" = true)
    (k27 : PySem.W.keepIn K (.ref f27) = true)
    (a28 : PySem.W.nsIn K mainGlobals "_law_figures" = some (some (.ref f28)))
    (l28 : K.lookup f28 = some ⟨oc28, od28, .func (PySem.W.fnOf "_law_figures" "_law_figures" (defArgs s_law_figures) (defBody s_law_figures) (defScope s_law_figures) .none kV28 dc28 pm28 an28 cd28 ct28), sl28⟩)
    (c28 : PySem.W.codeIn K cd28 "_law_figures" = true)
    (k28 : PySem.W.keepIn K (.ref f28) = true)
    (a29 : PySem.W.nsIn K mainGlobals "_law_worth" = some (some (.ref f29)))
    (l29 : K.lookup f29 = some ⟨oc29, od29, .func (PySem.W.fnOf "_law_worth" "_law_worth" (defArgs s_law_worth) (defBody s_law_worth) (defScope s_law_worth) .none kV29 dc29 pm29 an29 cd29 ct29), sl29⟩)
    (c29 : PySem.W.codeIn K cd29 "_law_worth" = true)
    (k29 : PySem.W.keepIn K (.ref f29) = true)
    (a30 : PySem.W.nsIn K mainGlobals "_law_pair" = some (some (.ref f30)))
    (l30 : K.lookup f30 = some ⟨oc30, od30, .func (PySem.W.fnOf "_law_pair" "_law_pair" (defArgs s_law_pair) (defBody s_law_pair) (defScope s_law_pair) .none kV30 dc30 pm30 an30 cd30 ct30), sl30⟩)
    (c30 : PySem.W.codeIn K cd30 "_law_pair" = true)
    (k30 : PySem.W.keepIn K (.ref f30) = true)
    (a31 : PySem.W.nsIn K mainGlobals "_law_kinds" = some (some (.ref f31)))
    (l31 : K.lookup f31 = some ⟨oc31, od31, .func (PySem.W.fnOf "_law_kinds" "_law_kinds" (defArgs s_law_kinds) (defBody s_law_kinds) (defScope s_law_kinds) .none kV31 dc31 pm31 an31 cd31 ct31), sl31⟩)
    (c31 : PySem.W.codeIn K cd31 "_law_kinds" = true)
    (k31 : PySem.W.keepIn K (.ref f31) = true)
    (a32 : PySem.W.nsIn K mainGlobals "_law_with_prime" = some (some (.ref f32)))
    (l32 : K.lookup f32 = some ⟨oc32, od32, .func (PySem.W.fnOf "_law_with_prime" "_law_with_prime" (defArgs s_law_with_prime) (defBody s_law_with_prime) (defScope s_law_with_prime) .none kV32 dc32 pm32 an32 cd32 ct32), sl32⟩)
    (c32 : PySem.W.codeIn K cd32 "_law_with_prime" = true)
    (k32 : PySem.W.keepIn K (.ref f32) = true)
    (a33 : PySem.W.nsIn K mainGlobals "_law_with_many" = some (some (.ref f33)))
    (l33 : K.lookup f33 = some ⟨oc33, od33, .func (PySem.W.fnOf "_law_with_many" "_law_with_many" (defArgs s_law_with_many) (defBody s_law_with_many) (defScope s_law_with_many) .none kV33 dc33 pm33 an33 cd33 ct33), sl33⟩)
    (c33 : PySem.W.codeIn K cd33 "_law_with_many" = true)
    (k33 : PySem.W.keepIn K (.ref f33) = true)
    (a34 : PySem.W.nsIn K mainGlobals "_law_with_some" = some (some (.ref f34)))
    (l34 : K.lookup f34 = some ⟨oc34, od34, .func (PySem.W.fnOf "_law_with_some" "_law_with_some" (defArgs s_law_with_some) (defBody s_law_with_some) (defScope s_law_with_some) .none kV34 dc34 pm34 an34 cd34 ct34), sl34⟩)
    (c34 : PySem.W.codeIn K cd34 "_law_with_some" = true)
    (k34 : PySem.W.keepIn K (.ref f34) = true)
    (a35 : PySem.W.nsIn K mainGlobals "_law_with_number" = some (some (.ref f35)))
    (l35 : K.lookup f35 = some ⟨oc35, od35, .func (PySem.W.fnOf "_law_with_number" "_law_with_number" (defArgs s_law_with_number) (defBody s_law_with_number) (defScope s_law_with_number) .none kV35 dc35 pm35 an35 cd35 ct35), sl35⟩)
    (c35 : PySem.W.codeIn K cd35 "_law_with_number" = true)
    (k35 : PySem.W.keepIn K (.ref f35) = true)
    (a36 : PySem.W.nsIn K mainGlobals "_law_told" = some (some (.ref f36)))
    (l36 : K.lookup f36 = some ⟨oc36, od36, .func (PySem.W.fnOf "_law_told" "_law_told" (defArgs s_law_told) (defBody s_law_told) (defScope s_law_told) .none kV36 dc36 pm36 an36 cd36 ct36), sl36⟩)
    (c36 : PySem.W.codeIn K cd36 "_law_told" = true)
    (k36 : PySem.W.keepIn K (.ref f36) = true)
    (a37 : PySem.W.findIn K (.ref cFree) "__init__" = some (some (.ref f37)))
    (i37 : PySem.W.isFn K (.ref f37) = true)
    (l37 : K.lookup f37 = some ⟨oc37, od37, .func (PySem.W.fnOf "__init__" "Free.__init__" (defArgs s_Free_init) (defBody s_Free_init) (defScope s_Free_init) .none kV37 dc37 pm37 an37 cd37 ct37), sl37⟩)
    (c37 : PySem.W.codeIn K cd37 "Free.__init__" = true)
    (k37 : PySem.W.keepIn K (.ref f37) = true)
    (a38 : PySem.W.findIn K (.ref cFree) "shows" = some (some (.ref f38)))
    (i38 : PySem.W.isFn K (.ref f38) = true)
    (l38 : K.lookup f38 = some ⟨oc38, od38, .func (PySem.W.fnOf "shows" "Free.shows" (defArgs s_Free_shows) (defBody s_Free_shows) (defScope s_Free_shows) .none kV38 dc38 pm38 an38 cd38 ct38), sl38⟩)
    (c38 : PySem.W.codeIn K cd38 "Free.shows" = true)
    (k38 : PySem.W.keepIn K (.ref f38) = true)
    (a39 : PySem.W.findIn K (.ref cBound) "__init__" = some (some (.ref f39)))
    (i39 : PySem.W.isFn K (.ref f39) = true)
    (l39 : K.lookup f39 = some ⟨oc39, od39, .func (PySem.W.fnOf "__init__" "Bound.__init__" (defArgs s_Bound_init) (defBody s_Bound_init) (defScope s_Bound_init) .none kV39 dc39 pm39 an39 cd39 ct39), sl39⟩)
    (c39 : PySem.W.codeIn K cd39 "Bound.__init__" = true)
    (k39 : PySem.W.keepIn K (.ref f39) = true)
    (a40 : PySem.W.findIn K (.ref cBound) "shows" = some (some (.ref f40)))
    (i40 : PySem.W.isFn K (.ref f40) = true)
    (l40 : K.lookup f40 = some ⟨oc40, od40, .func (PySem.W.fnOf "shows" "Bound.shows" (defArgs s_Bound_shows) (defBody s_Bound_shows) (defScope s_Bound_shows) .none kV40 dc40 pm40 an40 cd40 ct40), sl40⟩)
    (c40 : PySem.W.codeIn K cd40 "Bound.shows" = true)
    (k40 : PySem.W.keepIn K (.ref f40) = true)
    (a41 : PySem.W.nsIn K mainGlobals "law" = some (some (.ref f41)))
    (l41 : K.lookup f41 = some ⟨oc41, od41, .func (PySem.W.fnOf "law" "law" (defArgs s_law) (defBody s_law) (defScope s_law) .none kV41 dc41 pm41 an41 cd41 ct41), sl41⟩)
    (c41 : PySem.W.codeIn K cd41 "law" = true)
    (k41 : PySem.W.keepIn K (.ref f41) = true)
    (z0 : PySem.W.nsIn K mainGlobals "ValueError" = some none)
    (z1 : PySem.W.nsIn K mainGlobals "all" = some none)
    (z2 : PySem.W.nsIn K mainGlobals "any" = some none)
    (z3 : PySem.W.nsIn K mainGlobals "enumerate" = some none)
    (z4 : PySem.W.nsIn K mainGlobals "int" = some none)
    (z5 : PySem.W.nsIn K mainGlobals "isinstance" = some none)
    (z6 : PySem.W.nsIn K mainGlobals "len" = some none)
    (z7 : PySem.W.nsIn K mainGlobals "list" = some none)
    (z8 : PySem.W.nsIn K mainGlobals "range" = some none)
    (z9 : PySem.W.nsIn K mainGlobals "reversed" = some none)
    (z10 : PySem.W.nsIn K mainGlobals "sum" = some none)
    (z11 : PySem.W.nsIn K mainGlobals "type" = some none)
    (z12 : PySem.W.nsIn K mainGlobals "zip" = some none)
    (glo0 : PySem.W.nsIn K mainGlobals "GREATEST_PRIME" = some (some (.int 997 gt0)))
    (gi : PySem.W.nsIn K mainGlobals "isqrt" = some (some (.builtin "math.isqrt")))
    (pg7 : PySem.W.plainGet K cFree Str.empty = true)
    (hd7 : PySem.W.hasDictIn K cFree = true)
    (po7 : PySem.W.plainOver K cFree = true)
    (sa7 : PySem.W.findIn K (.ref cFree) "__setattr__" = some (some (.builtin "object.__setattr__")))
    (mk7 : PySem.W.makesIn K cFree = true)
    (kc7 : PySem.W.keepIn K (.ref cFree) = true)
    (pg8 : PySem.W.plainGet K cBound Str.empty = true)
    (hd8 : PySem.W.hasDictIn K cBound = true)
    (po8 : PySem.W.plainOver K cBound = true)
    (sa8 : PySem.W.findIn K (.ref cBound) "__setattr__" = some (some (.builtin "object.__setattr__")))
    (mk8 : PySem.W.makesIn K cBound = true)
    (kc8 : PySem.W.keepIn K (.ref cBound) = true)
    (na7 : PySem.W.findIn K (.ref cFree) "rest" = some none)
    (na8 : PySem.W.findIn K (.ref cBound) "place" = some none)
    (hn : PySem.W.specialIn K (.builtin "object.__class__") "__get__" = some (some (.builtin "getset_descriptor.__get__")))
    (htk : PySem.W.takesIn K (.builtin "object.__class__") = some true)
    (chB : PySem.W.subIn K (.ref cChooseError) (.type "BaseException") = some true)
    (chD : PySem.W.hasDictIn K cChooseError = true)
    (chT : PySem.W.typeIn K (.ref cChooseError) = some (.type "type"))
    (xBadPrime : PySem.W.excIn K cBadPrime [.type "ValueError", .type "Exception", .type "BaseException", .type "object"] "ValueError.__new__" = true)
    (kBadPrime : PySem.W.keepIn K (.ref cBadPrime) = true)
    (bBadPrime : PySem.W.subIn K (.ref cBadPrime) (.type "BaseException") = some true)
    (tBadPrime : PySem.W.typeIn K (.ref cBadPrime) = some (.type "type"))
    (chSBadPrime : PySem.W.subIn K (.ref cBadPrime) (.ref cChooseError) = some true)
    (gaBadPrime : PySem.W.findIn K (.ref cBadPrime) "__getattribute__" = some (some (.builtin "BaseException.__getattribute__")))
    (gtBadPrime : PySem.W.findIn K (.ref cBadPrime) "__getattr__" = some none)
    (hdBadPrime : PySem.W.hasDictIn K cBadPrime = true)
    (haBadPrime : PySem.W.findIn K (.ref cBadPrime) "__class__" = some (some (.builtin "object.__class__")))
    (hmBadPrime : PySem.W.mroIn K cBadPrime (.type "object") = some true)
    (ktBadPrimeBadPrime : PySem.W.kitOne K (.ref cBadPrime) (.ref cBadPrime) = some true)
    (ktBadPrimeBadMany : PySem.W.kitOne K (.ref cBadPrime) (.ref cBadMany) = some false)
    (ktBadPrimeBadSome : PySem.W.kitOne K (.ref cBadPrime) (.ref cBadSome) = some false)
    (ktBadPrimeBadNumber : PySem.W.kitOne K (.ref cBadPrime) (.ref cBadNumber) = some false)
    (ktBadPrimeNotFree : PySem.W.kitOne K (.ref cBadPrime) (.ref cNotFree) = some false)
    (ktvBadPrime : PySem.W.kitOne K (.ref cBadPrime) (.type "ValueError") = some true)
    (xBadMany : PySem.W.excIn K cBadMany [.type "ValueError", .type "Exception", .type "BaseException", .type "object"] "ValueError.__new__" = true)
    (kBadMany : PySem.W.keepIn K (.ref cBadMany) = true)
    (bBadMany : PySem.W.subIn K (.ref cBadMany) (.type "BaseException") = some true)
    (tBadMany : PySem.W.typeIn K (.ref cBadMany) = some (.type "type"))
    (chSBadMany : PySem.W.subIn K (.ref cBadMany) (.ref cChooseError) = some true)
    (gaBadMany : PySem.W.findIn K (.ref cBadMany) "__getattribute__" = some (some (.builtin "BaseException.__getattribute__")))
    (gtBadMany : PySem.W.findIn K (.ref cBadMany) "__getattr__" = some none)
    (hdBadMany : PySem.W.hasDictIn K cBadMany = true)
    (haBadMany : PySem.W.findIn K (.ref cBadMany) "__class__" = some (some (.builtin "object.__class__")))
    (hmBadMany : PySem.W.mroIn K cBadMany (.type "object") = some true)
    (ktBadManyBadPrime : PySem.W.kitOne K (.ref cBadMany) (.ref cBadPrime) = some false)
    (ktBadManyBadMany : PySem.W.kitOne K (.ref cBadMany) (.ref cBadMany) = some true)
    (ktBadManyBadSome : PySem.W.kitOne K (.ref cBadMany) (.ref cBadSome) = some false)
    (ktBadManyBadNumber : PySem.W.kitOne K (.ref cBadMany) (.ref cBadNumber) = some false)
    (ktBadManyNotFree : PySem.W.kitOne K (.ref cBadMany) (.ref cNotFree) = some false)
    (ktvBadMany : PySem.W.kitOne K (.ref cBadMany) (.type "ValueError") = some true)
    (xBadSome : PySem.W.excIn K cBadSome [.type "ValueError", .type "Exception", .type "BaseException", .type "object"] "ValueError.__new__" = true)
    (kBadSome : PySem.W.keepIn K (.ref cBadSome) = true)
    (bBadSome : PySem.W.subIn K (.ref cBadSome) (.type "BaseException") = some true)
    (tBadSome : PySem.W.typeIn K (.ref cBadSome) = some (.type "type"))
    (chSBadSome : PySem.W.subIn K (.ref cBadSome) (.ref cChooseError) = some true)
    (gaBadSome : PySem.W.findIn K (.ref cBadSome) "__getattribute__" = some (some (.builtin "BaseException.__getattribute__")))
    (gtBadSome : PySem.W.findIn K (.ref cBadSome) "__getattr__" = some none)
    (hdBadSome : PySem.W.hasDictIn K cBadSome = true)
    (haBadSome : PySem.W.findIn K (.ref cBadSome) "__class__" = some (some (.builtin "object.__class__")))
    (hmBadSome : PySem.W.mroIn K cBadSome (.type "object") = some true)
    (ktBadSomeBadPrime : PySem.W.kitOne K (.ref cBadSome) (.ref cBadPrime) = some false)
    (ktBadSomeBadMany : PySem.W.kitOne K (.ref cBadSome) (.ref cBadMany) = some false)
    (ktBadSomeBadSome : PySem.W.kitOne K (.ref cBadSome) (.ref cBadSome) = some true)
    (ktBadSomeBadNumber : PySem.W.kitOne K (.ref cBadSome) (.ref cBadNumber) = some false)
    (ktBadSomeNotFree : PySem.W.kitOne K (.ref cBadSome) (.ref cNotFree) = some false)
    (ktvBadSome : PySem.W.kitOne K (.ref cBadSome) (.type "ValueError") = some true)
    (xBadNumber : PySem.W.excIn K cBadNumber [.type "ValueError", .type "Exception", .type "BaseException", .type "object"] "ValueError.__new__" = true)
    (kBadNumber : PySem.W.keepIn K (.ref cBadNumber) = true)
    (bBadNumber : PySem.W.subIn K (.ref cBadNumber) (.type "BaseException") = some true)
    (tBadNumber : PySem.W.typeIn K (.ref cBadNumber) = some (.type "type"))
    (chSBadNumber : PySem.W.subIn K (.ref cBadNumber) (.ref cChooseError) = some true)
    (gaBadNumber : PySem.W.findIn K (.ref cBadNumber) "__getattribute__" = some (some (.builtin "BaseException.__getattribute__")))
    (gtBadNumber : PySem.W.findIn K (.ref cBadNumber) "__getattr__" = some none)
    (hdBadNumber : PySem.W.hasDictIn K cBadNumber = true)
    (haBadNumber : PySem.W.findIn K (.ref cBadNumber) "__class__" = some (some (.builtin "object.__class__")))
    (hmBadNumber : PySem.W.mroIn K cBadNumber (.type "object") = some true)
    (ktBadNumberBadPrime : PySem.W.kitOne K (.ref cBadNumber) (.ref cBadPrime) = some false)
    (ktBadNumberBadMany : PySem.W.kitOne K (.ref cBadNumber) (.ref cBadMany) = some false)
    (ktBadNumberBadSome : PySem.W.kitOne K (.ref cBadNumber) (.ref cBadSome) = some false)
    (ktBadNumberBadNumber : PySem.W.kitOne K (.ref cBadNumber) (.ref cBadNumber) = some true)
    (ktBadNumberNotFree : PySem.W.kitOne K (.ref cBadNumber) (.ref cNotFree) = some false)
    (ktvBadNumber : PySem.W.kitOne K (.ref cBadNumber) (.type "ValueError") = some true)
    (xNotFree : PySem.W.excIn K cNotFree [.type "ValueError", .type "Exception", .type "BaseException", .type "object"] "ValueError.__new__" = true)
    (kNotFree : PySem.W.keepIn K (.ref cNotFree) = true)
    (bNotFree : PySem.W.subIn K (.ref cNotFree) (.type "BaseException") = some true)
    (tNotFree : PySem.W.typeIn K (.ref cNotFree) = some (.type "type"))
    (chSNotFree : PySem.W.subIn K (.ref cNotFree) (.ref cChooseError) = some true)
    (gaNotFree : PySem.W.findIn K (.ref cNotFree) "__getattribute__" = some (some (.builtin "BaseException.__getattribute__")))
    (gtNotFree : PySem.W.findIn K (.ref cNotFree) "__getattr__" = some none)
    (hdNotFree : PySem.W.hasDictIn K cNotFree = true)
    (haNotFree : PySem.W.findIn K (.ref cNotFree) "__class__" = some (some (.builtin "object.__class__")))
    (hmNotFree : PySem.W.mroIn K cNotFree (.type "object") = some true)
    (ktNotFreeBadPrime : PySem.W.kitOne K (.ref cNotFree) (.ref cBadPrime) = some false)
    (ktNotFreeBadMany : PySem.W.kitOne K (.ref cNotFree) (.ref cBadMany) = some false)
    (ktNotFreeBadSome : PySem.W.kitOne K (.ref cNotFree) (.ref cBadSome) = some false)
    (ktNotFreeBadNumber : PySem.W.kitOne K (.ref cNotFree) (.ref cBadNumber) = some false)
    (ktNotFreeNotFree : PySem.W.kitOne K (.ref cNotFree) (.ref cNotFree) = some true)
    (ktvNotFree : PySem.W.kitOne K (.ref cNotFree) (.type "ValueError") = some true)
    : ∃ fd : FuncData, (∀ (s : Shared) (u : Value), BindsTo s fd ⟨[u], []⟩ [("_law_script", u)]) ∧ ∀ base : Heap, K.In base → base.Ns mainGlobals mg → FnOk P w K mg base CX0 10 fa fd ["_law_script"] (sp_law K) := by
  have e := hfa0.symm.trans (PySem.W.mg_of X G a41)
  cases e
  have hfa := PySem.W.mg_of X G a41
  have F0 := fun_mk (st := s_is_whole) l0 c0 k0
  have b0 := F0.binds (ps := P_is_whole) (fun _ _ _ _ _ _ us hl => match us, hl with | [_], _ => rfl)
  have F1 := fun_mk (st := s_is_prime) l1 c1 k1
  have b1 := F1.binds (ps := P_is_prime) (fun _ _ _ _ _ _ us hl => match us, hl with | [_], _ => rfl)
  have F2 := fun_mk (st := s_is_between) l2 c2 k2
  have b2 := F2.binds (ps := P_is_between) (fun _ _ _ _ _ _ us hl => match us, hl with | [_, _, _], _ => rfl)
  have F3 := fun_mk (st := s_is_many) l3 c3 k3
  have b3 := F3.binds (ps := P_is_many) (fun _ _ _ _ _ _ us hl => match us, hl with | [_], _ => rfl)
  have F4 := fun_mk (st := s_check_row) l4 c4 k4
  have b4 := F4.binds (ps := P_check_row) (fun _ _ _ _ _ _ us hl => match us, hl with | [_, _], _ => rfl)
  have F5 := fun_mk (st := s_check_pick) l5 c5 k5
  have b5 := F5.binds (ps := P_check_pick) (fun _ _ _ _ _ _ us hl => match us, hl with | [_, _, _], _ => rfl)
  have F6 := fun_mk (st := s_paired) l6 c6 k6
  have b6 := F6.binds (ps := P_paired) (fun _ _ _ _ _ _ us hl => match us, hl with | [_], _ => rfl)
  have F7 := fun_mk (st := s_towers) l7 c7 k7
  have b7 := F7.binds (ps := P_towers) (fun _ _ _ _ _ _ us hl => match us, hl with | [_], _ => rfl)
  have F8 := fun_mk (st := s_taken_apart) l8 c8 k8
  have b8 := F8.binds (ps := P_taken_apart) (fun _ _ _ _ _ _ us hl => match us, hl with | [_, _], _ => rfl)
  have F9 := fun_mk (st := s_put_together) l9 c9 k9
  have b9 := F9.binds (ps := P_put_together) (fun _ _ _ _ _ _ us hl => match us, hl with | [_, _], _ => rfl)
  have F10 := fun_mk (st := s_figures_of) l10 c10 k10
  have b10 := F10.binds (ps := P_figures_of) (fun _ _ _ _ _ _ us hl => match us, hl with | [_, _], _ => rfl)
  have F11 := fun_mk (st := s_products_left) l11 c11 k11
  have b11 := F11.binds (ps := P_products_left) (fun _ _ _ _ _ _ us hl => match us, hl with | [_], _ => rfl)
  have F12 := fun_mk (st := s_product_of) l12 c12 k12
  have b12 := F12.binds (ps := P_product_of) (fun _ _ _ _ _ _ us hl => match us, hl with | [_, _], _ => rfl)
  have F13 := fun_mk (st := s_inverse) l13 c13 k13
  have b13 := F13.binds (ps := P_inverse) (fun _ _ _ _ _ _ us hl => match us, hl with | [_, _], _ => rfl)
  have F14 := fun_mk (st := s_ways_of) l14 c14 k14
  have b14 := F14.binds (ps := P_ways_of) (fun _ _ _ _ _ _ us hl => match us, hl with | [_, _, _], _ => rfl)
  have F15 := fun_mk (st := s_bound_places) l15 c15 k15
  have b15 := F15.binds (ps := P_bound_places) (fun _ _ _ _ _ _ us hl => match us, hl with | [_, _, _], _ => rfl)
  have F16 := fun_mk (st := s_figures) l16 c16 k16
  have b16 := F16.binds (ps := P_figures) (fun _ _ _ _ _ _ us hl => match us, hl with | [_, _], _ => rfl)
  have F17 := fun_mk (st := s_product) l17 c17 k17
  have b17 := F17.binds (ps := P_product) (fun _ _ _ _ _ _ us hl => match us, hl with | [_, _], _ => rfl)
  have F18 := fun_mk (st := s_row_towers) l18 c18 k18
  have b18 := F18.binds (ps := P_row_towers) (fun _ _ _ _ _ _ us hl => match us, hl with | [_, _], _ => rfl)
  have F19 := fun_mk (st := s_free) l19 c19 k19
  have b19 := F19.binds (ps := P_free) (fun _ _ _ _ _ _ us hl => match us, hl with | [_, _], _ => rfl)
  have F20 := fun_mk (st := s_most) l20 c20 k20
  have b20 := F20.binds (ps := P_most) (fun _ _ _ _ _ _ us hl => match us, hl with | [_, _], _ => rfl)
  have F21 := fun_mk (st := s_place_by) l21 c21 k21
  have b21 := F21.binds (ps := P_place_by) (fun _ _ _ _ _ _ us hl => match us, hl with | [_, _, _], _ => rfl)
  have F22 := fun_mk (st := s_number_of) l22 c22 k22
  have b22 := F22.binds (ps := P_number_of) (fun _ _ _ _ _ _ us hl => match us, hl with | [_, _, _], _ => rfl)
  have F23 := fun_mk (st := s_ways) l23 c23 k23
  have b23 := F23.binds (ps := P_ways) (fun _ _ _ _ _ _ us hl => match us, hl with | [_, _, _], _ => rfl)
  have F24 := fun_mk (st := s_told) l24 c24 k24
  have b24 := F24.binds (ps := P_told) (fun _ _ _ _ _ _ us hl => match us, hl with | [_, _, _], _ => rfl)
  have F25 := fun_mk (st := s_law_cell_at) l25 c25 k25
  have b25 := F25.binds (ps := P_law_cell_at) (fun _ _ _ _ _ _ us hl => match us, hl with | [_, _], _ => rfl)
  have F26 := fun_mk (st := s_law_draw) l26 c26 k26
  have b26 := F26.binds (ps := P_law_draw) (fun _ _ _ _ _ _ us hl => match us, hl with | [_, _, _], _ => rfl)
  have F27 := fun_mk (st := s_law_value) l27 c27 k27
  have b27 := F27.binds (ps := P_law_value) (fun _ _ _ _ _ _ us hl => match us, hl with | [_, _, _], _ => rfl)
  have F28 := fun_mk (st := s_law_figures) l28 c28 k28
  have b28 := F28.binds (ps := P_law_figures) (fun _ _ _ _ _ _ us hl => match us, hl with | [_, _], _ => rfl)
  have F29 := fun_mk (st := s_law_worth) l29 c29 k29
  have b29 := F29.binds (ps := P_law_worth) (fun _ _ _ _ _ _ us hl => match us, hl with | [_, _], _ => rfl)
  have F30 := fun_mk (st := s_law_pair) l30 c30 k30
  have b30 := F30.binds (ps := P_law_pair) (fun _ _ _ _ _ _ us hl => match us, hl with | [_, _, _], _ => rfl)
  have F31 := fun_mk (st := s_law_kinds) l31 c31 k31
  have b31 := F31.binds (ps := P_law_kinds) (fun _ _ _ _ _ _ us hl => match us, hl with | [_], _ => rfl)
  have F32 := fun_mk (st := s_law_with_prime) l32 c32 k32
  have b32 := F32.binds (ps := P_law_with_prime) (fun _ _ _ _ _ _ us hl => match us, hl with | [_, _], _ => rfl)
  have F33 := fun_mk (st := s_law_with_many) l33 c33 k33
  have b33 := F33.binds (ps := P_law_with_many) (fun _ _ _ _ _ _ us hl => match us, hl with | [_, _], _ => rfl)
  have F34 := fun_mk (st := s_law_with_some) l34 c34 k34
  have b34 := F34.binds (ps := P_law_with_some) (fun _ _ _ _ _ _ us hl => match us, hl with | [_, _], _ => rfl)
  have F35 := fun_mk (st := s_law_with_number) l35 c35 k35
  have b35 := F35.binds (ps := P_law_with_number) (fun _ _ _ _ _ _ us hl => match us, hl with | [_, _], _ => rfl)
  have F36 := fun_mk (st := s_law_told) l36 c36 k36
  have b36 := F36.binds (ps := P_law_told) (fun _ _ _ _ _ _ us hl => match us, hl with | [_, _, _], _ => rfl)
  have F37 := fun_mk (st := s_Free_init) l37 c37 k37
  have b37 := F37.binds (ps := P_Free_init) (fun _ _ _ _ _ _ us hl => match us, hl with | [_, _], _ => rfl)
  have F38 := fun_mk (st := s_Free_shows) l38 c38 k38
  have b38 := F38.binds (ps := P_Free_shows) (fun _ _ _ _ _ _ us hl => match us, hl with | [_, _, _, _], _ => rfl)
  have F39 := fun_mk (st := s_Bound_init) l39 c39 k39
  have b39 := F39.binds (ps := P_Bound_init) (fun _ _ _ _ _ _ us hl => match us, hl with | [_, _], _ => rfl)
  have F40 := fun_mk (st := s_Bound_shows) l40 c40 k40
  have b40 := F40.binds (ps := P_Bound_shows) (fun _ _ _ _ _ _ us hl => match us, hl with | [_, _, _, _], _ => rfl)
  have F41 := fun_mk (st := s_law) l41 c41 k41
  have b41 := F41.binds (ps := P_law) (fun _ _ _ _ _ _ us hl => match us, hl with | [_], _ => rfl)
  have T : Txt K mg cChooseError cBadPrime cBadMany cBadSome cBadNumber cNotFree cAnswer cFree cBound := {
    d_is_whole := ⟨_, _, F0, PySem.W.mg_of X G a0, b0⟩,
    d_is_prime := ⟨_, _, F1, PySem.W.mg_of X G a1, b1⟩,
    d_is_between := ⟨_, _, F2, PySem.W.mg_of X G a2, b2⟩,
    d_is_many := ⟨_, _, F3, PySem.W.mg_of X G a3, b3⟩,
    d_check_row := ⟨_, _, F4, PySem.W.mg_of X G a4, b4⟩,
    d_check_pick := ⟨_, _, F5, PySem.W.mg_of X G a5, b5⟩,
    d_paired := ⟨_, _, F6, PySem.W.mg_of X G a6, b6⟩,
    d_towers := ⟨_, _, F7, PySem.W.mg_of X G a7, b7⟩,
    d_taken_apart := ⟨_, _, F8, PySem.W.mg_of X G a8, b8⟩,
    d_put_together := ⟨_, _, F9, PySem.W.mg_of X G a9, b9⟩,
    d_figures_of := ⟨_, _, F10, PySem.W.mg_of X G a10, b10⟩,
    d_products_left := ⟨_, _, F11, PySem.W.mg_of X G a11, b11⟩,
    d_product_of := ⟨_, _, F12, PySem.W.mg_of X G a12, b12⟩,
    d_inverse := ⟨_, _, F13, PySem.W.mg_of X G a13, b13⟩,
    d_ways_of := ⟨_, _, F14, PySem.W.mg_of X G a14, b14⟩,
    d_bound_places := ⟨_, _, F15, PySem.W.mg_of X G a15, b15⟩,
    d_figures := ⟨_, _, F16, PySem.W.mg_of X G a16, b16⟩,
    d_product := ⟨_, _, F17, PySem.W.mg_of X G a17, b17⟩,
    d_row_towers := ⟨_, _, F18, PySem.W.mg_of X G a18, b18⟩,
    d_free := ⟨_, _, F19, PySem.W.mg_of X G a19, b19⟩,
    d_most := ⟨_, _, F20, PySem.W.mg_of X G a20, b20⟩,
    d_place_by := ⟨_, _, F21, PySem.W.mg_of X G a21, b21⟩,
    d_number_of := ⟨_, _, F22, PySem.W.mg_of X G a22, b22⟩,
    d_ways := ⟨_, _, F23, PySem.W.mg_of X G a23, b23⟩,
    d_told := ⟨_, _, F24, PySem.W.mg_of X G a24, b24⟩,
    d_law_cell_at := ⟨_, _, F25, PySem.W.mg_of X G a25, b25⟩,
    d_law_draw := ⟨_, _, F26, PySem.W.mg_of X G a26, b26⟩,
    d_law_value := ⟨_, _, F27, PySem.W.mg_of X G a27, b27⟩,
    d_law_figures := ⟨_, _, F28, PySem.W.mg_of X G a28, b28⟩,
    d_law_worth := ⟨_, _, F29, PySem.W.mg_of X G a29, b29⟩,
    d_law_pair := ⟨_, _, F30, PySem.W.mg_of X G a30, b30⟩,
    d_law_kinds := ⟨_, _, F31, PySem.W.mg_of X G a31, b31⟩,
    d_law_with_prime := ⟨_, _, F32, PySem.W.mg_of X G a32, b32⟩,
    d_law_with_many := ⟨_, _, F33, PySem.W.mg_of X G a33, b33⟩,
    d_law_with_some := ⟨_, _, F34, PySem.W.mg_of X G a34, b34⟩,
    d_law_with_number := ⟨_, _, F35, PySem.W.mg_of X G a35, b35⟩,
    d_law_told := ⟨_, _, F36, PySem.W.mg_of X G a36, b36⟩,
    d_Free_init := ⟨f37, _, F37, ⟨mk7, a37, i37, kc7⟩, b37⟩,
    d_Free_shows := ⟨f38, _, F38, ⟨a38, i38, k38⟩, b38⟩,
    d_Bound_init := ⟨f39, _, F39, ⟨mk8, a39, i39, kc8⟩, b39⟩,
    d_Bound_shows := ⟨f40, _, F40, ⟨a40, i40, k40⟩, b40⟩,
    d_law := ⟨_, _, F41, hfa, b41⟩,
    n_ValueError := PySem.W.mg_none_of X G z0,
    n_all := PySem.W.mg_none_of X G z1,
    n_any := PySem.W.mg_none_of X G z2,
    n_enumerate := PySem.W.mg_none_of X G z3,
    n_int := PySem.W.mg_none_of X G z4,
    n_isinstance := PySem.W.mg_none_of X G z5,
    n_len := PySem.W.mg_none_of X G z6,
    n_list := PySem.W.mg_none_of X G z7,
    n_range := PySem.W.mg_none_of X G z8,
    n_reversed := PySem.W.mg_none_of X G z9,
    n_sum := PySem.W.mg_none_of X G z10,
    n_type := PySem.W.mg_none_of X G z11,
    n_zip := PySem.W.mg_none_of X G z12,
    g_GREATEST_PRIME := ⟨_, PySem.W.mg_of X G glo0⟩,
    g_isqrt := PySem.W.mg_of X G gi,
    g_ChooseError := PySem.W.mg_of X G aC0,
    g_BadPrime := PySem.W.mg_of X G aC1,
    g_BadMany := PySem.W.mg_of X G aC2,
    g_BadSome := PySem.W.mg_of X G aC3,
    g_BadNumber := PySem.W.mg_of X G aC4,
    g_NotFree := PySem.W.mg_of X G aC5,
    g_Answer := PySem.W.mg_of X G aC6,
    g_Free := PySem.W.mg_of X G aC7,
    cl_Free := ⟨pg7, hd7, po7, sa7⟩,
    g_Bound := PySem.W.mg_of X G aC8,
    cl_Bound := ⟨pg8, hd8, po8, sa8⟩,
    na_Free := na7,
    na_Bound := na8,
    x_BadPrime := xBadPrime,
    k_BadPrime := kBadPrime,
    b_BadPrime := bBadPrime,
    t_BadPrime := tBadPrime,
    e_BadPrime := PySem.W.exm_ref chB chD chT chSBadPrime,
    ec_BadPrime := ⟨gaBadPrime, gtBadPrime, bBadPrime, hdBadPrime, haBadPrime, hn, htk, hmBadPrime⟩,
    kt_BadPrime_BadPrime := ktBadPrimeBadPrime,
    kt_BadPrime_BadMany := ktBadPrimeBadMany,
    kt_BadPrime_BadSome := ktBadPrimeBadSome,
    kt_BadPrime_BadNumber := ktBadPrimeBadNumber,
    kt_BadPrime_NotFree := ktBadPrimeNotFree,
    kv_BadPrime := ktvBadPrime,
    x_BadMany := xBadMany,
    k_BadMany := kBadMany,
    b_BadMany := bBadMany,
    t_BadMany := tBadMany,
    e_BadMany := PySem.W.exm_ref chB chD chT chSBadMany,
    ec_BadMany := ⟨gaBadMany, gtBadMany, bBadMany, hdBadMany, haBadMany, hn, htk, hmBadMany⟩,
    kt_BadMany_BadPrime := ktBadManyBadPrime,
    kt_BadMany_BadMany := ktBadManyBadMany,
    kt_BadMany_BadSome := ktBadManyBadSome,
    kt_BadMany_BadNumber := ktBadManyBadNumber,
    kt_BadMany_NotFree := ktBadManyNotFree,
    kv_BadMany := ktvBadMany,
    x_BadSome := xBadSome,
    k_BadSome := kBadSome,
    b_BadSome := bBadSome,
    t_BadSome := tBadSome,
    e_BadSome := PySem.W.exm_ref chB chD chT chSBadSome,
    ec_BadSome := ⟨gaBadSome, gtBadSome, bBadSome, hdBadSome, haBadSome, hn, htk, hmBadSome⟩,
    kt_BadSome_BadPrime := ktBadSomeBadPrime,
    kt_BadSome_BadMany := ktBadSomeBadMany,
    kt_BadSome_BadSome := ktBadSomeBadSome,
    kt_BadSome_BadNumber := ktBadSomeBadNumber,
    kt_BadSome_NotFree := ktBadSomeNotFree,
    kv_BadSome := ktvBadSome,
    x_BadNumber := xBadNumber,
    k_BadNumber := kBadNumber,
    b_BadNumber := bBadNumber,
    t_BadNumber := tBadNumber,
    e_BadNumber := PySem.W.exm_ref chB chD chT chSBadNumber,
    ec_BadNumber := ⟨gaBadNumber, gtBadNumber, bBadNumber, hdBadNumber, haBadNumber, hn, htk, hmBadNumber⟩,
    kt_BadNumber_BadPrime := ktBadNumberBadPrime,
    kt_BadNumber_BadMany := ktBadNumberBadMany,
    kt_BadNumber_BadSome := ktBadNumberBadSome,
    kt_BadNumber_BadNumber := ktBadNumberBadNumber,
    kt_BadNumber_NotFree := ktBadNumberNotFree,
    kv_BadNumber := ktvBadNumber,
    x_NotFree := xNotFree,
    k_NotFree := kNotFree,
    b_NotFree := bNotFree,
    t_NotFree := tNotFree,
    e_NotFree := PySem.W.exm_ref chB chD chT chSNotFree,
    ec_NotFree := ⟨gaNotFree, gtNotFree, bNotFree, hdNotFree, haNotFree, hn, htk, hmNotFree⟩,
    kt_NotFree_BadPrime := ktNotFreeBadPrime,
    kt_NotFree_BadMany := ktNotFreeBadMany,
    kt_NotFree_BadSome := ktNotFreeBadSome,
    kt_NotFree_BadNumber := ktNotFreeBadNumber,
    kt_NotFree_NotFree := ktNotFreeNotFree,
    kv_NotFree := ktvNotFree }
  exact ⟨_, fun s v => .of_eq rfl, fun base _ _ => ok_law T F41⟩
end K05
open PySem PySem.W PyProof.Rows
set_option maxRecDepth 100000 in
set_option maxHeartbeats 0 in
theorem PySem.Challenge.cw_choosecarry_k05_refused_holds : PySem.Challenge.rw_choosecarry_k05_refused.Holds := by
  w_on; o_law; k_head; (case hw => w_witness2)
  k_fill
  refine L2.walk_ofB (l := PySem.Challenge.rw_choosecarry_k05_refused) (n := 63) (k := 10) (x := "_law_script") (CX := fun _ => L2.CX0) (sp := fun w => K05.sp_law _) rfl (by decide) rfl ⟨rfl, by decide, by decide⟩ (fun w h Y => PySem.W.kIn_of Y) ?F (fun w H a ns hl hb _ hS => ⟨a, ns, rfl, hS, ⟨hl, hb⟩, fun _ => rfl⟩) (fun _ _ _ _ _ h => h)
  case F =>
    intro w mg fa h KX G hmg
    refine' K05.all_mk KX G hmg ?aC0 ?aC1 ?aC2 ?aC3 ?aC4 ?aC5 ?aC6 ?aC7 ?aC8 ?a0 ?l0 ?c0 ?k0 ?a1 ?l1 ?c1 ?k1 ?a2 ?l2 ?c2 ?k2 ?a3 ?l3 ?c3 ?k3 ?a4 ?l4 ?c4 ?k4 ?a5 ?l5 ?c5 ?k5 ?a6 ?l6 ?c6 ?k6 ?a7 ?l7 ?c7 ?k7 ?a8 ?l8 ?c8 ?k8 ?a9 ?l9 ?c9 ?k9 ?a10 ?l10 ?c10 ?k10 ?a11 ?l11 ?c11 ?k11 ?a12 ?l12 ?c12 ?k12 ?a13 ?l13 ?c13 ?k13 ?a14 ?l14 ?c14 ?k14 ?a15 ?l15 ?c15 ?k15 ?a16 ?l16 ?c16 ?k16 ?a17 ?l17 ?c17 ?k17 ?a18 ?l18 ?c18 ?k18 ?a19 ?l19 ?c19 ?k19 ?a20 ?l20 ?c20 ?k20 ?a21 ?l21 ?c21 ?k21 ?a22 ?l22 ?c22 ?k22 ?a23 ?l23 ?c23 ?k23 ?a24 ?l24 ?c24 ?k24 ?a25 ?l25 ?c25 ?k25 ?a26 ?l26 ?c26 ?k26 ?a27 ?l27 ?c27 ?k27 ?a28 ?l28 ?c28 ?k28 ?a29 ?l29 ?c29 ?k29 ?a30 ?l30 ?c30 ?k30 ?a31 ?l31 ?c31 ?k31 ?a32 ?l32 ?c32 ?k32 ?a33 ?l33 ?c33 ?k33 ?a34 ?l34 ?c34 ?k34 ?a35 ?l35 ?c35 ?k35 ?a36 ?l36 ?c36 ?k36 ?a37 ?i37 ?l37 ?c37 ?k37 ?a38 ?i38 ?l38 ?c38 ?k38 ?a39 ?i39 ?l39 ?c39 ?k39 ?a40 ?i40 ?l40 ?c40 ?k40 ?a41 ?l41 ?c41 ?k41 ?z0 ?z1 ?z2 ?z3 ?z4 ?z5 ?z6 ?z7 ?z8 ?z9 ?z10 ?z11 ?z12 ?glo0 ?gi ?pg7 ?hd7 ?po7 ?sa7 ?mk7 ?kc7 ?pg8 ?hd8 ?po8 ?sa8 ?mk8 ?kc8 ?na7 ?na8 ?hn ?htk ?chB ?chD ?chT ?xBadPrime ?kBadPrime ?bBadPrime ?tBadPrime ?chSBadPrime ?gaBadPrime ?gtBadPrime ?hdBadPrime ?haBadPrime ?hmBadPrime ?ktBadPrimeBadPrime ?ktBadPrimeBadMany ?ktBadPrimeBadSome ?ktBadPrimeBadNumber ?ktBadPrimeNotFree ?ktvBadPrime ?xBadMany ?kBadMany ?bBadMany ?tBadMany ?chSBadMany ?gaBadMany ?gtBadMany ?hdBadMany ?haBadMany ?hmBadMany ?ktBadManyBadPrime ?ktBadManyBadMany ?ktBadManyBadSome ?ktBadManyBadNumber ?ktBadManyNotFree ?ktvBadMany ?xBadSome ?kBadSome ?bBadSome ?tBadSome ?chSBadSome ?gaBadSome ?gtBadSome ?hdBadSome ?haBadSome ?hmBadSome ?ktBadSomeBadPrime ?ktBadSomeBadMany ?ktBadSomeBadSome ?ktBadSomeBadNumber ?ktBadSomeNotFree ?ktvBadSome ?xBadNumber ?kBadNumber ?bBadNumber ?tBadNumber ?chSBadNumber ?gaBadNumber ?gtBadNumber ?hdBadNumber ?haBadNumber ?hmBadNumber ?ktBadNumberBadPrime ?ktBadNumberBadMany ?ktBadNumberBadSome ?ktBadNumberBadNumber ?ktBadNumberNotFree ?ktvBadNumber ?xNotFree ?kNotFree ?bNotFree ?tNotFree ?chSNotFree ?gaNotFree ?gtNotFree ?hdNotFree ?haNotFree ?hmNotFree ?ktNotFreeBadPrime ?ktNotFreeBadMany ?ktNotFreeBadSome ?ktNotFreeBadNumber ?ktNotFreeNotFree ?ktvNotFree
    (case aC0 => k_is)
    (case aC1 => k_is)
    (case aC2 => k_is)
    (case aC3 => k_is)
    (case aC4 => k_is)
    (case aC5 => k_is)
    (case aC6 => k_is)
    (case aC7 => k_is)
    (case aC8 => k_is)
    (case a0 => k_is)
    (case l0 => k_is)
    (case c0 => k_is)
    (case k0 => k_is)
    (case a1 => k_is)
    (case l1 => k_is)
    (case c1 => k_is)
    (case k1 => k_is)
    (case a2 => k_is)
    (case l2 => k_is)
    (case c2 => k_is)
    (case k2 => k_is)
    (case a3 => k_is)
    (case l3 => k_is)
    (case c3 => k_is)
    (case k3 => k_is)
    (case a4 => k_is)
    (case l4 => k_is)
    (case c4 => k_is)
    (case k4 => k_is)
    (case a5 => k_is)
    (case l5 => k_is)
    (case c5 => k_is)
    (case k5 => k_is)
    (case a6 => k_is)
    (case l6 => k_is)
    (case c6 => k_is)
    (case k6 => k_is)
    (case a7 => k_is)
    (case l7 => k_is)
    (case c7 => k_is)
    (case k7 => k_is)
    (case a8 => k_is)
    (case l8 => k_is)
    (case c8 => k_is)
    (case k8 => k_is)
    (case a9 => k_is)
    (case l9 => k_is)
    (case c9 => k_is)
    (case k9 => k_is)
    (case a10 => k_is)
    (case l10 => k_is)
    (case c10 => k_is)
    (case k10 => k_is)
    (case a11 => k_is)
    (case l11 => k_is)
    (case c11 => k_is)
    (case k11 => k_is)
    (case a12 => k_is)
    (case l12 => k_is)
    (case c12 => k_is)
    (case k12 => k_is)
    (case a13 => k_is)
    (case l13 => k_is)
    (case c13 => k_is)
    (case k13 => k_is)
    (case a14 => k_is)
    (case l14 => k_is)
    (case c14 => k_is)
    (case k14 => k_is)
    (case a15 => k_is)
    (case l15 => k_is)
    (case c15 => k_is)
    (case k15 => k_is)
    (case a16 => k_is)
    (case l16 => k_is)
    (case c16 => k_is)
    (case k16 => k_is)
    (case a17 => k_is)
    (case l17 => k_is)
    (case c17 => k_is)
    (case k17 => k_is)
    (case a18 => k_is)
    (case l18 => k_is)
    (case c18 => k_is)
    (case k18 => k_is)
    (case a19 => k_is)
    (case l19 => k_is)
    (case c19 => k_is)
    (case k19 => k_is)
    (case a20 => k_is)
    (case l20 => k_is)
    (case c20 => k_is)
    (case k20 => k_is)
    (case a21 => k_is)
    (case l21 => k_is)
    (case c21 => k_is)
    (case k21 => k_is)
    (case a22 => k_is)
    (case l22 => k_is)
    (case c22 => k_is)
    (case k22 => k_is)
    (case a23 => k_is)
    (case l23 => k_is)
    (case c23 => k_is)
    (case k23 => k_is)
    (case a24 => k_is)
    (case l24 => k_is)
    (case c24 => k_is)
    (case k24 => k_is)
    (case a25 => k_is)
    (case l25 => k_is)
    (case c25 => k_is)
    (case k25 => k_is)
    (case a26 => k_is)
    (case l26 => k_is)
    (case c26 => k_is)
    (case k26 => k_is)
    (case a27 => k_is)
    (case l27 => k_is)
    (case c27 => k_is)
    (case k27 => k_is)
    (case a28 => k_is)
    (case l28 => k_is)
    (case c28 => k_is)
    (case k28 => k_is)
    (case a29 => k_is)
    (case l29 => k_is)
    (case c29 => k_is)
    (case k29 => k_is)
    (case a30 => k_is)
    (case l30 => k_is)
    (case c30 => k_is)
    (case k30 => k_is)
    (case a31 => k_is)
    (case l31 => k_is)
    (case c31 => k_is)
    (case k31 => k_is)
    (case a32 => k_is)
    (case l32 => k_is)
    (case c32 => k_is)
    (case k32 => k_is)
    (case a33 => k_is)
    (case l33 => k_is)
    (case c33 => k_is)
    (case k33 => k_is)
    (case a34 => k_is)
    (case l34 => k_is)
    (case c34 => k_is)
    (case k34 => k_is)
    (case a35 => k_is)
    (case l35 => k_is)
    (case c35 => k_is)
    (case k35 => k_is)
    (case a36 => k_is)
    (case l36 => k_is)
    (case c36 => k_is)
    (case k36 => k_is)
    (case a37 => k_is)
    (case i37 => k_is)
    (case l37 => k_is)
    (case c37 => k_is)
    (case k37 => k_is)
    (case a38 => k_is)
    (case i38 => k_is)
    (case l38 => k_is)
    (case c38 => k_is)
    (case k38 => k_is)
    (case a39 => k_is)
    (case i39 => k_is)
    (case l39 => k_is)
    (case c39 => k_is)
    (case k39 => k_is)
    (case a40 => k_is)
    (case i40 => k_is)
    (case l40 => k_is)
    (case c40 => k_is)
    (case k40 => k_is)
    (case a41 => k_is)
    (case l41 => k_is)
    (case c41 => k_is)
    (case k41 => k_is)
    (case z0 => k_is)
    (case z1 => k_is)
    (case z2 => k_is)
    (case z3 => k_is)
    (case z4 => k_is)
    (case z5 => k_is)
    (case z6 => k_is)
    (case z7 => k_is)
    (case z8 => k_is)
    (case z9 => k_is)
    (case z10 => k_is)
    (case z11 => k_is)
    (case z12 => k_is)
    (case glo0 => k_is)
    (case gi => k_is)
    (case pg7 => k_is)
    (case hd7 => k_is)
    (case po7 => k_is)
    (case sa7 => k_is)
    (case mk7 => k_is)
    (case kc7 => k_is)
    (case pg8 => k_is)
    (case hd8 => k_is)
    (case po8 => k_is)
    (case sa8 => k_is)
    (case mk8 => k_is)
    (case kc8 => k_is)
    (case na7 => k_is)
    (case na8 => k_is)
    (case hn => k_is)
    (case htk => k_is)
    (case chB => k_is)
    (case chD => k_is)
    (case chT => k_is)
    (case xBadPrime => k_exc)
    (case kBadPrime => k_is)
    (case bBadPrime => k_is)
    (case tBadPrime => k_is)
    (case chSBadPrime => k_is)
    (case gaBadPrime => k_is)
    (case gtBadPrime => k_is)
    (case hdBadPrime => k_is)
    (case haBadPrime => k_is)
    (case hmBadPrime => k_is)
    (case ktBadPrimeBadPrime => kit_is)
    (case ktBadPrimeBadMany => kit_is)
    (case ktBadPrimeBadSome => kit_is)
    (case ktBadPrimeBadNumber => kit_is)
    (case ktBadPrimeNotFree => kit_is)
    (case ktvBadPrime => kit_is)
    (case xBadMany => k_exc)
    (case kBadMany => k_is)
    (case bBadMany => k_is)
    (case tBadMany => k_is)
    (case chSBadMany => k_is)
    (case gaBadMany => k_is)
    (case gtBadMany => k_is)
    (case hdBadMany => k_is)
    (case haBadMany => k_is)
    (case hmBadMany => k_is)
    (case ktBadManyBadPrime => kit_is)
    (case ktBadManyBadMany => kit_is)
    (case ktBadManyBadSome => kit_is)
    (case ktBadManyBadNumber => kit_is)
    (case ktBadManyNotFree => kit_is)
    (case ktvBadMany => kit_is)
    (case xBadSome => k_exc)
    (case kBadSome => k_is)
    (case bBadSome => k_is)
    (case tBadSome => k_is)
    (case chSBadSome => k_is)
    (case gaBadSome => k_is)
    (case gtBadSome => k_is)
    (case hdBadSome => k_is)
    (case haBadSome => k_is)
    (case hmBadSome => k_is)
    (case ktBadSomeBadPrime => kit_is)
    (case ktBadSomeBadMany => kit_is)
    (case ktBadSomeBadSome => kit_is)
    (case ktBadSomeBadNumber => kit_is)
    (case ktBadSomeNotFree => kit_is)
    (case ktvBadSome => kit_is)
    (case xBadNumber => k_exc)
    (case kBadNumber => k_is)
    (case bBadNumber => k_is)
    (case tBadNumber => k_is)
    (case chSBadNumber => k_is)
    (case gaBadNumber => k_is)
    (case gtBadNumber => k_is)
    (case hdBadNumber => k_is)
    (case haBadNumber => k_is)
    (case hmBadNumber => k_is)
    (case ktBadNumberBadPrime => kit_is)
    (case ktBadNumberBadMany => kit_is)
    (case ktBadNumberBadSome => kit_is)
    (case ktBadNumberBadNumber => kit_is)
    (case ktBadNumberNotFree => kit_is)
    (case ktvBadNumber => kit_is)
    (case xNotFree => k_exc)
    (case kNotFree => k_is)
    (case bNotFree => k_is)
    (case tNotFree => k_is)
    (case chSNotFree => k_is)
    (case gaNotFree => k_is)
    (case gtNotFree => k_is)
    (case hdNotFree => k_is)
    (case haNotFree => k_is)
    (case hmNotFree => k_is)
    (case ktNotFreeBadPrime => kit_is)
    (case ktNotFreeBadMany => kit_is)
    (case ktNotFreeBadSome => kit_is)
    (case ktNotFreeBadNumber => kit_is)
    (case ktNotFreeNotFree => kit_is)
    (case ktvNotFree => kit_is)
