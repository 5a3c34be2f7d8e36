import PyProof.Rows.All
import Wide.All
import OpenK.AllK
import Wide.FinOn
import HandS.ForMost
import HandS.Zip
import HandS.IsInst
import HandS.Wide
import HandS.TupAny
import HandS.Conv
import HandS.ForExc
import HandS.ExcCtx
import HandS.HotCalls
import HandS.ExcIs
import HandS.CallLocal
import HandS.Nested
import HandS.EndTab
import KE.KNestM
import HandS.TupMul
import HandS.RaiseMore
import HandS.TupMul
import HandS.FStr
import HandS.Style
import KE.GoesEnum
import PySem.Challenge.RW_freerides_k14_who_is_refused
set_option Elab.async false
set_option linter.all false
set_option maxRecDepth 100000
namespace FR
/-! ### the mathematics: cards cs, stamps ss -/
/-- how many full cards the stamps make, with those of n rides -/
def fc : List Int → List Int → Int → Int
  | c :: cs, s :: ss, n => (s + n) / c + fc cs ss n
  | _, _, _ => 0
/-- the least multiple, by steps -/
def perGo : Nat → Int → Int → Int → Int
  | 0, _, period, _ => period
  | n + 1, step, period, full => if period % full = 0 then period else perGo n step (period + step) full
theorem perGo_succ {n : Nat} {step period full : Int} : perGo (n + 1) step period full = if period % full = 0 then period else perGo n step (period + step) full := rfl
def perFrom (p : Int) (cs : List Int) : Int := cs.foldl (fun p c => perGo 20 p p c) p
def perOf (cs : List Int) : Int := perFrom 1 cs
/-- the full cards of a whole period -/
def pq (P : Int) : List Int → Int
  | [] => 0
  | c :: cs => P / c + pq P cs
def Cards (cs : List Int) : Prop := 1 ≤ cs.length ∧ cs.length ≤ 3 ∧ ∀ c ∈ cs, (2 : Int) ≤ c ∧ c ≤ 20
theorem perGo_ok {full step : Int} (h2 : 2 ≤ full) (h20 : full ≤ 20) : ∀ (n : Nat) (k : Int), 1 ≤ k → k ≤ full → (n : Int) + k = 21 → ∃ j, perGo n step (step * k) full = step * j ∧ 1 ≤ j ∧ j ≤ full ∧ (step * j) % full = 0
  | 0, k, h1, h3, h4 => by omega
  | n + 1, k, h1, h3, h4 => by
    unfold perGo
    by_cases c : (step * k) % full = 0
    · rw [if_pos c]
      exact ⟨k, rfl, h1, h3, c⟩
    · rw [if_neg c]
      have hk : k ≠ full := fun e => c (by rw [e]; exact Int.mul_emod_left _ _)
      have e : step * k + step = step * (k + 1) := by rw [Int.mul_add, Int.mul_one]
      rw [e]
      exact perGo_ok h2 h20 n (k + 1) (by omega) (by omega) (by omega)
theorem perFrom_ok : ∀ (cs : List Int) (p : Int), (∀ c ∈ cs, (2 : Int) ≤ c ∧ c ≤ 20) → 1 ≤ p → 1 ≤ perFrom p cs ∧ perFrom p cs ≤ p * 20 ^ cs.length ∧ p ∣ perFrom p cs ∧ ∀ c ∈ cs, c ∣ perFrom p cs
  | [], p, h, h1 => ⟨h1, by show p ≤ p * 1; omega, Int.dvd_refl _, fun c hc => nomatch hc⟩
  | c :: cs, p, h, h1 => by
    obtain ⟨hc2, hc20⟩ := h c (List.mem_cons_self ..)
    obtain ⟨j, e, j1, j2, j3⟩ := perGo_ok (full := c) (step := p) hc2 hc20 20 1 (by omega) (by omega) (by omega)
    rw [Int.mul_one] at e
    have hp : 1 ≤ p * j := by
      have := Int.mul_le_mul h1 j1 (by omega) (by omega)
      omega
    obtain ⟨a, b, d, f⟩ := perFrom_ok cs (p * j) (fun x hx => h x (List.mem_cons_of_mem _ hx)) hp
    have e2 : perFrom p (c :: cs) = perFrom (p * j) cs := by
      show perFrom (perGo 20 p p c) cs = _
      rw [e]
    rw [e2]
    refine ⟨a, Int.le_trans b ?_, Int.dvd_trans (Int.dvd_mul_right p j) d, fun x hx => ?_⟩
    · have g1 : p * j ≤ p * 20 := Int.mul_le_mul_of_nonneg_left (by omega) (by omega)
      have g2 : (p * j) * 20 ^ cs.length ≤ (p * 20) * 20 ^ cs.length := Int.mul_le_mul_of_nonneg_right g1 (Int.le_of_lt (Int.pow_pos (by omega)))
      rw [List.length_cons, Int.pow_succ, Int.mul_comm (20 ^ cs.length) 20, ← Int.mul_assoc]
      exact g2
    · rcases List.mem_cons.mp hx with g | g
      · rw [g]
        exact Int.dvd_trans (Int.dvd_of_emod_eq_zero j3) d
      · exact f x g
theorem perOf_ok {cs : List Int} (h : Cards cs) : 1 ≤ perOf cs ∧ perOf cs ≤ 8000 ∧ ∀ c ∈ cs, c ∣ perOf cs := by
  obtain ⟨a, b, _, d⟩ := perFrom_ok cs 1 h.2.2 (by omega)
  refine ⟨a, Int.le_trans b ?_, d⟩
  have h3 : cs.length = 1 ∨ cs.length = 2 ∨ cs.length = 3 := by
    have := h.1
    have := h.2.1
    omega
  rcases h3 with e | e | e <;> rw [e] <;> decide
theorem fc_mono : ∀ (cs ss : List Int) {m n : Int}, (∀ c ∈ cs, (2 : Int) ≤ c) → m ≤ n → fc cs ss m ≤ fc cs ss n
  | [], _, _, _, _, _ => by simp [fc]
  | c :: cs, [], _, _, _, _ => by simp [fc]
  | c :: cs, s :: ss, m, n, h, hm => by
    have h1 := fc_mono cs ss (fun x hx => h x (List.mem_cons_of_mem _ hx)) hm
    have h2 : (s + m) / c ≤ (s + n) / c := Int.ediv_le_ediv (by have := h c (List.mem_cons_self ..); omega) (by omega)
    show (s + m) / c + fc cs ss m ≤ (s + n) / c + fc cs ss n
    omega
theorem fc_nonneg : ∀ (cs ss : List Int) {n : Int}, (∀ c ∈ cs, (2 : Int) ≤ c) → (∀ s ∈ ss, (0 : Int) ≤ s) → 0 ≤ n → 0 ≤ fc cs ss n
  | [], _, _, _, _, _ => by simp [fc]
  | c :: cs, [], _, _, _, _ => by simp [fc]
  | c :: cs, s :: ss, n, h, hs, hn => by
    have h1 := fc_nonneg cs ss (fun x hx => h x (List.mem_cons_of_mem _ hx)) (fun x hx => hs x (List.mem_cons_of_mem _ hx)) hn
    have h2 : 0 ≤ (s + n) / c := Int.ediv_nonneg (by have := hs s (List.mem_cons_self ..); omega) (by have := h c (List.mem_cons_self ..); omega)
    show 0 ≤ (s + n) / c + fc cs ss n
    omega
theorem fc_per : ∀ (cs ss : List Int) {m P q : Int}, cs.length = ss.length → (∀ c ∈ cs, (2 : Int) ≤ c) → (∀ c ∈ cs, c ∣ P) → fc cs ss (m + P * q) = fc cs ss m + q * pq P cs
  | [], _, _, _, _, _, _, _ => by simp [fc, pq]
  | c :: cs, [], _, _, _, h, _, _ => by simp at h
  | c :: cs, s :: ss, m, P, q, hl, h, hd => by
    have h1 := fc_per cs ss (m := m) (P := P) (q := q) (by simpa using hl) (fun x hx => h x (List.mem_cons_of_mem _ hx)) (fun x hx => hd x (List.mem_cons_of_mem _ hx))
    have hc := h c (List.mem_cons_self ..)
    obtain ⟨k, rfl⟩ := hd c (List.mem_cons_self ..)
    have h2 : (s + (m + c * k * q)) / c = (s + m) / c + k * q := by
      rw [← Int.add_assoc, Int.mul_assoc, Int.add_mul_ediv_left _ _ (by omega)]
    have h3 : c * k / c = k := Int.mul_ediv_cancel_left _ (by omega)
    show (s + (m + c * k * q)) / c + fc cs ss (m + c * k * q) = (s + m) / c + fc cs ss m + q * (c * k / c + pq (c * k) cs)
    rw [h1, h2, h3, Int.mul_add, Int.mul_comm k q]
    omega
/-- what is told of rides and stamps: the least number that pays for itself, or none -/
def Least (cs : List Int) (r : Int) (ss : List Int) (t : Int) : Prop := 0 ≤ t ∧ r + fc cs ss t = t ∧ ∀ m, 0 ≤ m → m < t → m < r + fc cs ss m
def Never (cs : List Int) (r : Int) (ss : List Int) : Prop := ∀ m, 0 ≤ m → m < r + fc cs ss m
theorem never_of {cs ss : List Int} {r : Int} (hC : Cards cs) (hl : cs.length = ss.length) (hp : perOf cs ≤ pq (perOf cs) cs) (h : ∀ m, 0 ≤ m → m < perOf cs → m < r + fc cs ss m) : Never cs r ss := by
  intro m hm
  obtain ⟨p1, p2, p3⟩ := perOf_ok hC
  have e : m = m % perOf cs + perOf cs * (m / perOf cs) := (Int.emod_add_mul_ediv m (perOf cs)).symm
  have h0 := Int.emod_nonneg m (show perOf cs ≠ 0 by omega)
  have h1 := Int.emod_lt_of_pos m (show 0 < perOf cs by omega)
  have h2 := h _ h0 h1
  have hq : 0 ≤ m / perOf cs := Int.ediv_nonneg hm (by omega)
  have h3 := fc_per cs ss (m := m % perOf cs) (P := perOf cs) (q := m / perOf cs) hl (fun c hc => (hC.2.2 c hc).1) p3
  have h4 : (m / perOf cs) * perOf cs ≤ (m / perOf cs) * pq (perOf cs) cs := Int.mul_le_mul_of_nonneg_left hp hq
  rw [← e] at h3
  rw [h3]
  rw [Int.mul_comm] at h4
  omega
/-- where a period does not pay, some number is enough -/
def bound (cs : List Int) (r : Int) (ss : List Int) : Int := perOf cs * (r + fc cs ss 0)
theorem bound_ok {cs ss : List Int} {r : Int} (hC : Cards cs) (hl : cs.length = ss.length) (hs : ∀ s ∈ ss, (0 : Int) ≤ s) (hr : 0 ≤ r) (hp : pq (perOf cs) cs < perOf cs) : 0 ≤ bound cs r ss ∧ r + fc cs ss (bound cs r ss) ≤ bound cs r ss := by
  obtain ⟨p1, p2, p3⟩ := perOf_ok hC
  have h0 := fc_nonneg cs ss (n := 0) (fun c hc => (hC.2.2 c hc).1) hs (by omega)
  have h3 := fc_per cs ss (m := 0) (P := perOf cs) (q := r + fc cs ss 0) hl (fun c hc => (hC.2.2 c hc).1) p3
  rw [Int.zero_add] at h3
  have h4 : (r + fc cs ss 0) * pq (perOf cs) cs ≤ (r + fc cs ss 0) * (perOf cs - 1) := Int.mul_le_mul_of_nonneg_left (by omega) (by omega)
  rw [Int.mul_sub, Int.mul_one, Int.mul_comm _ (perOf cs)] at h4
  unfold bound
  refine ⟨Int.mul_nonneg (by omega) (by omega), ?_⟩
  rw [h3]
  omega
/-- one more round of the search -/
theorem least_step {cs ss : List Int} {r had : Int} (hC : Cards cs) (h : ∀ m, 0 ≤ m → m < had → m < r + fc cs ss m) (h0 : 0 ≤ had) : ∀ m, 0 ≤ m → m < r + fc cs ss had → m < r + fc cs ss m := by
  intro m hm h1
  by_cases c : m < had
  · exact h m hm c
  · have := fc_mono cs ss (m := had) (n := m) (fun c hc => (hC.2.2 c hc).1) (by omega)
    omega
theorem least_unique {cs ss : List Int} {r t u : Int} (a : Least cs r ss t) (b : Least cs r ss u) : t = u := by
  obtain ⟨a0, a1, a2⟩ := a
  obtain ⟨b0, b1, b2⟩ := b
  by_cases c : t < u
  · have := b2 t a0 c
    omega
  · by_cases d : u < t
    · have := a2 u b0 d
      omega
    · omega
theorem least_never {cs ss : List Int} {r t : Int} (a : Least cs r ss t) (b : Never cs r ss) : False := by
  have := b t a.1
  have := a.2.1
  omega
end FR
namespace FR
/-! ### the lists that the program sums -/
def fcl (cs ss : List Int) (n : Int) : List Int := (cs.zip ss).map fun p => (p.2 + n) / p.1
theorem fcl_get {cs ss : List Int} {n : Int} {i : Nat} {c s : Int} (h1 : cs[i]? = some c) (h2 : ss[i]? = some s) : (fcl cs ss n)[i]? = some ((s + n) / c) := by
  unfold fcl
  have hz : (cs.zip ss)[i]? = some (c, s) := List.getElem?_zip_eq_some.mpr ⟨h1, h2⟩
  rw [List.getElem?_map, hz]
  rfl
theorem fcl_sum : ∀ (cs ss : List Int) (n : Int), (fcl cs ss n).sum = fc cs ss n
  | [], _, _ => by simp [fcl, fc]
  | _ :: _, [], _ => by simp [fcl, fc]
  | c :: cs, s :: ss, n => by
    have := fcl_sum cs ss n
    show ((s + n) / c :: fcl cs ss n).sum = (s + n) / c + fc cs ss n
    rw [List.sum_cons, this]
theorem fcl_len {cs ss : List Int} {n : Int} (h : cs.length = ss.length) : (fcl cs ss n).length = cs.length := by
  unfold fcl
  rw [List.length_map, List.length_zip]
  omega
theorem pq_sum (P : Int) : ∀ (cs : List Int), (cs.map (fun c => P / c)).sum = pq P cs
  | [] => rfl
  | c :: cs => by
    rw [List.map_cons, List.sum_cons, pq_sum P cs]
    rfl
/-- what is left -/
def lf (cs ss : List Int) (n : Int) : List Int := (cs.zip ss).map fun p => (p.2 + n) % p.1
theorem lf_get {cs ss : List Int} {n : Int} {i : Nat} {c s : Int} (h1 : cs[i]? = some c) (h2 : ss[i]? = some s) : (lf cs ss n)[i]? = some ((s + n) % c) := by
  unfold lf
  have hz : (cs.zip ss)[i]? = some (c, s) := List.getElem?_zip_eq_some.mpr ⟨h1, h2⟩
  rw [List.getElem?_map, hz]
  rfl
theorem lf_len {cs ss : List Int} {n : Int} (h : cs.length = ss.length) : (lf cs ss n).length = cs.length := by
  unfold lf
  rw [List.length_map, List.length_zip]
  omega
end FR
namespace FR
theorem fc_set_s : ∀ (cs ss : List Int) (i : Nat) {s m : Int}, (∀ c ∈ cs, (2 : Int) ≤ c) → ss[i]? = some s → fc cs ss m ≤ fc cs (ss.set i (s + 1)) m
  | [], _, _, _, _, _, _ => by simp [fc]
  | _ :: _, [], _, _, _, _, h => by simp at h
  | c :: cs, x :: ss, 0, s, m, hc, h => by
    have e : x = s := Option.some.inj h
    subst e
    have h2 : (x + m) / c ≤ (x + 1 + m) / c := Int.ediv_le_ediv (by have := hc c (List.mem_cons_self ..); omega) (by omega)
    show (x + m) / c + fc cs ss m ≤ (x + 1 + m) / c + fc cs ss m
    omega
  | c :: cs, x :: ss, i + 1, s, m, hc, h => by
    have ih := fc_set_s cs ss i (s := s) (m := m) (fun y hy => hc y (List.mem_cons_of_mem _ hy)) (by simpa using h)
    show (x + m) / c + fc cs ss m ≤ (x + m) / c + fc cs (ss.set i (s + 1)) m
    omega
theorem div_anti {x c d : Int} (h0 : 0 ≤ x) (hc : 0 < c) (h : c ≤ d) : x / d ≤ x / c := by
  have h1 : 0 ≤ x / d := Int.ediv_nonneg h0 (by omega)
  refine Int.le_ediv_of_mul_le hc ?_
  have h2 : x / d * c ≤ x / d * d := Int.mul_le_mul_of_nonneg_left h h1
  have h3 : x / d * d ≤ x := Int.ediv_mul_le x (by omega)
  omega
theorem fc_set_c : ∀ (cs ss : List Int) (i : Nat) {c d m : Int}, (∀ c ∈ cs, (2 : Int) ≤ c) → (∀ s ∈ ss, (0 : Int) ≤ s) → 0 ≤ m → cs[i]? = some c → c ≤ d → fc (cs.set i d) ss m ≤ fc cs ss m
  | [], _, _, _, _, _, _, _, _, h, _ => by simp at h
  | _ :: _, [], _, _, _, _, _, _, _, _, _ => by simp [fc]
  | x :: cs, s :: ss, 0, c, d, m, hc, hs, hm, h, hd => by
    have e : x = c := Option.some.inj h
    subst e
    have h2 : (s + m) / d ≤ (s + m) / x := div_anti (by have := hs s (List.mem_cons_self ..); omega) (by have := hc x (List.mem_cons_self ..); omega) hd
    show (s + m) / d + fc cs ss m ≤ (s + m) / x + fc cs ss m
    omega
  | x :: cs, s :: ss, i + 1, c, d, m, hc, hs, hm, h, hd => by
    have ih := fc_set_c cs ss i (c := c) (d := d) (m := m) (fun y hy => hc y (List.mem_cons_of_mem _ hy)) (fun y hy => hs y (List.mem_cons_of_mem _ hy)) hm (by simpa using h) hd
    show (s + m) / x + fc (cs.set i d) ss m ≤ (s + m) / x + fc cs ss m
    omega
theorem set_cut {xs : List Int} {i : Nat} {y : Int} (h : i < xs.length) : xs.take i ++ [y] ++ xs.drop (i + 1) = xs.set i y := by
  rw [List.set_eq_take_append_cons_drop, if_pos h, List.append_assoc]
  rfl
theorem cards_set {cs : List Int} {i : Nat} {d : Int} (h : Cards cs) (h2 : 2 ≤ d) (h20 : d ≤ 20) : Cards (cs.set i d) := by
  refine ⟨by rw [List.length_set]; exact h.1, by rw [List.length_set]; exact h.2.1, fun c hc => ?_⟩
  rcases List.mem_or_eq_of_mem_set hc with g | g
  · exact h.2.2 c g
  · omega
end FR
namespace FR
/-! ### how many are wanted -/
def Want (cs ss : List Int) (a b v : Int) : Prop := 0 ≤ v ∧ (∀ m, a ≤ m → m < b → m + 1 - fc cs ss m ≤ v) ∧ (v = 0 ∨ ∃ m, a ≤ m ∧ m < b ∧ v = m + 1 - fc cs ss m)
theorem want_step {cs ss : List Int} {a b v : Int} (h : Want cs ss a b v) (hab : a ≤ b) : Want cs ss a (b + 1) (if b + 1 - fc cs ss b > v then b + 1 - fc cs ss b else v) := by
  obtain ⟨h0, h1, h2⟩ := h
  split
  · refine ⟨by omega, fun m m0 m1 => ?_, .inr ⟨b, hab, by omega, rfl⟩⟩
    by_cases c : m < b
    · have := h1 m m0 c
      omega
    · have e : m = b := by omega
      rw [e]
      omega
  · refine ⟨h0, fun m m0 m1 => ?_, ?_⟩
    · by_cases c : m < b
      · exact h1 m m0 c
      · have e : m = b := by omega
        rw [e]
        omega
    · rcases h2 with g | ⟨m, m0, m1, g⟩
      · exact .inl g
      · exact .inr ⟨m, m0, by omega, g⟩
theorem want_pays {cs ss : List Int} {n v : Int} (hC : Cards cs) (hl : cs.length = ss.length) (hp : perOf cs ≤ pq (perOf cs) cs) (hn : perOf cs ≤ n) (h : Want cs ss 0 (perOf cs) v) : Want cs ss 0 n v := by
  obtain ⟨h0, h1, h2⟩ := h
  obtain ⟨p1, p2, p3⟩ := perOf_ok hC
  refine ⟨h0, fun m m0 m1 => ?_, ?_⟩
  · have e : m = m % perOf cs + perOf cs * (m / perOf cs) := (Int.emod_add_mul_ediv m (perOf cs)).symm
    have g0 := Int.emod_nonneg m (show perOf cs ≠ 0 by omega)
    have g1 := Int.emod_lt_of_pos m (show 0 < perOf cs by omega)
    have g2 := h1 _ g0 g1
    have hq : 0 ≤ m / perOf cs := Int.ediv_nonneg m0 (by omega)
    have g3 := fc_per cs ss (m := m % perOf cs) (P := perOf cs) (q := m / perOf cs) hl (fun c hc => (hC.2.2 c hc).1) p3
    have g4 : (m / perOf cs) * perOf cs ≤ (m / perOf cs) * pq (perOf cs) cs := Int.mul_le_mul_of_nonneg_left hp hq
    rw [← e] at g3
    rw [g3]
    rw [Int.mul_comm] at g4
    omega
  · rcases h2 with g | ⟨m, m0, m1, g⟩
    · exact .inl g
    · exact .inr ⟨m, m0, by omega, g⟩
theorem want_wears {cs ss : List Int} {n v : Int} (hC : Cards cs) (hl : cs.length = ss.length) (hp : pq (perOf cs) cs < perOf cs) (hn : 0 ≤ n - perOf cs) (h : Want cs ss (n - perOf cs) n v) : Want cs ss 0 n v := by
  obtain ⟨h0, h1, h2⟩ := h
  obtain ⟨p1, p2, p3⟩ := perOf_ok hC
  refine ⟨h0, fun m m0 m1 => ?_, ?_⟩
  · have e : n - 1 - m = (n - 1 - m) % perOf cs + perOf cs * ((n - 1 - m) / perOf cs) := (Int.emod_add_mul_ediv _ (perOf cs)).symm
    have g0 := Int.emod_nonneg (n - 1 - m) (show perOf cs ≠ 0 by omega)
    have g1 := Int.emod_lt_of_pos (n - 1 - m) (show 0 < perOf cs by omega)
    have hq : 0 ≤ (n - 1 - m) / perOf cs := Int.ediv_nonneg (by omega) (by omega)
    have g3 := fc_per cs ss (m := m) (P := perOf cs) (q := (n - 1 - m) / perOf cs) hl (fun c hc => (hC.2.2 c hc).1) p3
    have g4 : ((n - 1 - m) / perOf cs) * pq (perOf cs) cs ≤ ((n - 1 - m) / perOf cs) * perOf cs := Int.mul_le_mul_of_nonneg_left (by omega) hq
    rw [Int.mul_comm _ (perOf cs)] at g4
    have g2 := h1 (m + perOf cs * ((n - 1 - m) / perOf cs)) (by omega) (by omega)
    omega
  · rcases h2 with g | ⟨m, m0, m1, g⟩
    · exact .inl g
    · exact .inr ⟨m, by omega, m1, g⟩
theorem want_le {cs ss : List Int} {n v : Int} (hC : Cards cs) (hs : ∀ s ∈ ss, (0 : Int) ≤ s) (hn : 0 ≤ n) (h : Want cs ss 0 n v) : v ≤ n := by
  rcases h.2.2 with g | ⟨m, m0, m1, g⟩
  · omega
  · have := fc_nonneg cs ss (n := m) (fun c hc => (hC.2.2 c hc).1) hs m0
    omega
theorem want_enough {cs ss : List Int} {n v t : Int} (h : Want cs ss 0 n v) (l : Least cs v ss t) : n ≤ t := by
  obtain ⟨l0, l1, l2⟩ := l
  by_cases c : t < n
  · have := h.2.1 t l0 c
    omega
  · omega
theorem want_fewer {cs ss : List Int} {n v t : Int} (h : Want cs ss 0 n v) (h0 : 0 < v) (l : Least cs (v - 1) ss t) : t < n := by
  obtain ⟨l0, l1, l2⟩ := l
  rcases h.2.2 with g | ⟨m, m0, m1, g⟩
  · omega
  · by_cases c : m < t
    · have := l2 m m0 c
      omega
    · omega
theorem want_fewer' {cs ss : List Int} {n v : Int} (h : Want cs ss 0 n v) (h0 : 0 < v) (l : Never cs (v - 1) ss) : False := by
  rcases h.2.2 with g | ⟨m, m0, m1, g⟩
  · omega
  · have := l m m0
    omega
theorem want_never {cs ss : List Int} {v : Int} (hC : Cards cs) (hl : cs.length = ss.length) (hp : perOf cs ≤ pq (perOf cs) cs) (h : Want cs ss 0 (perOf cs) v) : Never cs v ss :=
  never_of hC hl hp fun m m0 m1 => by
    have := h.2.1 m m0 m1
    omega
theorem never_more {cs ss : List Int} {v w : Int} (h : Never cs v ss) (hw : v ≤ w) : Never cs w ss := fun m m0 => by
  have := h m m0
  omega
theorem wears_ends {cs ss : List Int} {r : Int} (hC : Cards cs) (hl : cs.length = ss.length) (hs : ∀ s ∈ ss, (0 : Int) ≤ s) (hr : 0 ≤ r) (hp : pq (perOf cs) cs < perOf cs) (h : Never cs r ss) : False := by
  obtain ⟨b0, b1⟩ := bound_ok hC hl hs hr hp
  have := h _ b0
  omega
end FR
namespace FR
/-! ### deeds in any order: k rides ridden, G full cards given, zs the stamps now -/
def Gone : List Int → List Int → List Int → Int → Int → Prop
  | c :: cs, s :: ss, z :: zs, k, G => ∃ g, 0 ≤ z ∧ z + c * g = s + k ∧ Gone cs ss zs k (G - g)
  | [], [], [], _, G => G = 0
  | _, _, _, _, _ => False
theorem gone_start : ∀ (cs ss : List Int), cs.length = ss.length → (∀ s ∈ ss, (0 : Int) ≤ s) → Gone cs ss ss 0 0
  | [], [], _, _ => rfl
  | c :: cs, s :: ss, hl, hs => ⟨0, hs s (List.mem_cons_self ..), by omega, by
      have := gone_start cs ss (by simpa using hl) (fun x hx => hs x (List.mem_cons_of_mem _ hx))
      simpa using this⟩
theorem gone_len : ∀ (cs ss zs : List Int) {k G : Int}, Gone cs ss zs k G → zs.length = cs.length ∧ ss.length = cs.length
  | [], [], [], _, _, _ => ⟨rfl, rfl⟩
  | c :: cs, s :: ss, z :: zs, k, G, ⟨g, _, _, h⟩ => by
    have := gone_len cs ss zs h
    simp only [List.length_cons]
    omega
theorem gone_ride : ∀ (cs ss zs : List Int) {k G : Int}, Gone cs ss zs k G → Gone cs ss (zs.map (· + 1)) (k + 1) G
  | [], [], [], _, _, h => h
  | c :: cs, s :: ss, z :: zs, k, G, ⟨g, h0, h1, h2⟩ => ⟨g, by show 0 ≤ z + 1; omega, by show z + 1 + c * g = s + (k + 1); omega, gone_ride cs ss zs h2⟩
theorem gone_give : ∀ (cs ss zs : List Int) (i : Nat) {k G c z : Int}, Gone cs ss zs k G → cs[i]? = some c → zs[i]? = some z → c ≤ z → Gone cs ss (zs.set i (z - c)) k (G + 1)
  | [], [], [], i, _, _, _, _, _, h, _, _ => by simp at h
  | c :: cs, s :: ss, z :: zs, 0, k, G, c', z', ⟨g, h0, h1, h2⟩, hc, hz, h => by
    have e1 : c = c' := Option.some.inj hc
    have e2 : z = z' := Option.some.inj hz
    subst e1 e2
    refine ⟨g + 1, by omega, ?_, ?_⟩
    · rw [Int.mul_add, Int.mul_one]
      omega
    · have e : G + 1 - (g + 1) = G - g := by omega
      rw [e]
      exact h2
  | c :: cs, s :: ss, z :: zs, i + 1, k, G, c', z', ⟨g, h0, h1, h2⟩, hc, hz, h => by
    refine ⟨g, h0, h1, ?_⟩
    have := gone_give cs ss zs i h2 (by simpa using hc) (by simpa using hz) h
    have e : G + 1 - g = G - g + 1 := by omega
    rw [e]
    exact this
theorem gone_le : ∀ (cs ss zs : List Int) {k G : Int}, (∀ c ∈ cs, (2 : Int) ≤ c) → Gone cs ss zs k G → G ≤ fc cs ss k
  | [], [], [], _, G, _, h => by
    have e : G = 0 := h
    simp [fc, e]
  | c :: cs, s :: ss, z :: zs, k, G, hc, ⟨g, h0, h1, h2⟩ => by
    have ih := gone_le cs ss zs (fun x hx => hc x (List.mem_cons_of_mem _ hx)) h2
    have h3 : g ≤ (s + k) / c := Int.le_ediv_of_mul_le (by have := hc c (List.mem_cons_self ..); omega) (by rw [Int.mul_comm]; omega)
    show G ≤ (s + k) / c + fc cs ss k
    omega
theorem gone_end : ∀ (cs ss zs : List Int) {k G : Int}, (∀ c ∈ cs, (2 : Int) ≤ c) → Gone cs ss zs k G → (∀ (i : Nat) (c z : Int), cs[i]? = some c → zs[i]? = some z → z < c) → G = fc cs ss k ∧ zs = lf cs ss k
  | [], [], [], _, G, _, h, _ => by
    have e : G = 0 := h
    simp [fc, lf, e]
  | c :: cs, s :: ss, z :: zs, k, G, hc, ⟨g, h0, h1, h2⟩, hz => by
    have ih := gone_end cs ss zs (fun x hx => hc x (List.mem_cons_of_mem _ hx)) h2 (fun i c z a b => hz (i + 1) c z (by simpa using a) (by simpa using b))
    have hlt : z < c := hz 0 c z rfl rfl
    have c2 := hc c (List.mem_cons_self ..)
    have e1 : s + k = z + c * g := by omega
    have h3 : (s + k) / c = g := by
      rw [e1, Int.add_mul_ediv_left _ _ (by omega), Int.ediv_eq_zero_of_lt h0 hlt]
      omega
    have h4 : (s + k) % c = z := by
      rw [e1, Int.add_mul_emod_self_left, Int.emod_eq_of_lt h0 hlt]
    refine ⟨?_, ?_⟩
    · show G = (s + k) / c + fc cs ss k
      omega
    · show z :: zs = (s + k) % c :: lf cs ss k
      rw [h4, ih.2]
def lsum : List Int → Int
  | [] => 0
  | z :: zs => z + lsum zs
theorem gone_nonneg : ∀ (cs ss zs : List Int) {k G : Int}, Gone cs ss zs k G → ∀ z ∈ zs, (0 : Int) ≤ z
  | [], [], [], _, _, _ => fun z hz => nomatch hz
  | c :: cs, s :: ss, z :: zs, k, G, ⟨g, h0, h1, h2⟩ => fun x hx => by
    rcases List.mem_cons.mp hx with e | e
    · rw [e]
      exact h0
    · exact gone_nonneg cs ss zs h2 x e
theorem lsum_nonneg : ∀ (zs : List Int), (∀ z ∈ zs, (0 : Int) ≤ z) → 0 ≤ lsum zs
  | [], _ => by simp [lsum]
  | z :: zs, h => by
    have := lsum_nonneg zs (fun x hx => h x (List.mem_cons_of_mem _ hx))
    have := h z (List.mem_cons_self ..)
    show 0 ≤ z + lsum zs
    omega
theorem lsum_ride : ∀ (zs : List Int), lsum (zs.map (· + 1)) = lsum zs + zs.length
  | [] => by simp [lsum]
  | z :: zs => by
    have := lsum_ride zs
    show z + 1 + lsum (zs.map (· + 1)) = z + lsum zs + ((zs.length + 1 : Nat) : Int)
    omega
theorem lsum_give : ∀ (zs : List Int) (i : Nat) {z c : Int}, zs[i]? = some z → lsum (zs.set i (z - c)) = lsum zs - c
  | [], _, _, _, h => by simp at h
  | x :: zs, 0, z, c, h => by
    have e : x = z := Option.some.inj h
    subst e
    show x - c + lsum zs = x + lsum zs - c
    omega
  | x :: zs, i + 1, z, c, h => by
    have := lsum_give zs i (c := c) (show zs[i]? = some z by simpa using h)
    show x + lsum (zs.set i (z - c)) = x + lsum zs - c
    omega
/-! ### common multiples of any kind -/
theorem pq_scale : ∀ (cs : List Int) {P W : Int}, (∀ c ∈ cs, (2 : Int) ≤ c) → (∀ c ∈ cs, c ∣ P) → (∀ c ∈ cs, c ∣ W) → pq P cs * W = pq W cs * P
  | [], _, _, _, _, _ => by simp [pq]
  | c :: cs, P, W, hc, hP, hW => by
    have ih := pq_scale cs (P := P) (W := W) (fun x hx => hc x (List.mem_cons_of_mem _ hx)) (fun x hx => hP x (List.mem_cons_of_mem _ hx)) (fun x hx => hW x (List.mem_cons_of_mem _ hx))
    have c2 := hc c (List.mem_cons_self ..)
    obtain ⟨p, hp⟩ := hP c (List.mem_cons_self ..)
    obtain ⟨w, hw⟩ := hW c (List.mem_cons_self ..)
    have e1 : P / c = p := by rw [hp]; exact Int.mul_ediv_cancel_left _ (by omega)
    have e2 : W / c = w := by rw [hw]; exact Int.mul_ediv_cancel_left _ (by omega)
    show (P / c + pq P cs) * W = (W / c + pq W cs) * P
    rw [Int.add_mul, Int.add_mul, ih, e1, e2]
    have e3 : p * W = w * P := by
      rw [hp, hw, Int.mul_left_comm p c w, Int.mul_left_comm w c p, Int.mul_comm p w]
    omega
theorem pays_any {cs : List Int} {P W : Int} (hc : ∀ c ∈ cs, (2 : Int) ≤ c) (hP : ∀ c ∈ cs, c ∣ P) (hW : ∀ c ∈ cs, c ∣ W) (p1 : 1 ≤ P) (w1 : 1 ≤ W) : P ≤ pq P cs ↔ W ≤ pq W cs := by
  have e := pq_scale cs hc hP hW
  constructor
  · intro h
    have h1 : P * W ≤ pq P cs * W := Int.mul_le_mul_of_nonneg_right h (by omega)
    rw [e] at h1
    rw [Int.mul_comm P W] at h1
    exact Int.le_of_mul_le_mul_right h1 (by omega)
  · intro h
    have h1 : W * P ≤ pq W cs * P := Int.mul_le_mul_of_nonneg_right h (by omega)
    rw [← e] at h1
    rw [Int.mul_comm W P] at h1
    exact Int.le_of_mul_le_mul_right h1 (by omega)
theorem never_any {cs ss : List Int} {r W : Int} (hC : Cards cs) (hl : cs.length = ss.length) (w1 : 1 ≤ W) (hW : ∀ c ∈ cs, c ∣ W) (hp : W ≤ pq W cs) (h : ∀ m, 0 ≤ m → m < W → m < r + fc cs ss m) : Never cs r ss := by
  intro m hm
  have e : m = m % W + W * (m / W) := (Int.emod_add_mul_ediv m W).symm
  have h0 := Int.emod_nonneg m (show W ≠ 0 by omega)
  have h1 := Int.emod_lt_of_pos m (show 0 < W by omega)
  have h2 := h _ h0 h1
  have hq : 0 ≤ m / W := Int.ediv_nonneg hm (by omega)
  have h3 := fc_per cs ss (m := m % W) (P := W) (q := m / W) hl (fun c hc => (hC.2.2 c hc).1) hW
  have h4 : (m / W) * W ≤ (m / W) * pq W cs := Int.mul_le_mul_of_nonneg_left hp hq
  rw [← e] at h3
  rw [h3]
  rw [Int.mul_comm] at h4
  omega
end FR
namespace FR
/-! ### no more than 4000 rides where few are begun with, and they wear off -/
def w3_b (a b c : Nat) : Bool := !(decide (2 ≤ a) && decide (2 ≤ b) && decide (2 ≤ c) && decide (b * c + (a * c + a * b) < a * (b * c))) || decide (4012 / a + (4012 / b + 4012 / c) ≤ 3916)
theorem w3_all : ((List.range 21).all fun a => (List.range 21).all fun b => (List.range 21).all fun c => w3_b a b c) = true := by decide +kernel
theorem w3_nat (a : Nat) (ha : a < 21) (b : Nat) (hb : b < 21) (c : Nat) (hc : c < 21) (a2 : 2 ≤ a) (b2 : 2 ≤ b) (c2 : 2 ≤ c) (h : b * c + (a * c + a * b) < a * (b * c)) : 4012 / a + (4012 / b + 4012 / c) ≤ 3916 := by
  have h1 := List.all_eq_true.mp w3_all a (List.mem_range.mpr ha)
  have h2 := List.all_eq_true.mp h1 b (List.mem_range.mpr hb)
  have h3 := List.all_eq_true.mp h2 c (List.mem_range.mpr hc)
  unfold w3_b at h3
  rw [decide_eq_true a2, decide_eq_true b2, decide_eq_true c2, decide_eq_true h] at h3
  exact of_decide_eq_true h3
theorem w2_nat : ∀ a : Nat, a < 21 → ∀ b : Nat, b < 21 → 2 ≤ a → 2 ≤ b → b + a < a * b → 4012 / a + 4012 / b ≤ 3916 := by decide +kernel
theorem as_nat {a : Int} (h2 : 2 ≤ a) (h20 : a ≤ 20) : ∃ n : Nat, a = (n : Int) ∧ n < 21 ∧ 2 ≤ n := ⟨a.toNat, by omega, by omega, by omega⟩
theorem few {s c : Int} (h : s ≤ 12) (hc : 2 ≤ c) : (s + 4000) / c ≤ 4012 / c := Int.ediv_le_ediv (by omega) (by omega)
theorem wears_few : ∀ {cs ss : List Int}, Cards cs → cs.length = ss.length → pq (perOf cs) cs < perOf cs → (∀ s ∈ ss, s ≤ 12) → fc cs ss 4000 ≤ 3916
  | [a], [s], hC, _, hp, hs => by
    obtain ⟨a2, a20⟩ := hC.2.2 a (by simp)
    have h1 := few (hs s (by simp)) a2
    have h2 : (4012 : Int) / a ≤ 4012 / 2 := div_anti (by omega) (by omega) a2
    show (s + 4000) / a + 0 ≤ 3916
    omega
  | [a, b], [s, t], hC, _, hp, hs => by
    obtain ⟨a2, a20⟩ := hC.2.2 a (by simp)
    obtain ⟨b2, b20⟩ := hC.2.2 b (by simp)
    have h1 := few (hs s (by simp)) a2
    have h2 := few (hs t (by simp)) b2
    obtain ⟨p1, _, p3⟩ := perOf_ok hC
    have hd : ∀ c ∈ [a, b], c ∣ a * b := by
      intro c hc
      simp only [List.mem_cons, List.not_mem_nil, or_false] at hc
      rcases hc with e | e <;> rw [e]
      · exact Int.dvd_mul_right a b
      · exact Int.dvd_mul_left a b
    have w1 : 1 ≤ a * b := by
      have := Int.mul_le_mul (show 1 ≤ a by omega) (show 1 ≤ b by omega) (by omega) (by omega)
      omega
    have hw : ¬ a * b ≤ pq (a * b) [a, b] := fun z => by
      have := (pays_any (fun c hc => (hC.2.2 c hc).1) hd p3 w1 p1).mp z
      omega
    have e1 : pq (a * b) [a, b] = b + (a + 0) := by
      show a * b / a + (a * b / b + 0) = b + (a + 0)
      rw [Int.mul_ediv_cancel_left _ (by omega), Int.mul_ediv_cancel _ (by omega)]
    rw [e1] at hw
    obtain ⟨n, rfl, n21, n2⟩ := as_nat a2 a20
    obtain ⟨m, rfl, m21, m2⟩ := as_nat b2 b20
    have := w2_nat n n21 m m21 n2 m2 (by have : ((m + n : Nat) : Int) < ((n * m : Nat) : Int) := by rw [Int.natCast_mul]; omega
                                         omega)
    show (s + 4000) / (n : Int) + ((t + 4000) / (m : Int) + 0) ≤ 3916
    have g1 : (4012 : Int) / (n : Int) = ((4012 / n : Nat) : Int) := rfl
    have g2 : (4012 : Int) / (m : Int) = ((4012 / m : Nat) : Int) := rfl
    omega
  | [a, b, c], [s, t, u], hC, _, hp, hs => by
    obtain ⟨a2, a20⟩ := hC.2.2 a (by simp)
    obtain ⟨b2, b20⟩ := hC.2.2 b (by simp)
    obtain ⟨c2, c20⟩ := hC.2.2 c (by simp)
    have h1 := few (hs s (by simp)) a2
    have h2 := few (hs t (by simp)) b2
    have h3 := few (hs u (by simp)) c2
    obtain ⟨p1, _, p3⟩ := perOf_ok hC
    have hd : ∀ x ∈ [a, b, c], x ∣ a * (b * c) := by
      intro x hx
      simp only [List.mem_cons, List.not_mem_nil, or_false] at hx
      rcases hx with e | e | e <;> rw [e]
      · exact Int.dvd_mul_right a _
      · exact Int.dvd_trans (Int.dvd_mul_right b c) (Int.dvd_mul_left a (b * c))
      · exact Int.dvd_trans (Int.dvd_mul_left b c) (Int.dvd_mul_left a (b * c))
    have w0 : 1 ≤ b * c := by
      have := Int.mul_le_mul (show 1 ≤ b by omega) (show 1 ≤ c by omega) (by omega) (by omega)
      omega
    have w1 : 1 ≤ a * (b * c) := by
      have := Int.mul_le_mul (show 1 ≤ a by omega) w0 (by omega) (by omega)
      omega
    have hw : ¬ a * (b * c) ≤ pq (a * (b * c)) [a, b, c] := fun z => by
      have := (pays_any (fun c hc => (hC.2.2 c hc).1) hd p3 w1 p1).mp z
      omega
    have e1 : pq (a * (b * c)) [a, b, c] = b * c + (a * c + (a * b + 0)) := by
      show a * (b * c) / a + (a * (b * c) / b + (a * (b * c) / c + 0)) = _
      rw [Int.mul_ediv_cancel_left _ (by omega), Int.mul_left_comm a b c, Int.mul_ediv_cancel_left _ (by omega), Int.mul_left_comm b a c, ← Int.mul_assoc, Int.mul_ediv_cancel _ (by omega)]
    rw [e1] at hw
    obtain ⟨n, rfl, n21, n2⟩ := as_nat a2 a20
    obtain ⟨m, rfl, m21, m2⟩ := as_nat b2 b20
    obtain ⟨l, rfl, l21, l2⟩ := as_nat c2 c20
    have := w3_nat n n21 m m21 l l21 n2 m2 l2 (by
      have z : ((m * l + (n * l + n * m) : Nat) : Int) < ((n * (m * l) : Nat) : Int) := by
        rw [Int.natCast_add, Int.natCast_add, Int.natCast_mul, Int.natCast_mul, Int.natCast_mul, Int.natCast_mul, Int.natCast_mul]
        omega
      omega)
    show (s + 4000) / (n : Int) + ((t + 4000) / (m : Int) + ((u + 4000) / (l : Int) + 0)) ≤ 3916
    have g1 : (4012 : Int) / (n : Int) = ((4012 / n : Nat) : Int) := rfl
    have g2 : (4012 : Int) / (m : Int) = ((4012 / m : Nat) : Int) := rfl
    have g3 : (4012 : Int) / (l : Int) = ((4012 / l : Nat) : Int) := rfl
    omega
  | [], _, hC, _, _, _ => absurd hC.1 (by simp)
  | _ :: _ :: _ :: _ :: _, _, hC, _, _, _ => absurd hC.2.1 (by simp)
theorem least_4000 {cs ss : List Int} {r t : Int} (hC : Cards cs) (hl : cs.length = ss.length) (hp : pq (perOf cs) cs < perOf cs) (hs : ∀ s ∈ ss, s ≤ 12) (hr : r ≤ 84) (h : Least cs r ss t) : t ≤ 4000 := by
  have h1 := wears_few hC hl hp hs
  by_cases c : t ≤ 4000
  · exact c
  · have := h.2.2 4000 (by omega) (by omega)
    omega
end FR
namespace FR
theorem pow20 {i : Nat} (h : i ≤ 3) : (20 : Int) ^ i ≤ 8000 := by
  have h3 : i = 0 ∨ i = 1 ∨ i = 2 ∨ i = 3 := by omega
  rcases h3 with e | e | e | e <;> rw [e] <;> decide
theorem whole_step {f c g : Int} (f1 : 1 ≤ f) (c2 : 2 ≤ c) (g0 : 0 < g) (gf : g ∣ f) (gc : g ∣ c) : 1 ≤ f * c / g ∧ f * c / g ≤ f * c ∧ f ∣ f * c / g ∧ c ∣ f * c / g := by
  obtain ⟨c', hc⟩ := gc
  obtain ⟨f', hf⟩ := gf
  have e1 : f * c / g = f * c' := by
    rw [hc, Int.mul_left_comm, Int.mul_ediv_cancel_left _ (by omega)]
  have e2 : f * c / g = f' * c := by
    rw [hf, Int.mul_assoc, Int.mul_ediv_cancel_left _ (by omega)]
  have c1 : 1 ≤ c' := by
    by_cases z : 1 ≤ c'
    · exact z
    · have : g * c' ≤ g * 0 := Int.mul_le_mul_of_nonneg_left (by omega) (by omega)
      omega
  have c3 : c' ≤ c := by
    have : 1 * c' ≤ g * c' := Int.mul_le_mul_of_nonneg_right (by omega) (by omega)
    omega
  have h1 : f * 1 ≤ f * c' := Int.mul_le_mul_of_nonneg_left c1 (by omega)
  have h2 : f * c' ≤ f * c := Int.mul_le_mul_of_nonneg_left c3 (by omega)
  refine ⟨by omega, by omega, ?_, ?_⟩
  · rw [e1]
    exact Int.dvd_mul_right f c'
  · rw [e2]
    exact Int.dvd_mul_left f' c
end FR
namespace FR
theorem least_13 : Least [4] 10 [0] 13 := ⟨by decide, by decide, fun m h0 h1 => by
  show m < 10 + ((0 + m) / 4 + 0)
  omega⟩
theorem least_1 : Least [2, 2] 1 [0, 0] 1 := ⟨by decide, by decide, fun m h0 h1 => by
  show m < 1 + ((0 + m) / 2 + ((0 + m) / 2 + 0))
  omega⟩
theorem never_22 : Never [2, 2] 2 [0, 0] := fun m h0 => by
  show m < 2 + ((0 + m) / 2 + ((0 + m) / 2 + 0))
  omega
theorem most_whole {cs ss : List Int} {r W t : Int} (hC : Cards cs) (hl : cs.length = ss.length) (hp : ¬ pq (perOf cs) cs < perOf cs) (w1 : 1 ≤ W) (hd : ∀ c ∈ cs, c ∣ W) (h : Least cs r ss t) : t ≤ W := by
  by_cases z : t ≤ W
  · exact z
  · obtain ⟨p1, _, p3⟩ := perOf_ok hC
    have hW := (pays_any (fun c hc => (hC.2.2 c hc).1) p3 hd p1 w1).mp (by omega)
    exact (least_never h (never_any hC hl w1 hd hW fun m m0 m1 => h.2.2 m m0 (by omega))).elim
end FR
namespace FR
/-! ### it ends, or never -/
theorem least_search {cs ss : List Int} {r : Int} (hC : Cards cs) (hs : ∀ s ∈ ss, (0 : Int) ≤ s) (hr : 0 ≤ r) : ∀ (n : Nat), (∀ m, 0 ≤ m → m < (n : Int) → m < r + fc cs ss m) ∨ ∃ t, Least cs r ss t
  | 0 => .inl fun m m0 m1 => by omega
  | n + 1 => by
    rcases least_search hC hs hr n with h | h
    · by_cases c : (n : Int) < r + fc cs ss n
      · refine .inl fun m m0 m1 => ?_
        by_cases g : m < (n : Int)
        · exact h m m0 g
        · have e : m = (n : Int) := by omega
          rw [e]
          exact c
      · refine .inr ⟨(n : Int), by omega, ?_, h⟩
        by_cases z : n = 0
        · subst z
          have := fc_nonneg cs ss (n := 0) (fun c hc => (hC.2.2 c hc).1) hs (by omega)
          have e : ((0 : Nat) : Int) = 0 := rfl
          rw [e] at c ⊢
          omega
        · have h1 := h ((n : Int) - 1) (by omega) (by omega)
          have h2 := fc_mono cs ss (m := (n : Int) - 1) (n := (n : Int)) (fun c hc => (hC.2.2 c hc).1) (by omega)
          omega
    · exact .inr h
theorem ends_or {cs ss : List Int} {r : Int} (hC : Cards cs) (hs : ∀ s ∈ ss, (0 : Int) ≤ s) (hr : 0 ≤ r) (h : ∀ t, ¬ Least cs r ss t) : Never cs r ss := by
  intro m m0
  rcases least_search hC hs hr (m.toNat + 1) with g | ⟨t, g⟩
  · exact g m m0 (by omega)
  · exact absurd g (h t)
theorem want_exists (cs ss : List Int) : ∀ n : Nat, ∃ v, Want cs ss 0 (n : Int) v
  | 0 => ⟨0, by omega, fun m m0 m1 => by omega, .inl rfl⟩
  | n + 1 => by
    obtain ⟨v, hv⟩ := want_exists cs ss n
    exact ⟨_, want_step hv (by omega)⟩
theorem want_unique {cs ss : List Int} {n v w : Int} (a : Want cs ss 0 n v) (b : Want cs ss 0 n w) : v = w := by
  have h1 : v ≤ w := by
    rcases a.2.2 with g | ⟨m, m0, m1, g⟩
    · have := b.1
      omega
    · have := b.2.1 m m0 m1
      omega
  have h2 : w ≤ v := by
    rcases b.2.2 with g | ⟨m, m0, m1, g⟩
    · have := a.1
      omega
    · have := a.2.1 m m0 m1
      omega
  omega
/-- from the wanted number on, and from no fewer -/
theorem want_iff {cs ss : List Int} {n v r : Int} (h : Want cs ss 0 n v) (r0 : 0 ≤ r) : (∀ m, 0 ≤ m → m < n → m < r + fc cs ss m) ↔ v ≤ r := by
  constructor
  · intro g
    rcases h.2.2 with e | ⟨m, m0, m1, e⟩
    · omega
    · have := g m m0 m1
      omega
  · intro g m m0 m1
    have := h.2.1 m m0 m1
    omega
theorem least_ge {cs ss : List Int} {r t n : Int} (h : Least cs r ss t) (hC : Cards cs) : n ≤ t ↔ ∀ m, 0 ≤ m → m < n → m < r + fc cs ss m := by
  constructor
  · intro g m m0 m1
    exact h.2.2 m m0 (by omega)
  · intro g
    by_cases c : n ≤ t
    · exact c
    · have := g t h.1 (by omega)
      have := h.2.1
      omega
theorem want_22 {t : Int} (h : Want [2, 2] [0, 0] 0 2 t) : t = 2 := by
  have h1 := h.2.1 1 (by omega) (by omega)
  have e1 : fc [2, 2] [0, 0] 1 = 0 := by decide
  rw [e1] at h1
  have := want_le (cs := [2, 2]) (ss := [0, 0]) ⟨by decide, by decide, by decide⟩ (by decide) (by omega) h
  omega
theorem want_4 {t : Int} (h : Want [4] [0] 0 13 t) : t = 10 := by
  have h1 := h.2.1 12 (by omega) (by omega)
  have e1 : fc [4] [0] 12 = 3 := by decide
  rw [e1] at h1
  rcases h.2.2 with g | ⟨m, m0, m1, g⟩
  · omega
  · have e : fc [4] [0] m = (0 + m) / 4 + 0 := rfl
    rw [e] at g
    omega
end FR
namespace FR
/-! ### folk: purses put together -/
def zadd (xs ys : List Int) : List Int := List.zipWith (· + ·) xs ys
theorem zadd_len {xs ys : List Int} (h : xs.length = ys.length) : (zadd xs ys).length = xs.length := by
  unfold zadd
  rw [List.length_zipWith, h, Nat.min_self]
theorem zadd_comm : ∀ (xs ys : List Int), zadd xs ys = zadd ys xs
  | [], [] => rfl
  | [], _ :: _ => rfl
  | _ :: _, [] => rfl
  | x :: xs, y :: ys => by
    show (x + y) :: zadd xs ys = (y + x) :: zadd ys xs
    rw [zadd_comm xs ys, Int.add_comm]
theorem zadd_assoc : ∀ (xs ys zs : List Int), zadd (zadd xs ys) zs = zadd xs (zadd ys zs)
  | [], _, _ => rfl
  | _ :: _, [], _ => rfl
  | _ :: _, _ :: _, [] => rfl
  | x :: xs, y :: ys, z :: zs => by
    show (x + y + z) :: zadd (zadd xs ys) zs = (x + (y + z)) :: zadd xs (zadd ys zs)
    rw [zadd_assoc xs ys zs, Int.add_assoc]
theorem zadd_zero : ∀ (xs : List Int), zadd xs (List.replicate xs.length 0) = xs
  | [] => rfl
  | x :: xs => by
    show (x + 0) :: zadd xs (List.replicate xs.length 0) = x :: xs
    rw [zadd_zero xs, Int.add_zero]
theorem zadd_nonneg : ∀ {xs ys : List Int}, (∀ x ∈ xs, (0 : Int) ≤ x) → (∀ y ∈ ys, (0 : Int) ≤ y) → ∀ z ∈ zadd xs ys, (0 : Int) ≤ z
  | [], _, _, _, z, hz => by cases hz
  | _ :: _, [], _, _, z, hz => by cases hz
  | x :: xs, y :: ys, hx, hy, z, hz => by
    rcases List.mem_cons.mp (show z ∈ (x + y) :: zadd xs ys from hz) with rfl | h
    · have := hx x List.mem_cons_self
      have := hy y List.mem_cons_self
      omega
    · exact zadd_nonneg (fun a h => hx a (List.mem_cons_of_mem _ h)) (fun a h => hy a (List.mem_cons_of_mem _ h)) z h
theorem fc_shift : ∀ (cs s1 s : List Int) {t m : Int}, cs.length = s1.length → cs.length = s.length → (∀ c ∈ cs, (2 : Int) ≤ c) → fc cs (zadd s1 s) (t + m) = fc cs s1 t + fc cs (zadd (lf cs s1 t) s) m
  | [], [], [], t, m, _, _, _ => by simp [fc, zadd, lf]
  | c :: cs, a :: s1, b :: s, t, m, h1, h2, hc => by
    have ih := fc_shift cs s1 s (t := t) (m := m) (Nat.succ.inj h1) (Nat.succ.inj h2) (fun c h => hc c (List.mem_cons_of_mem _ h))
    have c2 := hc c List.mem_cons_self
    show (a + b + (t + m)) / c + fc cs (zadd s1 s) (t + m) = (a + t) / c + fc cs s1 t + (((a + t) % c + b + m) / c + fc cs (zadd (lf cs s1 t) s) m)
    have e : (a + b + (t + m)) = ((a + t) % c + b + m) + c * ((a + t) / c) := by
      have := Int.emod_add_mul_ediv (a + t) c
      omega
    rw [ih, e, Int.add_mul_ediv_left _ _ (by omega)]
    omega
theorem fc_less : ∀ (cs s1 s : List Int) {m : Int}, cs.length = s1.length → cs.length = s.length → (∀ c ∈ cs, (2 : Int) ≤ c) → (∀ x ∈ s, (0 : Int) ≤ x) → fc cs s1 m ≤ fc cs (zadd s1 s) m
  | [], [], [], m, _, _, _, _ => by simp [fc, zadd]
  | c :: cs, a :: s1, b :: s, m, h1, h2, hc, hs => by
    have ih := fc_less cs s1 s (m := m) (Nat.succ.inj h1) (Nat.succ.inj h2) (fun c h => hc c (List.mem_cons_of_mem _ h)) (fun x h => hs x (List.mem_cons_of_mem _ h))
    have c2 := hc c List.mem_cons_self
    have b0 := hs b List.mem_cons_self
    show (a + m) / c + fc cs s1 m ≤ (a + b + m) / c + fc cs (zadd s1 s) m
    have := Int.ediv_le_ediv (a := a + m) (b := a + b + m) (c := c) (by omega) (by omega)
    omega
theorem shift_least {cs s1 s : List Int} {r1 r t u : Int} (hc : ∀ c ∈ cs, (2 : Int) ≤ c) (h1 : cs.length = s1.length) (h2 : cs.length = s.length) (hs : ∀ x ∈ s, (0 : Int) ≤ x) (r0 : 0 ≤ r) (h : Least cs r1 s1 t) (h' : Least cs r (zadd (lf cs s1 t) s) u) : Least cs (r1 + r) (zadd s1 s) (t + u) := by
  obtain ⟨a0, a1, a2⟩ := h
  obtain ⟨b0, b1, b2⟩ := h'
  refine ⟨by omega, ?_, fun m m0 mt => ?_⟩
  · rw [fc_shift cs s1 s h1 h2 hc]
    omega
  · by_cases q : m < t
    · have := a2 m m0 q
      have := fc_less cs s1 s (m := m) h1 h2 hc hs
      omega
    · have e := fc_shift cs s1 s (t := t) (m := m - t) h1 h2 hc
      rw [show t + (m - t) = m by omega] at e
      have := b2 (m - t) (by omega) (by omega)
      omega
theorem shift_never {cs s1 s : List Int} {r1 r t : Int} (hc : ∀ c ∈ cs, (2 : Int) ≤ c) (h1 : cs.length = s1.length) (h2 : cs.length = s.length) (hs : ∀ x ∈ s, (0 : Int) ≤ x) (r0 : 0 ≤ r) (h : Least cs r1 s1 t) (h' : Never cs r (zadd (lf cs s1 t) s)) : Never cs (r1 + r) (zadd s1 s) := by
  obtain ⟨a0, a1, a2⟩ := h
  intro m m0
  by_cases q : m < t
  · have := a2 m m0 q
    have := fc_less cs s1 s (m := m) h1 h2 hc hs
    omega
  · have e := fc_shift cs s1 s (t := t) (m := m - t) h1 h2 hc
    rw [show t + (m - t) = m by omega] at e
    have := h' (m - t) (by omega)
    omega
theorem first_never {cs s1 s : List Int} {r1 r : Int} (hc : ∀ c ∈ cs, (2 : Int) ≤ c) (h1 : cs.length = s1.length) (h2 : cs.length = s.length) (hs : ∀ x ∈ s, (0 : Int) ≤ x) (r0 : 0 ≤ r) (h : Never cs r1 s1) : Never cs (r1 + r) (zadd s1 s) := by
  intro m m0
  have := h m m0
  have := fc_less cs s1 s (m := m) h1 h2 hc hs
  omega
/-- all purses: rides, stamps -/
def totR (ps : List (Int × List Int)) : Int := (ps.map (·.1)).sum
def totS (n : Nat) (ps : List (Int × List Int)) : List Int := ps.foldr (fun p acc => zadd p.2 acc) (List.replicate n 0)
def GoodP (n : Nat) (ps : List (Int × List Int)) : Prop := ∀ p ∈ ps, 0 ≤ p.1 ∧ p.2.length = n ∧ ∀ x ∈ p.2, (0 : Int) ≤ x
theorem totR_cons {p : Int × List Int} {ps : List (Int × List Int)} : totR (p :: ps) = p.1 + totR ps := by
  unfold totR
  rw [List.map_cons, List.sum_cons]
theorem tot_ok {n : Nat} : ∀ {ps : List (Int × List Int)}, GoodP n ps → 0 ≤ totR ps ∧ (totS n ps).length = n ∧ ∀ x ∈ totS n ps, (0 : Int) ≤ x
  | [], _ => ⟨by simp [totR], List.length_replicate, fun x hx => by rw [(List.mem_replicate.mp hx).2]; omega⟩
  | p :: ps, h => by
    obtain ⟨a, b, c⟩ := tot_ok (ps := ps) (fun q hq => h q (List.mem_cons_of_mem _ hq))
    obtain ⟨d, e, f⟩ := h p List.mem_cons_self
    refine ⟨by rw [totR_cons]; omega, ?_, zadd_nonneg f c⟩
    show (zadd p.2 (totS n ps)).length = n
    rw [zadd_len (by omega), e]
/-- what is left to each, one behind the other -/
inductive Each (cs : List Int) : List (Int × List Int) → List Int → Prop
  | nil : Each cs [] []
  | cons {p t ps ts} : Least cs p.1 p.2 t → Each cs ps ts → Each cs (p :: ps) (t :: ts)
def leftS (cs : List Int) : List (Int × List Int) → List Int → List Int → List Int
  | p :: ps, t :: ts, o => leftS cs ps ts (zadd o (lf cs p.2 t))
  | _, _, o => o
theorem lf_nonneg : ∀ (cs ss : List Int) {t : Int}, (∀ c ∈ cs, (2 : Int) ≤ c) → ∀ x ∈ lf cs ss t, (0 : Int) ≤ x
  | [], _, _, _, x, h => by cases h
  | _ :: _, [], _, _, x, h => by cases h
  | c :: cs, s :: ss, t, hc, x, h => by
    have c2 := hc c List.mem_cons_self
    rcases List.mem_cons.mp (show x ∈ ((s + t) % c) :: lf cs ss t from h) with rfl | h
    · exact Int.emod_nonneg _ (by omega)
    · exact lf_nonneg cs ss (fun c h => hc c (List.mem_cons_of_mem _ h)) x h
theorem folk_step {cs o s1 S : List Int} {n : Nat} (t : Int) : zadd o (zadd s1 S) = zadd s1 (zadd o S) := by
  rw [← zadd_assoc, zadd_comm o s1, zadd_assoc]
theorem folk_least {cs : List Int} (hc : ∀ c ∈ cs, (2 : Int) ≤ c) : ∀ {ps : List (Int × List Int)} {ts o : List Int} {u : Int}, GoodP cs.length ps → o.length = cs.length → (∀ x ∈ o, (0 : Int) ≤ x) → Each cs ps ts → Least cs 0 (leftS cs ps ts o) u → Least cs (totR ps) (zadd o (totS cs.length ps)) (ts.sum + u)
  | [], [], o, u, _, ho, _, _, h => by
    show Least cs 0 (zadd o (List.replicate cs.length 0)) (0 + u)
    rw [← ho, zadd_zero, Int.zero_add]
    exact h
  | p :: ps, t :: ts, o, u, hG, ho, o0, .cons h1 h2, h => by
    obtain ⟨d, e, f⟩ := hG p List.mem_cons_self
    have hG' : GoodP cs.length ps := fun q hq => hG q (List.mem_cons_of_mem _ hq)
    obtain ⟨a, b, c⟩ := tot_ok hG'
    have hl : (lf cs p.2 t).length = cs.length := lf_len (by omega)
    have ih := folk_least hc (o := zadd o (lf cs p.2 t)) hG' (by rw [zadd_len (by omega)]; exact ho) (zadd_nonneg o0 (lf_nonneg cs p.2 hc)) h2 h
    rw [zadd_comm o, zadd_assoc] at ih
    have k := shift_least hc (by omega) (by rw [zadd_len (by omega)]; omega) (zadd_nonneg o0 c) a h1 ih
    show Least cs (totR (p :: ps)) (zadd o (zadd p.2 (totS cs.length ps))) ((t :: ts).sum + u)
    rw [folk_step (cs := cs) (n := 0) 0, totR_cons, List.sum_cons, Int.add_assoc]
    exact k
theorem folk_never {cs : List Int} (hc : ∀ c ∈ cs, (2 : Int) ≤ c) : ∀ {ps : List (Int × List Int)} {ts o : List Int}, GoodP cs.length ps → o.length = cs.length → (∀ x ∈ o, (0 : Int) ≤ x) → Each cs ps ts → Never cs 0 (leftS cs ps ts o) → Never cs (totR ps) (zadd o (totS cs.length ps))
  | [], [], o, _, ho, _, _, h => by
    show Never cs 0 (zadd o (List.replicate cs.length 0))
    rw [← ho, zadd_zero]
    exact h
  | p :: ps, t :: ts, o, hG, ho, o0, .cons h1 h2, h => by
    obtain ⟨d, e, f⟩ := hG p List.mem_cons_self
    have hG' : GoodP cs.length ps := fun q hq => hG q (List.mem_cons_of_mem _ hq)
    obtain ⟨a, b, c⟩ := tot_ok hG'
    have hl : (lf cs p.2 t).length = cs.length := lf_len (by omega)
    have ih := folk_never hc (o := zadd o (lf cs p.2 t)) hG' (by rw [zadd_len (by omega)]; exact ho) (zadd_nonneg o0 (lf_nonneg cs p.2 hc)) h2 h
    rw [zadd_comm o, zadd_assoc] at ih
    have k := shift_never hc (by omega) (by rw [zadd_len (by omega)]; omega) (zadd_nonneg o0 c) a h1 ih
    show Never cs (totR (p :: ps)) (zadd o (zadd p.2 (totS cs.length ps)))
    rw [folk_step (cs := cs) (n := 0) 0, totR_cons]
    exact k
/-- somebody's never end -/
theorem folk_some {cs : List Int} (hc : ∀ c ∈ cs, (2 : Int) ≤ c) : ∀ {ps : List (Int × List Int)} {p : Int × List Int}, GoodP cs.length ps → p ∈ ps → Never cs p.1 p.2 → Never cs (totR ps) (totS cs.length ps)
  | q :: ps, p, hG, hm, h => by
    have hG' : GoodP cs.length ps := fun q hq => hG q (List.mem_cons_of_mem _ hq)
    obtain ⟨a, b, c⟩ := tot_ok hG'
    obtain ⟨d, e, f⟩ := hG q List.mem_cons_self
    show Never cs (totR (q :: ps)) (zadd q.2 (totS cs.length ps))
    rw [totR_cons]
    rcases List.mem_cons.mp hm with rfl | hm
    · exact first_never hc (by omega) (by omega) c a h
    · have ih := folk_some hc hG' hm h
      rw [zadd_comm, Int.add_comm]
      exact first_never hc (by omega) (by omega) f d ih
/-! ### loans -/
def CanN (cs : List Int) (r : Int) (ss : List Int) (n : Int) : Prop := n ≤ r + fc cs ss n
/-- with a loan of L just n rides -/
def Lent (cs : List Int) (r : Int) (ss : List Int) (n L : Int) : Prop := (∀ m, 0 ≤ m → m < n → m < r + L + fc cs ss m) ∧ CanN cs r ss n
theorem lent_iff {cs ss : List Int} {r n v L : Int} (h : Want cs ss 0 n v) (r0 : 0 ≤ r) (l0 : 0 ≤ L) : Lent cs r ss n L ↔ v - r ≤ L ∧ CanN cs r ss n := by
  have := want_iff h (r := r + L) (by omega)
  constructor
  · rintro ⟨a, b⟩
    have := this.mp a
    exact ⟨by omega, b⟩
  · rintro ⟨a, b⟩
    exact ⟨this.mpr (by omega), b⟩
/-- the greatest number -/
def Great (cs : List Int) (r : Int) (ss : List Int) (g : Int) : Prop := 0 ≤ g ∧ r + fc cs ss g = g ∧ ∀ m, g < m → r + fc cs ss m < m
theorem great_can {cs ss : List Int} {r g m : Int} (h : Great cs r ss g) (hm : CanN cs r ss m) : m ≤ g := by
  obtain ⟨_, _, h2⟩ := h
  unfold CanN at hm
  by_cases q : m ≤ g
  · exact q
  · have := h2 m (by omega)
    omega
theorem great_unique {cs ss : List Int} {r g k : Int} (a : Great cs r ss g) (b : Great cs r ss k) : g = k := by
  have h1 := great_can a (m := k) (by unfold CanN; have := b.2.1; omega)
  have h2 := great_can b (m := g) (by unfold CanN; have := a.2.1; omega)
  omega
theorem great_least {cs ss : List Int} {r g t : Int} (a : Great cs r ss g) (b : Least cs r ss t) : t ≤ g := great_can a (by unfold CanN; have := b.2.1; omega)
/-- beyond a bound no number can be had, where rides wear off -/
theorem wears_bound {cs ss : List Int} {r : Int} (hC : Cards cs) (hl : cs.length = ss.length) (hp : pq (perOf cs) cs < perOf cs) : ∀ m, perOf cs * (max 0 (r + fc cs ss (perOf cs)) + 1) ≤ m → r + fc cs ss m < m := by
  obtain ⟨p1, _, hd⟩ := perOf_ok hC
  intro m hm
  have c2 : ∀ c ∈ cs, (2 : Int) ≤ c := fun c h => (hC.2.2 c h).1
  have e := Int.emod_add_mul_ediv m (perOf cs)
  have m0 := Int.emod_nonneg m (show perOf cs ≠ 0 by omega)
  have m1 := Int.emod_lt_of_pos m (show 0 < perOf cs by omega)
  have f := fc_per cs ss (m := m % perOf cs) (P := perOf cs) (q := m / perOf cs) hl c2 hd
  rw [e] at f
  have g := fc_mono cs ss c2 (show m % perOf cs ≤ perOf cs by omega)
  have q1 : max 0 (r + fc cs ss (perOf cs)) + 1 ≤ m / perOf cs := by
    rw [Int.le_ediv_iff_mul_le (by omega), Int.mul_comm]
    exact hm
  have q2 : (m / perOf cs) * pq (perOf cs) cs ≤ (m / perOf cs) * (perOf cs - 1) := Int.mul_le_mul_of_nonneg_left (by omega) (by omega)
  rw [Int.mul_sub, Int.mul_one, Int.mul_comm] at q2
  rw [Int.mul_comm (m / perOf cs) (perOf cs)] at q2
  rw [Int.mul_comm (m / perOf cs) (pq _ cs)] at f
  omega
/-- where a period pays, greater numbers can be had beyond any -/
theorem pays_more {cs ss : List Int} {r : Int} (hC : Cards cs) (hl : cs.length = ss.length) (hp : perOf cs ≤ pq (perOf cs) cs) (h0 : 0 ≤ r + fc cs ss 0) (g : Int) : ∃ m, g < m ∧ CanN cs r ss m := by
  obtain ⟨p1, _, hd⟩ := perOf_ok hC
  have c2 : ∀ c ∈ cs, (2 : Int) ≤ c := fun c h => (hC.2.2 c h).1
  have f := fc_per cs ss (m := 0) (P := perOf cs) (q := max 0 g + 1) hl c2 hd
  refine ⟨perOf cs * (max 0 g + 1), ?_, ?_⟩
  · have : 1 * (max 0 g + 1) ≤ perOf cs * (max 0 g + 1) := Int.mul_le_mul_of_nonneg_right p1 (by omega)
    omega
  · unfold CanN
    rw [Int.zero_add] at f
    rw [f]
    have : (max 0 g + 1) * perOf cs ≤ (max 0 g + 1) * pq (perOf cs) cs := Int.mul_le_mul_of_nonneg_left hp (by omega)
    rw [Int.mul_comm (perOf cs)]
    omega
end FR
namespace FR
/-! ### a card of ten; cards of two, three and seven -/
theorem fc_one {c s m : Int} : fc [c] [s] m = (s + m) / c := by
  show (s + m) / c + 0 = _
  omega
theorem fc_two {c d s t m : Int} : fc [c, d] [s, t] m = (s + m) / c + (t + m) / d := by
  show (s + m) / c + ((t + m) / d + 0) = _
  omega
theorem fc_three {c d e s t u m : Int} : fc [c, d, e] [s, t, u] m = (s + m) / c + (t + m) / d + (u + m) / e := by
  show (s + m) / c + ((t + m) / d + ((u + m) / e + 0)) = _
  omega
theorem ten_least {r : Int} (h : 0 < r) : Least [10] r [0] (r + (r - 1) / 9) := by
  refine ⟨by omega, ?_, fun m m0 mt => ?_⟩
  · rw [fc_one]
    omega
  · rw [fc_one]
    omega
theorem ten_zero : Least [10] 0 [0] 0 := ⟨by decide, by decide, fun m m0 mt => by omega⟩
theorem ten_great {r : Int} (h : 0 ≤ r) : Great [10] r [0] (r + r / 9) := by
  refine ⟨by omega, ?_, fun m m0 => ?_⟩
  · rw [fc_one]
    omega
  · rw [fc_one]
    omega
theorem ten_want {r v : Int} (h : 0 < r) (w : Want [10] [0] 0 (r + (r - 1) / 9) v) : v = r := by
  obtain ⟨v0, v1, v2⟩ := w
  have a := v1 (r + (r - 1) / 9 - 1) (by omega) (by omega)
  rw [fc_one] at a
  rcases v2 with rfl | ⟨m, m0, m1, rfl⟩
  · omega
  · rw [fc_one] at a ⊢
    omega
theorem ten_more {r v : Int} (h : 0 < r) (h9 : r % 9 = 0) (w : Want [10] [0] 0 (r + (r - 1) / 9 + 1) v) : v = r + 1 := by
  obtain ⟨v0, v1, v2⟩ := w
  have a := v1 (r + (r - 1) / 9) (by omega) (by omega)
  rw [fc_one] at a
  rcases v2 with rfl | ⟨m, m0, m1, rfl⟩
  · omega
  · rw [fc_one] at a ⊢
    omega
theorem ten_can {r : Int} (h : 0 < r) (h9 : r % 9 = 0) : CanN [10] r [0] (r + (r - 1) / 9 + 1) := by
  unfold CanN
  rw [fc_one]
  omega
theorem ten_cant {r : Int} (h : 0 < r) (h9 : r % 9 = 0) : ¬ CanN [10] r [0] (r + (r - 1) / 9 + 2) := by
  unfold CanN
  rw [fc_one]
  omega
theorem sev_nat : ∀ m : Nat, m < 42 → (m < 41 → m - (m / 2 + m / 3 + m / 7) ≤ 2) ∧ m - (m / 2 + m / 3 + m / 7) ≤ 3 ∧ (0 < m → m / 2 + m / 3 + m / 7 < m) ∧ m / 2 + m / 3 + m / 7 ≤ m := by decide +kernel
theorem fc_sev (m : Int) (h : 0 ≤ m) : ∃ (q : Int) (k : Nat), 0 ≤ q ∧ k < 42 ∧ m = 42 * q + k ∧ fc [2, 3, 7] [0, 0, 0] m = 41 * q + ((k / 2 + k / 3 + k / 7 : Nat) : Int) := by
  refine ⟨m / 42, (m % 42).toNat, by omega, by omega, by omega, ?_⟩
  rw [fc_three]
  omega
theorem sev_least {r : Int} (h : 3 ≤ r) : Least [2, 3, 7] r [0, 0, 0] (42 * r - 85) := by
  refine ⟨by omega, ?_, fun m m0 mt => ?_⟩
  · rw [fc_three]
    omega
  · obtain ⟨q, k, q0, k1, e, f⟩ := fc_sev m m0
    obtain ⟨a, b, c, d⟩ := sev_nat k k1
    rw [f]
    generalize k / 2 + k / 3 + k / 7 = z at *
    omega
theorem sev_great {r : Int} (h : 0 ≤ r) : Great [2, 3, 7] r [0, 0, 0] (42 * r) := by
  refine ⟨by omega, ?_, fun m m0 => ?_⟩
  · rw [fc_three]
    omega
  · obtain ⟨q, k, q0, k1, e, f⟩ := fc_sev m (by omega)
    obtain ⟨a, b, c, d⟩ := sev_nat k k1
    rw [f]
    generalize k / 2 + k / 3 + k / 7 = z at *
    omega
theorem three_least : Least [3] 0 [1000000000000000000] 499999999999999999 := by
  refine ⟨by decide, by decide, fun m m0 mt => ?_⟩
  rw [fc_one]
  omega
theorem two_never {r : Int} (h : 2 ≤ r) : Never [2, 2] r [0, 0] := fun m m0 => by
  rw [fc_two]
  omega
theorem two_want {n v : Int} (h : 2 ≤ n) (w : Want [2, 2] [0, 0] 0 n v) : v = 2 := by
  obtain ⟨v0, v1, v2⟩ := w
  have a := v1 1 (by omega) (by omega)
  rw [fc_two] at a
  rcases v2 with rfl | ⟨m, m0, m1, rfl⟩
  · omega
  · rw [fc_two] at a ⊢
    omega
theorem two_want' {n v : Int} (h : 2 ≤ n) (w : Want [2, 2] [2, 0] 0 n v) : v = 1 := by
  obtain ⟨v0, v1, v2⟩ := w
  have a := v1 1 (by omega) (by omega)
  rw [fc_two] at a
  rcases v2 with rfl | ⟨m, m0, m1, rfl⟩
  · omega
  · rw [fc_two] at a ⊢
    omega
end FR
namespace FR
/-! ### the greatest number, by shares -/
def shr (P : Int) : List Int → List Int → Int
  | c :: cs, s :: ss => s * (P / c) + shr P cs ss
  | _, _ => 0
def shl (P : Int) (cs ss : List Int) : List Int := (ss.zip (cs.map fun c => P / c)).map fun p => p.1 * p.2
theorem shl_get {P : Int} {cs ss : List Int} {i : Nat} {h s : Int} (h1 : (cs.map fun c => P / c)[i]? = some h) (h2 : ss[i]? = some s) : (shl P cs ss)[i]? = some (s * h) := by
  unfold shl
  rw [List.getElem?_map, List.getElem?_zip_eq_some (z := (s, h)) |>.mpr ⟨h2, h1⟩]
  rfl
theorem shl_sum (P : Int) : ∀ (cs ss : List Int), (shl P cs ss).sum = shr P cs ss
  | [], [] => rfl
  | [], _ :: _ => rfl
  | _ :: _, [] => rfl
  | c :: cs, s :: ss => by
    show (s * (P / c) :: shl P cs ss).sum = s * (P / c) + shr P cs ss
    rw [List.sum_cons, shl_sum P cs ss]
theorem shl_len {P : Int} {cs ss : List Int} (h : cs.length = ss.length) : (shl P cs ss).length = cs.length := by
  unfold shl
  rw [List.length_map, List.length_zip, List.length_map, h, Nat.min_self]
theorem shr_nonneg {P : Int} (hP : 0 ≤ P) : ∀ (cs ss : List Int), (∀ c ∈ cs, (2 : Int) ≤ c) → (∀ s ∈ ss, (0 : Int) ≤ s) → 0 ≤ shr P cs ss
  | [], _, _, _ => Int.le_refl _
  | _ :: _, [], _, _ => Int.le_refl _
  | c :: cs, s :: ss, hc, hs => by
    have ih := shr_nonneg hP cs ss (fun x h => hc x (List.mem_cons_of_mem _ h)) (fun x h => hs x (List.mem_cons_of_mem _ h))
    have c2 := hc c List.mem_cons_self
    have h1 : 0 ≤ s * (P / c) := Int.mul_nonneg (hs s List.mem_cons_self) (Int.ediv_nonneg hP (by omega))
    show 0 ≤ s * (P / c) + shr P cs ss
    omega
/-- a full card is no more than its shares -/
theorem fc_shares {P : Int} (hP : 0 ≤ P) : ∀ (cs ss : List Int) {m : Int}, cs.length = ss.length → (∀ c ∈ cs, (2 : Int) ≤ c) → (∀ c ∈ cs, c ∣ P) → fc cs ss m * P ≤ shr P cs ss + m * pq P cs
  | [], [], m, _, _, _ => by simp [fc, shr, pq]
  | c :: cs, s :: ss, m, hl, hc, hd => by
    have ih := fc_shares hP cs ss (m := m) (Nat.succ.inj hl) (fun x h => hc x (List.mem_cons_of_mem _ h)) (fun x h => hd x (List.mem_cons_of_mem _ h))
    have c2 := hc c List.mem_cons_self
    obtain ⟨k, rfl⟩ := hd c List.mem_cons_self
    have k0 : 0 ≤ k := by
      by_cases z : 0 ≤ k
      · exact z
      · have : c * k < 0 := Int.mul_neg_of_pos_of_neg (by omega) (by omega)
        omega
    have e : c * k / c = k := Int.mul_ediv_cancel_left _ (by omega)
    show ((s + m) / c + fc cs ss m) * (c * k) ≤ s * (c * k / c) + shr (c * k) cs ss + m * (c * k / c + pq (c * k) cs)
    rw [e, Int.add_mul, Int.mul_add m]
    have h1 : (s + m) / c * c ≤ s + m := Int.ediv_mul_le _ (by omega)
    have h2 : (s + m) / c * c * k ≤ (s + m) * k := Int.mul_le_mul_of_nonneg_right h1 k0
    rw [Int.add_mul, Int.mul_assoc] at h2
    omega
theorem pq_nonneg {P : Int} (hP : 0 ≤ P) : ∀ (cs : List Int), (∀ c ∈ cs, (2 : Int) ≤ c) → 0 ≤ pq P cs
  | [], _ => Int.le_refl _
  | c :: cs, hc => by
    have ih := pq_nonneg hP cs (fun x h => hc x (List.mem_cons_of_mem _ h))
    have c2 := hc c List.mem_cons_self
    have h1 : 0 ≤ P / c := Int.ediv_nonneg hP (by omega)
    show 0 ≤ P / c + pq P cs
    omega
def byShares (cs : List Int) (r : Int) (ss : List Int) : Int := (r * perOf cs + shr (perOf cs) cs ss) / (perOf cs - pq (perOf cs) cs)
theorem shares_ok {cs ss : List Int} {r : Int} (hC : Cards cs) (hl : cs.length = ss.length) (hs : ∀ s ∈ ss, (0 : Int) ≤ s) (hr : 0 ≤ r) (hp : pq (perOf cs) cs < perOf cs) : 0 ≤ byShares cs r ss ∧ ∀ m, byShares cs r ss < m → ¬ CanN cs r ss m := by
  obtain ⟨p1, _, hd⟩ := perOf_ok hC
  have c2 : ∀ c ∈ cs, (2 : Int) ≤ c := fun c h => (hC.2.2 c h).1
  unfold byShares
  refine ⟨Int.ediv_nonneg ?_ (by omega), fun m hm hcan => ?_⟩
  · have a := shr_nonneg (P := perOf cs) (by omega) cs ss c2 hs
    have b : 0 ≤ r * perOf cs := Int.mul_nonneg hr (by omega)
    omega
  · have a := fc_shares (P := perOf cs) (by omega) cs ss (m := m) hl c2 hd
    unfold CanN at hcan
    have b : m * perOf cs ≤ (r + fc cs ss m) * perOf cs := Int.mul_le_mul_of_nonneg_right hcan (by omega)
    rw [Int.add_mul] at b
    have d : m * (perOf cs - pq (perOf cs) cs) ≤ r * perOf cs + shr (perOf cs) cs ss := by
      rw [Int.mul_sub]
      omega
    have := Int.le_ediv_of_mul_le (by omega) d
    omega
theorem great_of {cs ss : List Int} {r g : Int} (hC : Cards cs) (g0 : 0 ≤ g) (h : CanN cs r ss g) (hm : ∀ m, g < m → ¬ CanN cs r ss m) : Great cs r ss g := by
  have c2 : ∀ c ∈ cs, (2 : Int) ≤ c := fun c h => (hC.2.2 c h).1
  refine ⟨g0, ?_, fun m h => ?_⟩
  · have a := hm (g + 1) (by omega)
    have b := fc_mono cs ss c2 (show g ≤ g + 1 by omega)
    unfold CanN at h a
    omega
  · have a := hm m h
    unfold CanN at a
    omega
/-! ### full cards given, many at once -/
theorem gone_many : ∀ (cs ss zs : List Int) (i : Nat) {k G c z : Int}, Gone cs ss zs k G → cs[i]? = some c → zs[i]? = some z → 2 ≤ c → Gone cs ss (zs.set i (z % c)) k (G + z / c)
  | [], [], [], i, _, _, _, _, _, h, _, _ => by simp at h
  | c :: cs, s :: ss, z :: zs, 0, k, G, c', z', ⟨g, h0, h1, h2⟩, hc, hz, h => by
    have e1 : c = c' := Option.some.inj hc
    have e2 : z = z' := Option.some.inj hz
    subst e1 e2
    have e := Int.emod_add_mul_ediv z c
    refine ⟨g + z / c, Int.emod_nonneg _ (by omega), ?_, ?_⟩
    · rw [Int.mul_add]
      omega
    · have e : G + z / c - (g + z / c) = G - g := by omega
      rw [e]
      exact h2
  | c :: cs, s :: ss, z :: zs, i + 1, k, G, c', z', ⟨g, h0, h1, h2⟩, hc, hz, h => by
    refine ⟨g, h0, h1, ?_⟩
    have := gone_many cs ss zs i h2 (by simpa using hc) (by simpa using hz) h
    have e : G + z' / c' - g = G - g + z' / c' := by omega
    rw [e]
    exact this
/-! ### what is told of loans -/
/-- the least loan -/
def loanOf (w r : Int) : Int := if w - r > 0 then w - r else 0
end FR
namespace FR
theorem great_4 : Great [4] 10 [0] 13 := ⟨by decide, by decide, fun m h => by rw [fc_one]; omega⟩
theorem great_3 : Great [3] 2 [0] 3 := ⟨by decide, by decide, fun m h => by rw [fc_one]; omega⟩
theorem can_3 : CanN [3] 2 [0] 3 := by unfold CanN; decide
theorem loan_3 {w : Int} (h : Want [3] [0] 0 3 w) : loanOf w 2 = 1 := by
  obtain ⟨v0, v1, v2⟩ := h
  have a := v1 2 (by omega) (by omega)
  rw [fc_one] at a
  have e : w = 3 := by
    rcases v2 with rfl | ⟨m, m0, m1, rfl⟩
    · omega
    · rw [fc_one] at a ⊢
      omega
  rw [e]
  decide
end FR
namespace FR
/-! ### folk in another order -/
theorem each_len {cs : List Int} : ∀ {ps : List (Int × List Int)} {ts : List Int}, Each cs ps ts → ts.length = ps.length
  | [], [], _ => rfl
  | _ :: _, _ :: _, .cons _ h => congrArg (· + 1) (each_len h)
theorem each_app {cs : List Int} : ∀ {ps qs : List (Int × List Int)} {ts us : List Int}, Each cs ps ts → Each cs qs us → Each cs (ps ++ qs) (ts ++ us)
  | [], _, [], _, _, h => h
  | _ :: _, _, _ :: _, _, .cons h1 h2, h => .cons h1 (each_app h2 h)
theorem each_rev {cs : List Int} : ∀ {ps : List (Int × List Int)} {ts : List Int}, Each cs ps ts → Each cs ps.reverse ts.reverse
  | [], [], _ => .nil
  | _ :: _, _ :: _, .cons h1 h2 => by
    rw [List.reverse_cons, List.reverse_cons]
    exact each_app (each_rev h2) (.cons h1 .nil)
theorem each_unique {cs : List Int} : ∀ {ps : List (Int × List Int)} {ts us : List Int}, Each cs ps ts → Each cs ps us → ts = us
  | [], [], [], _, _ => rfl
  | _ :: _, _ :: _, _ :: _, .cons h1 h2, .cons h3 h4 => by rw [least_unique h1 h3, each_unique h2 h4]
theorem each_mem {cs : List Int} : ∀ {ps : List (Int × List Int)} {ts : List Int} {p : Int × List Int}, Each cs ps ts → p ∈ ps → ∃ t, Least cs p.1 p.2 t
  | q :: ps, t :: ts, p, .cons h1 h2, hm => by
    rcases List.mem_cons.mp hm with rfl | hm
    · exact ⟨t, h1⟩
    · exact each_mem h2 hm
theorem sum_app : ∀ (xs ys : List Int), (xs ++ ys).sum = xs.sum + ys.sum
  | [], ys => by rw [List.nil_append, List.sum_nil, Int.zero_add]
  | x :: xs, ys => by rw [List.cons_append, List.sum_cons, List.sum_cons, sum_app xs ys, Int.add_assoc]
theorem sum_rev : ∀ (xs : List Int), xs.reverse.sum = xs.sum
  | [] => rfl
  | x :: xs => by
    rw [List.reverse_cons, sum_app, sum_rev xs, List.sum_cons, List.sum_cons, List.sum_nil]
    omega
theorem totR_rev (ps : List (Int × List Int)) : totR ps.reverse = totR ps := by
  unfold totR
  rw [List.map_reverse, sum_rev]
theorem good_rev {n : Nat} {ps : List (Int × List Int)} (h : GoodP n ps) : GoodP n ps.reverse := fun p hp => h p (List.mem_reverse.mp hp)
theorem sum_nonneg : ∀ {xs : List Int}, (∀ x ∈ xs, (0 : Int) ≤ x) → 0 ≤ xs.sum
  | [], _ => Int.le_refl _
  | x :: xs, h => by
    have := sum_nonneg (fun y hy => h y (List.mem_cons_of_mem _ hy))
    have := h x List.mem_cons_self
    rw [List.sum_cons]
    omega
theorem zadd_zero' {n : Nat} {xs : List Int} (h : xs.length = n) : zadd (List.replicate n 0) xs = xs := by
  rw [zadd_comm, ← h, zadd_zero]
theorem left_step {cs : List Int} : ∀ {ps : List (Int × List Int)} {ts o : List Int} {p : Int × List Int} {t : Int}, ps.length = ts.length → leftS cs (ps ++ [p]) (ts ++ [t]) o = zadd (leftS cs ps ts o) (lf cs p.2 t)
  | [], [], o, p, t, _ => rfl
  | q :: ps, u :: ts, o, p, t, h => left_step (ps := ps) (ts := ts) (o := zadd o (lf cs q.2 u)) (Nat.succ.inj h)
theorem zadd_le {m k : Int} : ∀ {xs ys : List Int}, (∀ x ∈ xs, x ≤ m) → (∀ y ∈ ys, y ≤ k) → ∀ z ∈ zadd xs ys, z ≤ m + k
  | [], _, _, _, z, hz => by cases hz
  | _ :: _, [], _, _, z, hz => by cases hz
  | x :: xs, y :: ys, hx, hy, z, hz => by
    rcases List.mem_cons.mp (show z ∈ (x + y) :: zadd xs ys from hz) with rfl | h
    · have := hx x List.mem_cons_self
      have := hy y List.mem_cons_self
      omega
    · exact zadd_le (fun a h => hx a (List.mem_cons_of_mem _ h)) (fun a h => hy a (List.mem_cons_of_mem _ h)) z h
theorem lf_le : ∀ (cs ss : List Int) {t : Int}, (∀ c ∈ cs, (2 : Int) ≤ c ∧ c ≤ 20) → ∀ x ∈ lf cs ss t, x ≤ 20
  | [], _, _, _, x, h => by cases h
  | _ :: _, [], _, _, x, h => by cases h
  | c :: cs, s :: ss, t, hc, x, h => by
    have c2 := hc c List.mem_cons_self
    rcases List.mem_cons.mp (show x ∈ ((s + t) % c) :: lf cs ss t from h) with rfl | h
    · have := Int.emod_lt_of_pos (s + t) (show 0 < c by omega)
      omega
    · exact lf_le cs ss (fun c h => hc c (List.mem_cons_of_mem _ h)) x h
end FR
namespace FR
/-! ### loans of lesser and greater numbers -/
theorem want_mono {cs ss : List Int} {n m v w : Int} (h : Want cs ss 0 n v) (h' : Want cs ss 0 m w) (hn : n ≤ m) : v ≤ w := by
  obtain ⟨_, _, a⟩ := h
  obtain ⟨b0, b1, _⟩ := h'
  rcases a with rfl | ⟨k, k0, k1, rfl⟩
  · exact b0
  · exact b1 k k0 (by omega)
theorem loan_mono {v w r : Int} (h : v ≤ w) : loanOf v r ≤ loanOf w r := by
  unfold loanOf
  split <;> split <;> omega
theorem loan_zero {cs ss : List Int} {n w r : Int} (h : Want cs ss 0 n w) (r0 : 0 ≤ r) : loanOf w r = 0 ↔ ∀ m, 0 ≤ m → m < n → m < r + fc cs ss m := by
  rw [want_iff h r0]
  unfold loanOf
  constructor
  · intro e
    split at e <;> omega
  · intro e
    rw [if_neg (by omega)]
theorem least_can {cs ss : List Int} {r t n : Int} (h : Least cs r ss t) (n0 : 0 ≤ n) (hn : n ≤ t) : CanN cs r ss n := by
  obtain ⟨_, a, b⟩ := h
  unfold CanN
  by_cases z : n = t
  · rw [z]
    omega
  · have := b n n0 (by omega)
    omega
end FR
namespace FR
theorem gone_lf : ∀ (cs ss : List Int) {n : Int}, (∀ c ∈ cs, (2 : Int) ≤ c) → cs.length = ss.length → Gone cs ss (lf cs ss n) n (fc cs ss n)
  | [], [], _, _, _ => rfl
  | c :: cs, s :: ss, n, hc, hl => by
    have ih := gone_lf cs ss (n := n) (fun x h => hc x (List.mem_cons_of_mem _ h)) (Nat.succ.inj hl)
    have c2 := hc c List.mem_cons_self
    refine ⟨(s + n) / c, Int.emod_nonneg _ (by omega), ?_, ?_⟩
    · have := Int.emod_add_mul_ediv (s + n) c
      omega
    · show Gone cs ss (lf cs ss n) n ((s + n) / c + fc cs ss n - (s + n) / c)
      rw [show (s + n) / c + fc cs ss n - (s + n) / c = fc cs ss n by omega]
      exact ih
end FR
namespace FR
theorem fc_lf : ∀ (cs ss : List Int) {n : Int}, (∀ c ∈ cs, (2 : Int) ≤ c) → fc cs (lf cs ss n) 0 = 0
  | [], _, _, _ => rfl
  | _ :: _, [], _, _ => rfl
  | c :: cs, s :: ss, n, hc => by
    have ih := fc_lf cs ss (n := n) (fun x h => hc x (List.mem_cons_of_mem _ h))
    have c2 := hc c List.mem_cons_self
    show ((s + n) % c + 0) / c + fc cs (lf cs ss n) 0 = 0
    have e : ((s + n) % c + 0) / c = 0 := by
      rw [Int.add_zero]
      exact Int.ediv_eq_zero_of_lt (Int.emod_nonneg _ (by omega)) (Int.emod_lt_of_pos _ (by omega))
    omega
theorem least_rest {cs ss : List Int} {n : Int} (hc : ∀ c ∈ cs, (2 : Int) ≤ c) : Least cs 0 (lf cs ss n) 0 :=
  ⟨Int.le_refl _, by rw [fc_lf cs ss hc]; rfl, fun m m0 m1 => by omega⟩
theorem fc_le : ∀ (cs ss : List Int) {n M : Int}, (∀ c ∈ cs, (2 : Int) ≤ c) → (∀ s ∈ ss, (0 : Int) ≤ s ∧ s ≤ M) → 0 ≤ n → 0 ≤ M → fc cs ss n ≤ cs.length * (M + n)
  | [], _, n, M, _, _, _, _ => by simp [fc]
  | c :: cs, [], n, M, _, _, h0, h1 => by
    show (0 : Int) ≤ _
    exact Int.mul_nonneg (by omega) (by omega)
  | c :: cs, s :: ss, n, M, hc, hs, h0, h1 => by
    have ih := fc_le cs ss (n := n) (M := M) (fun x h => hc x (List.mem_cons_of_mem _ h)) (fun x h => hs x (List.mem_cons_of_mem _ h)) h0 h1
    have c2 := hc c List.mem_cons_self
    have s2 := hs s List.mem_cons_self
    have h3 : (s + n) / c ≤ s + n := Int.ediv_le_self _ (by omega)
    show (s + n) / c + fc cs ss n ≤ _
    rw [List.length_cons, Int.natCast_succ, Int.add_mul]
    omega
end FR
namespace FR
open PySem PySem.Spec PyProof.Rows L2
/-! ### a def that is called: its promise, and where it stands -/
structure Def (P : Program) (w : World) (K : PySem.W.Frag) (mg : Str → Option Value) (base : Heap) (x : Str) (k : Nat) (ps : List Str) (sp : Sp) : Prop where
  ex : ∃ f fd, FnOk P w K mg base CX0 k f fd ps sp ∧ mg x = some (.ref f) ∧ PySem.W.keepIn K (.ref f) = true ∧ Binds K fd ps []
theorem pe_def {X : Cx} {k j : Nat} {ps : List Str} {sp : Sp} {x : Str} {p pos : Pos} {e : Expr} {es : List Expr} {t : TA} (D : Def X.prog X.w X.K X.mg X.base x k ps sp) (hr : Room j X.A) (ha : PA X (e :: es) t) (hg : Gl X x := by rfl) (hl : k ≤ j := by decide)
    (hdb : (x == ("__debug__" : Str)) = false := by decide) (he : starEach (e :: es) X.env = (false, eval e X.env) :: starEach es X.env := by rfl) (hpl : (backTo pos (starEach es X.env)).any (·.1) = false := by rfl) :
    PE X (.Call (.Name x p) (e :: es) [] pos) (tCall sp [] E0 t) := by
  obtain ⟨f, fd, F, m, kp, b⟩ := D.ex
  exact pe_call F (hr.mono hl) hg m kp b .nil pass0 ha hdb he hpl
theorem def_mk {P : Program} {w : World} {K : PySem.W.Frag} {mg : Str → Option Value} {base : Heap} {x : Str} {k : Nat} {ps : List Str} {sp : Sp} {f : Addr} {fd : FuncData} {st : Stmt} (F : Fun K x x st f fd) (ok : FnOk P w K mg base CX0 k f fd ps sp) (m : mg x = some (.ref f)) (b : Binds K fd ps []) : Def P w K mg base x k ps sp :=
  ⟨f, fd, ok, m, F.kp, b⟩
/-! ### heaps: what is kept -/
theorem same_upd {H : Hp} {p : Addr} {o : HO} (h : H p = none) : Same H (upd H p o) := fun b x e => by
  rw [upd_ne (ne_of_none e h)]
  exact e
/-- the two things of a bag: its numbers, its place -/
def BagSh (o : HO) : Prop := ∃ d c, o = .lst [.ref d, .int c]
structure Kp (H H' : Hp) : Prop where
  keep : ∀ a o, H a = some o → ¬ BagSh o → H' a = some o
  bag : ∀ a d c, H a = some (.lst [.ref d, .int c]) → ∃ c', H' a = some (.lst [.ref d, .int c'])
theorem Kp.of {H H' : Hp} (s : Same H H') : Kp H H' := ⟨fun a o e _ => s a o e, fun a d c e => ⟨c, s _ _ e⟩⟩
theorem Kp.refl (H : Hp) : Kp H H := .of (.refl H)
theorem Kp.trans {H H1 H2 : Hp} (x : Kp H H1) (y : Kp H1 H2) : Kp H H2 := by
  refine ⟨fun a o e n => y.keep a o (x.keep a o e n) n, fun a d c e => ?_⟩
  obtain ⟨c1, e1⟩ := x.bag a d c e
  exact y.bag a d c1 e1
/-- what is new to H may be laid or changed -/
theorem Kp.fresh {H H' : Hp} {p : Addr} {o : HO} (x : Kp H H') (h : H p = none) : Kp H (upd H' p o) := by
  refine ⟨fun a u e n => ?_, fun a d c e => ?_⟩
  · rw [upd_ne (ne_of_none e h)]
    exact x.keep a u e n
  · rw [upd_ne (ne_of_none e h)]
    exact x.bag a d c e
theorem Kp.none {H H' : Hp} {p : Addr} (x : Kp H H') (h : H' p = none) : H p = Option.none := by
  cases q : H p with
  | none => rfl
  | some o =>
    by_cases n : BagSh o
    · obtain ⟨d, c, rfl⟩ := n
      obtain ⟨c', e⟩ := x.bag p d c q
      rw [e] at h
      cases h
    · rw [x.keep p o q n] at h
      cases h
theorem Kp.new {H H' : Hp} {p : Addr} {o : HO} (x : Kp H H') (h : H' p = Option.none) : Kp H (upd H' p o) := x.fresh (x.none h)
theorem ntup {xs : List V} : ¬ BagSh (.tup xs) := fun ⟨_, _, e⟩ => nomatch e
theorem nfrz {ob : Obj} {u : HO} : ¬ BagSh (.frz ob u) := fun ⟨_, _, e⟩ => nomatch e
theorem nint {ns : List Int} : ¬ BagSh (.lst (ns.map V.int)) := by
  rintro ⟨d, c, e⟩
  have e' : ns.map V.int = [.ref d, .int c] := HO.lst.inj e
  cases ns with
  | nil => exact nomatch e'
  | cons n r =>
    have := (List.cons.inj e').1
    exact nomatch this
theorem Kp.tup {K : PySem.W.Frag} {H H' : Hp} {a : Addr} {xs : List V} (x : Kp H H') (h : SqT K H a xs) : SqT K H' a xs := by
  rcases h with (h | ⟨o, h⟩) | h
  · exact .inl (.inl (x.keep _ _ h ntup))
  · exact .inl (.inr ⟨o, x.keep _ _ h nfrz⟩)
  · exact .inr h
theorem Kp.ints {K : PySem.W.Frag} {H H' : Hp} {a : Addr} {ns : List Int} (x : Kp H H') (h : SqL K H a (ns.map V.int)) : SqL K H' a (ns.map V.int) := by
  rcases h with (h | ⟨o, h⟩) | h
  · exact .inl (.inl (x.keep _ _ h nint))
  · exact .inl (.inr ⟨o, x.keep _ _ h nfrz⟩)
  · exact .inr h
/-! ### bags -/
def Bag (H : Hp) (b : Addr) : Prop := ∃ (d : Addr) (c : Int) (ds : List Int), H b = some (.lst [.ref d, .int c]) ∧ H d = some (.lst (ds.map V.int)) ∧ ds.length = 400 ∧ ∀ x ∈ ds, (0 : Int) ≤ x ∧ x < 1000
theorem Kp.bags {H H' : Hp} {b : Addr} (x : Kp H H') (h : Bag H b) : Bag H' b := by
  obtain ⟨d, c, ds, h1, h2, h3⟩ := h
  obtain ⟨c', e⟩ := x.bag b d c h1
  exact ⟨d, c', ds, e, x.keep _ _ h2 nint, h3⟩
/-- the place moves on -/
theorem Kp.bump {H : Hp} {b d : Addr} {c c' : Int} (h : H b = some (.lst [.ref d, .int c])) : Kp H (upd H b (.lst [.ref d, .int c'])) := by
  refine ⟨fun a o e n => ?_, fun a d2 c2 e => ?_⟩
  · rw [upd_ne]
    · exact e
    · rintro rfl
      rw [h] at e
      cases e
      exact n ⟨d, c, rfl⟩
  · by_cases q : a = b
    · subst q
      rw [h] at e
      cases e
      exact ⟨c', upd_same⟩
    · exact ⟨c2, by rw [upd_ne q]; exact e⟩
theorem p0 {n : Int} (h : decide (0 < n) = true := by decide) : 0 < n := of_decide_eq_true h
/-! ### lists -/
theorem get_int {ns : List Int} {i : Nat} (h : i < ns.length) : (ns.map V.int)[i]? = some (.int ns[i]) := by
  rw [List.getElem?_map, List.getElem?_eq_getElem h]
  rfl
theorem at_int {ns : List Int} {k : Int} (h0 : 0 ≤ k) (h : k < (ns.length : Int)) : ∃ v, v ∈ ns ∧ ns[k.toNat]? = some v ∧ atI (ns.map V.int) k = some (.int v) := by
  have hk : k.toNat < ns.length := by omega
  refine ⟨ns[k.toNat], List.getElem_mem hk, List.getElem?_eq_getElem hk, ?_⟩
  exact at_of (j := k.toNat) (by omega) (get_int hk)
theorem get_map {ns : List Int} {i : Nat} {x : V} (h : (ns.map V.int)[i]? = some x) : ∃ v, ns[i]? = some v ∧ x = .int v := by
  rw [List.getElem?_map] at h
  cases q : ns[i]? with
  | none =>
    rw [q] at h
    exact nomatch h
  | some v =>
    rw [q] at h
    exact ⟨v, rfl, (Option.some.inj h).symm⟩
end FR
namespace FR
open PySem PySem.Spec PyProof.Rows L2
theorem nrefs {bs : List Addr} : ¬ BagSh (.lst (bs.map V.ref)) := by
  rintro ⟨d, c, e⟩
  have e' : bs.map V.ref = [.ref d, .int c] := HO.lst.inj e
  match bs, e' with
  | [], e' => exact nomatch e'
  | [_], e' => exact nomatch e'
  | _ :: y :: _, e' =>
    have := (List.cons.inj (List.cons.inj e').2).1
    exact nomatch this
theorem bag_upd {H : Hp} {D b : Addr} {bs : List Addr} {o : HO} (h : Bag H b) (e : H D = some (.lst (bs.map V.ref))) : Bag (upd H D o) b := by
  obtain ⟨d, c, ds, h1, h2, h3, h4⟩ := h
  have n1 : b ≠ D := ne_of h1 e (fun z => nrefs ⟨d, c, z.symm⟩)
  have n2 : d ≠ D := ne_of h2 e (fun z => by
    have z' : ds.map V.int = bs.map V.ref := HO.lst.inj z
    match ds, bs, z' with
    | [], _, _ => exact absurd h3 (by decide)
    | x :: r, [], z' => exact nomatch z'
    | x :: r, y :: t, z' => exact nomatch (List.cons.inj z').1)
  exact ⟨d, c, ds, by rw [upd_ne n1]; exact h1, by rw [upd_ne n2]; exact h2, h3, h4⟩
end FR
namespace FR
open PySem PySem.Spec PyProof.Rows L2
theorem ix_listK (K : PySem.W.Frag) {X : Cx} (h : X.K = K := by rfl) : IxR X (rIxL K) := h ▸ ix_list
theorem ix_tupK (K : PySem.W.Frag) {X : Cx} (h : X.K = K := by rfl) : IxR X (rIxT K) := h ▸ ix_tup
theorem call_len_seqK (K : PySem.W.Frag) {X : Cx} (h : X.K = K := by rfl) : CallR X (.builtin "len") (fun xs H Q => ∃ p ys, xs = [.ref p] ∧ (SqL K H p ys ∨ SqT K H p ys) ∧ Q (.int ys.length) H) := h ▸ call_len_seq
end FR
namespace FR
open PySem PySem.Spec PyProof.Rows L2
/-! ### data of any depth -/
theorem dp_len {K : PySem.W.Frag} {H : Hp} : ∀ {xs : List V} {ds : List PyData}, DpAll K H xs ds → xs.length = ds.length
  | _, _, .nil => rfl
  | _, _, .cons _ t => congrArg (· + 1) (dp_len t)
theorem dp_get {K : PySem.W.Frag} {H : Hp} : ∀ {xs : List V} {ds : List PyData} {i : Nat} {x : V}, DpAll K H xs ds → xs[i]? = some x → ∃ d, ds[i]? = some d ∧ Dp K H x d
  | _, _, i, _, .nil, e => by simp at e
  | _, _, 0, _, .cons h _, e => ⟨_, rfl, (Option.some.inj e) ▸ h⟩
  | _, _, i + 1, x, .cons (vs := vs) (ds := ds) _ t, e => by
    have e' : vs[i]? = some x := by simpa using e
    obtain ⟨d, h1, h2⟩ := dp_get t e'
    exact ⟨d, by simpa using h1, h2⟩
theorem Same.seqT {K : PySem.W.Frag} {H H' : Hp} {a : Addr} {xs : List V} (e : Same H H') (h : SqT K H a xs) : SqT K H' a xs := by
  rcases h with (h | ⟨o, h⟩) | h
  · exact .inl (.inl (e _ _ h))
  · exact .inl (.inr ⟨o, e _ _ h⟩)
  · exact .inr h
mutual
theorem Same.dp {K : PySem.W.Frag} {H H' : Hp} (e : Same H H') : ∀ {x : V} {d : PyData}, Dp K H x d → Dp K H' x d
  | _, _, .non => .non
  | _, _, .bl b => .bl b
  | _, _, .int b => .int b
  | _, _, .str b => .str b
  | _, _, .lst s t => .lst (L2.Same.seq e s) (Same.dpa e t)
  | _, _, .tup s t => .tup (Same.seqT e s) (Same.dpa e t)
theorem Same.dpa {K : PySem.W.Frag} {H H' : Hp} (e : Same H H') : ∀ {x : List V} {d : List PyData}, DpAll K H x d → DpAll K H' x d
  | _, _, .nil => .nil
  | _, _, .cons h t => .cons (Same.dp e h) (Same.dpa e t)
end
theorem dp_ints {K : PySem.W.Frag} {H : Hp} : ∀ (ns : List Int), DpAll K H (ns.map V.int) (ns.map PyData.int)
  | [] => .nil
  | n :: r => .cons (.int n) (dp_ints r)
theorem tyT {K : PySem.W.Frag} {H : Hp} {a : Addr} {xs : List V} (h : SqT K H a xs) : TyX K H (.ref a) (.type "tuple") := by
  rcases h with (h | ⟨o, h⟩) | ⟨o, _, _, h, c, _⟩
  · exact .base (.tup h)
  · exact .fTuple h
  · exact .kTuple h c
theorem tyL {K : PySem.W.Frag} {H : Hp} {a : Addr} {xs : List V} (h : SqL K H a xs) : TyX K H (.ref a) (.type "list") := by
  rcases h with (h | ⟨o, h⟩) | ⟨o, _, _, h, c, _⟩
  · exact .base (.lst h)
  · exact .base (.frz h)
  · exact .kList h c
/-! ### what the program tells of data -/
def withinD (lo hi : Int) : PyData → Bool
  | .int i => decide (lo ≤ i) && decide (i ≤ hi)
  | _ => false
def cardsD : PyData → Bool
  | .tuple ds => decide (1 ≤ ds.length) && decide (ds.length ≤ 3) && ds.all (withinD 2 20)
  | _ => false
def stampsD (n : Nat) : PyData → Bool
  | .tuple ds => decide (ds.length = n) && ds.all (withinD 0 1000000000000000000)
  | _ => false
def purseD (n : Nat) : PyData → Bool
  | .tuple [r, s] => withinD 0 1000000000000000000 r && stampsD n s
  | _ => false
theorem all_ints {lo hi : Int} {ns : List Int} (h : ∀ c ∈ ns, lo ≤ c ∧ c ≤ hi) : (ns.map PyData.int).all (withinD lo hi) = true := by
  rw [List.all_map, List.all_eq_true]
  intro c hc
  obtain ⟨h1, h2⟩ := h c hc
  show (decide (lo ≤ c) && decide (c ≤ hi)) = true
  rw [decide_eq_true h1, decide_eq_true h2]
  rfl
theorem cardsD_ok {cs : List Int} (h : Cards cs) : cardsD (.tuple (cs.map PyData.int)) = true := by
  show (decide (1 ≤ (cs.map PyData.int).length) && decide ((cs.map PyData.int).length ≤ 3) && (cs.map PyData.int).all (withinD 2 20)) = true
  rw [List.length_map, all_ints h.2.2, decide_eq_true h.1, decide_eq_true h.2.1]
  rfl
def Stamps (n : Nat) (ss : List Int) : Prop := ss.length = n ∧ ∀ x ∈ ss, (0 : Int) ≤ x ∧ x ≤ 1000000000000000000
theorem stampsD_ok {n : Nat} {ss : List Int} (h : Stamps n ss) : stampsD n (.tuple (ss.map PyData.int)) = true := by
  show (decide ((ss.map PyData.int).length = n) && (ss.map PyData.int).all (withinD 0 1000000000000000000)) = true
  rw [List.length_map, all_ints h.2, decide_eq_true h.1]
  rfl
/-- a purse as it stands -/
def Purse (K : PySem.W.Frag) (H : Hp) (p : Addr) (r : Int) (ss : List Int) : Prop := ∃ sA, SqT K H p [.int r, .ref sA] ∧ SqT K H sA (ss.map V.int)
theorem Purse.dp {K : PySem.W.Frag} {H : Hp} {p : Addr} {r : Int} {ss : List Int} (h : Purse K H p r ss) : Dp K H (.ref p) (.tuple [.int r, .tuple (ss.map PyData.int)]) := by
  obtain ⟨sA, h1, h2⟩ := h
  exact .tup h1 (.cons (.int r) (.cons (.tup h2 (dp_ints ss)) .nil))
theorem purseD_ok {n : Nat} {r : Int} {ss : List Int} (h0 : 0 ≤ r) (h1 : r ≤ 1000000000000000000) (h : Stamps n ss) : purseD n (.tuple [.int r, .tuple (ss.map PyData.int)]) = true := by
  show ((decide (0 ≤ r) && decide (r ≤ 1000000000000000000)) && stampsD n (.tuple (ss.map PyData.int))) = true
  rw [stampsD_ok h, decide_eq_true h0, decide_eq_true h1]
  rfl
theorem Purse.same {K : PySem.W.Frag} {H H' : Hp} {p : Addr} {r : Int} {ss : List Int} (e : Same H H') (h : Purse K H p r ss) : Purse K H' p r ss := by
  obtain ⟨sA, h1, h2⟩ := h
  exact ⟨sA, Same.seqT e h1, Same.seqT e h2⟩
theorem Purse.kp {K : PySem.W.Frag} {H H' : Hp} {p : Addr} {r : Int} {ss : List Int} (e : Kp H H') (h : Purse K H p r ss) : Purse K H' p r ss := by
  obtain ⟨sA, h1, h2⟩ := h
  exact ⟨sA, e.tup h1, e.tup h2⟩
theorem same_fresh {H H' : Hp} {p : Addr} {o : HO} (x : Same H H') (h : H p = none) : Same H (upd H' p o) := fun b u e => by
  rw [upd_ne (ne_of_none e h)]
  exact x b u e
theorem same_new {H H' : Hp} {p : Addr} {o : HO} (x : Same H H') (h : H' p = none) : Same H (upd H' p o) := same_fresh x (x.free h)
theorem take_map {α β : Type} {l : List α} {i : Nat} {z : α} (f : α → β) (h : l[i]? = some z) : (l.take (i + 1)).map f = (l.take i).map f ++ [f z] := by
  rw [List.take_add_one, h, List.map_append]
  rfl
/-- a comprehension over two tuples, one beside the other -/
theorem lc_zipT {K : PySem.W.Frag} {a b : Addr} {xs ys : List V} {g : TG} {tt : TT} {te : TE} {vs : List Nat} {σ : L2.St} {H1 : Hp} {D : Addr} {Qd : Hp → Prop} (hl : xs.length = ys.length) (Pv : Nat → Hp → Prop) (h0 : Pv 0 (upd H1 D (.lst []))) (hq : ∀ i H, Pv i H → SqT K H a xs ∧ SqT K H b ys)
    (hs : ∀ (i : Nat) (x y : V) (T : Addr) (H : Hp), xs[i]? = some x → ys[i]? = some y → Pv i H → H T = none → g (.ref T) (wipe σ vs) (upd H T (.tup [x, y])) fun σ2 H2 => wipe σ2 vs = wipe σ vs ∧ tt σ2 H2 fun b H3 =>
      if b = true then te σ2 H3 fun y H4 => ∃ acc, H4 D = some (.lst acc) ∧ acc.length < sizeLine ∧ Pv (i + 1) (upd H4 D (.lst (acc ++ [y]))) else Pv (i + 1) H3) (hd : ∀ H, Pv xs.length H → Qd H) :
    ∃ W : Nat → Nat → Hp → Prop, (∃ m, W 0 m (upd H1 D (.lst []))) ∧ ∀ i m H, W i m H →
      ((RZ.ItzT K a b).stop i H ∧ Qd H) ∨ ((RZ.ItzT K a b).go i H ∧ ∃ Nx : Hp → Prop, (∀ H', Nx H' → ∃ m', m' < m ∧ W (i + 1) m' H') ∧ ∀ x H', (RZ.ItzT K a b).yld i H x H' → g x (wipe σ vs) H' fun σ2 H2 => wipe σ2 vs = wipe σ vs ∧ tt σ2 H2 fun b H3 =>
        if b = true then te σ2 H3 fun y H4 => ∃ acc, H4 D = some (.lst acc) ∧ acc.length < sizeLine ∧ Nx (upd H4 D (.lst (acc ++ [y]))) else Nx H3) := by
  refine ⟨fun i m H => m = xs.length - i ∧ i ≤ xs.length ∧ Pv i H, ⟨xs.length, rfl, Nat.zero_le _, h0⟩, ?_⟩
  rintro i m H ⟨rfl, hi, p⟩
  obtain ⟨qx, qy⟩ := hq i H p
  by_cases hlt : i < xs.length
  · have g1 : xs[i]? = some xs[i] := List.getElem?_eq_getElem hlt
    have g2 : ys[i]? = some ys[i] := List.getElem?_eq_getElem (by omega)
    refine .inr ⟨⟨_, _, _, _, qx, qy, g1, g2⟩, Pv (i + 1), fun H' p' => ⟨xs.length - (i + 1), by omega, rfl, hlt, p'⟩, fun x H' y => ?_⟩
    obtain ⟨T, x1, x2, rfl, nT, rfl, f1, f2⟩ := y
    exact hs i x1 x2 T H (f1 _ qx) (f2 _ qy) p nT
  · have e : i = xs.length := by omega
    subst e
    exact .inl ⟨⟨_, _, qx, qy, .inl (Nat.le_refl _)⟩, hd H p⟩
end FR
namespace FR
open PySem PySem.Spec PyProof.Rows L2
theorem len2 {α : Type} : ∀ {xs : List α}, xs.length = 2 → ∃ x y, xs = [x, y]
  | [x, y], _ => ⟨x, y, rfl⟩
theorem dp_two {K : PySem.W.Frag} {H : Hp} {x y : V} {ds : List PyData} (h : DpAll K H [x, y] ds) : ∃ d e, ds = [d, e] ∧ Dp K H x d ∧ Dp K H y e := by
  cases h with
  | cons h1 t =>
    cases t with
    | cons h2 u =>
      cases u with
      | nil => exact ⟨_, _, rfl, h1, h2⟩
theorem purse_not2 {n : Nat} : ∀ {ds : List PyData}, ds.length ≠ 2 → purseD n (.tuple ds) = false
  | [], _ => rfl
  | [_], _ => rfl
  | [_, _], h => absurd rfl h
  | _ :: _ :: _ :: _, _ => rfl
end FR
namespace FR
open PySem PySem.Spec PyProof.Rows L2
/-- what is told of a purse -/
def ToldV (cs : List Int) (r : Int) (ss : List Int) : V → Prop
  | .int t => Least cs r ss t
  | .non => Never cs r ss
  | _ => False
def LeftV (cs : List Int) (r : Int) (ss : List Int) (v : V) (H : Hp) : Prop :=
  (v = .non ∧ Never cs r ss) ∨ ∃ (p : Addr) (t : Int), v = .ref p ∧ H p = some (.tup ((lf cs ss t).map V.int)) ∧ Least cs r ss t
end FR
namespace FR
open PySem PySem.Spec PyProof.Rows L2
/-- no fewer are told where no fewer are paid for -/
theorem nf_of {cs ss cs' ss' : List Int} {r r' : Int} {v v' : V} (h : ToldV cs r ss v) (h' : ToldV cs' r' ss' v') (mono : ∀ m, 0 ≤ m → r + fc cs ss m ≤ r' + fc cs' ss' m) : v' = .non ∨ ∃ i j, v' = .int i ∧ v = .int j ∧ j ≤ i := by
  match v', h' with
  | .non, _ => exact .inl rfl
  | .int t', h' =>
    obtain ⟨a0, a1, a2⟩ := h'
    have m1 := mono t' a0
    match v, h with
    | .non, h =>
      have := h t' a0
      omega
    | .int t, h =>
      obtain ⟨b0, b1, b2⟩ := h
      refine .inr ⟨t', t, rfl, rfl, ?_⟩
      by_cases c : t' < t
      · have := b2 t' a0 c
        omega
      · omega
/-- a slice of a tuple, a sum of two: whatever is laid -/
theorem rd_slA {K : PySem.W.Frag} {H : Hp} {Q : VK} {a : Addr} {xs : List V} {lo hi : Option Int} (h : SqT K H a xs) (q : ∀ b H', Same H H' → SqT K H' b (cutV xs lo hi) → Q (.ref b) H') : rSlA K (.ref a) lo hi H Q := by
  refine ⟨a, xs, rfl, h, fun c => ?_, fun c p np => q p _ (same_upd np) (SqT.of upd_same)⟩
  refine q a H (.refl H) ?_
  unfold cutV
  rw [c.1, c.2, List.drop_zero, Nat.sub_zero, List.take_length]
  exact h
theorem rd_catA {K : PySem.W.Frag} {H : Hp} {Q : VK} {a b : Addr} {xs ys : List V} (h1 : SqT K H a xs) (h2 : SqT K H b ys) (hl : xs.length + ys.length ≤ 1000) (q : ∀ p H', Same H H' → SqT K H' p (xs ++ ys) → Q (.ref p) H') : rCatA K (.ref a) (.ref b) H Q := by
  refine ⟨a, b, xs, ys, rfl, rfl, h1, h2, Nat.le_of_lt (small1000 hl), fun e => ?_, fun _ e => ?_, fun _ _ p np => q p _ (same_upd np) (SqT.of upd_same)⟩
  · subst e
    exact q b H (.refl H) h2
  · subst e
    exact q a H (.refl H) (by rw [List.append_nil]; exact h1)
theorem cut_to {ns : List Int} {k : Int} (h0 : 0 ≤ k) : cutV (ns.map V.int) none (some k) = (ns.take k.toNat).map V.int := by
  unfold cutV
  obtain ⟨n, rfl⟩ : ∃ n : Nat, k = (n : Int) := ⟨k.toNat, by omega⟩
  rw [HT.sIx_none, HT.sIx_nat, List.drop_zero, Nat.sub_zero, List.length_map, List.map_take]
  by_cases c : n ≤ ns.length
  · rw [Nat.min_eq_left c]
    rfl
  · rw [Nat.min_eq_right (by omega), ← List.length_map (f := V.int), List.take_length]
    exact (List.take_of_length_le (by rw [List.length_map]; show ns.length ≤ n; omega)).symm
theorem cut_from {ns : List Int} {k : Int} (h0 : 0 ≤ k) : cutV (ns.map V.int) (some k) none = (ns.drop k.toNat).map V.int := by
  unfold cutV
  obtain ⟨n, rfl⟩ : ∃ n : Nat, k = (n : Int) := ⟨k.toNat, by omega⟩
  rw [HT.sIx_none, HT.sIx_nat, List.length_map, List.map_drop]
  by_cases c : n ≤ ns.length
  · rw [Nat.min_eq_left c, List.take_of_length_le (by rw [List.length_drop, List.length_map]; exact Nat.le_refl _)]
    rfl
  · rw [Nat.min_eq_right (by omega), List.drop_eq_nil_of_le (by rw [List.length_map]; exact Nat.le_refl _), List.take_nil]
    exact (List.drop_eq_nil_of_le (by rw [List.length_map]; show ns.length ≤ n; omega)).symm
theorem Kp.same {H H' : Hp} (s : Same H H') : Kp H H' := .of s
theorem get_ref {bs : List Addr} {i : Nat} {x : V} (h : (bs.map V.ref)[i]? = some x) : ∃ b, b ∈ bs ∧ x = .ref b := by
  rw [List.getElem?_map] at h
  cases q : bs[i]? with
  | none =>
    rw [q] at h
    exact nomatch h
  | some b =>
    rw [q] at h
    exact ⟨b, List.mem_of_getElem? q, (Option.some.inj h).symm⟩
end FR
namespace FR
open PySem PySem.Spec PyProof.Rows L2
theorem lay_ints : ∀ ns : List Int, PyData.canLayAll0 (ns.map PyData.int) = true
  | [] => by simp [PyData.canLayAll0]
  | n :: r => by simp [PyData.canLayAll0, PyData.canLay0, lay_ints r]
theorem deep_ints : ∀ ns : List Int, PyData.depthAll (ns.map PyData.int) = 0
  | [] => by simp [PyData.depthAll]
  | n :: r => by simp [PyData.depthAll, PyData.depth, deep_ints r]
theorem shaped_tup (ns : List Int) : SeqAt.shaped (.tuple (ns.map PyData.int)) = true := by
  unfold SeqAt.shaped
  rw [PyData.canLay0, PyData.depth, lay_ints, deep_ints]
  rfl
theorem eqv_tup (ns : List Int) : PyData.eqv (.tuple (ns.map PyData.int)) (.tuple (ns.map PyData.int)) = true := SeqAt.eqv_refl _ (by rw [PyData.canLay0]; exact lay_ints ns)
theorem iteP {c A B : Prop} [Decidable c] (hc : c) (h : A) : if c then A else B := by
  rw [if_pos hc]
  exact h
theorem iteN {c A B : Prop} [Decidable c] (hc : ¬ c) (h : B) : if c then A else B := by
  rw [if_neg hc]
  exact h
theorem nn_int {t : Int} : (!decide (V.int t = V.non)) = true := by
  rw [decide_eq_false (fun z => nomatch z)]
  rfl
theorem none_ir {t : Int} {o : Addr} : V.bl (decide (V.int t = .non)) = V.bl (decide (V.ref o = .non)) := by
  rw [decide_eq_false (fun z => nomatch z), decide_eq_false (fun z => nomatch z)]
theorem told_never {cs ss : List Int} {r : Int} {v : V} (h : ToldV cs r ss v) (n : Never cs r ss) : v = .non := by
  match v, h with
  | .non, _ => rfl
  | .int t, h => exact (least_never h n).elim
theorem told_least {cs ss : List Int} {r t : Int} {v : V} (h : ToldV cs r ss v) (n : Least cs r ss t) : v = .int t := by
  match v, h with
  | .non, h => exact (least_never n h).elim
  | .int u, h => rw [least_unique h n]
end FR
namespace FR
open PySem PySem.Spec PyProof.Rows L2
theorem rd_slFrom {K : PySem.W.Frag} {σ : L2.St} {H : Hp} {Q : VK} {a : Addr} {xs : List V} {lo : Option Int} (h : SqT K H a xs) (q : ∀ b H', Same H H' → SqT K H' b (cutV xs lo none) → Q (.ref b) H') : tNoPart σ H fun u H3 => rSlA K (.ref a) lo u H3 Q := rd_slA h q
end FR
namespace FR
open PySem PySem.Spec PyProof.Rows L2
/-! ### what the top has left -/
def FunAt (K : PySem.W.Frag) (mg : Str → Option Value) (x : Str) (st : Stmt) : Prop := ∃ f fd, Fun K x x st f fd ∧ mg x = some (.ref f)
theorem funAt_mk {K : PySem.W.Frag} {h : Heap} {mg : Str → Option Value} {x : Str} {st : Stmt} {f : Addr} {od an : Option Addr} {sl : Array (Option Value)} {oc kV dc pm cd ct : Value} (X : K.In h) (G : h.Ns mainGlobals mg)
    (a1 : PySem.W.nsIn K mainGlobals x = some (some (.ref f))) (l1 : K.lookup f = some ⟨oc, od, .func (PySem.W.fnOf x x (defArgs st) (defBody st) (defScope st) .none kV dc pm an cd ct), sl⟩) (c1 : PySem.W.codeIn K cd x = true) (k1 : PySem.W.keepIn K (.ref f) = true) : FunAt K mg x st :=
  ⟨f, _, fun_mk (st := st) l1 c1 k1, PySem.W.mg_of X G a1⟩
theorem FunAt.def {P : Program} {w : World} {K : PySem.W.Frag} {mg : Str → Option Value} {base : Heap} {x : Str} {st : Stmt} {k : Nat} {ps : List Str} {sp : Sp} (F : FunAt K mg x st) (ok : ∀ f fd, Fun K x x st f fd → FnOk P w K mg base CX0 k f fd ps sp)
    (h : ∀ (kV doc pm : Value) (an : Option Addr) (cdv ct : Value) (us : List Value), us.length = ps.length → bindArgs (PySem.W.fnOf x x (defArgs st) (defBody st) (defScope st) .none kV doc pm an cdv ct) ⟨us, []⟩ = pure (ps.zip us)) : Def P w K mg base x k ps sp := by
  obtain ⟨f, fd, F, m⟩ := F
  exact ⟨f, fd, ok f fd F, m, F.kp, F.binds h⟩
end FR
namespace FR
open PySem PySem.Spec PyProof.Rows L2
def FunAtX {K : PySem.W.Frag} {h : Heap} (_ : K.In h) (mg : Str → Option Value) (x : Str) (st : Stmt) : Prop := FunAt K mg x st
end FR
namespace FR
open PySem PySem.Spec PyProof.Rows L2
theorem glob_mk {K : PySem.W.Frag} {h : Heap} {mg : Str → Option Value} {x : Str} {n : Int} {v : Value} (X : K.In h) (G : h.Ns mainGlobals mg) (z : PySem.W.nsIn K mainGlobals x = some (some v)) (e : ∃ t, v = .int n t) : ∃ t, mg x = some (.int n t) := by
  obtain ⟨t, rfl⟩ := e
  exact ⟨t, PySem.W.mg_of X G z⟩
end FR
namespace FR
open PySem PySem.Spec PyProof.Rows L2
def EndlessV (cs ss : List Int) (v : V) : Prop := (v = .non ∧ pq (perOf cs) cs < perOf cs) ∨ ∃ t, v = .int t ∧ perOf cs ≤ pq (perOf cs) cs ∧ Want cs ss 0 (perOf cs) t
theorem at_ref {as : List Addr} {k : Int} (h0 : 0 ≤ k) (h : k < (as.length : Int)) : ∃ a, a ∈ as ∧ atI (as.map V.ref) k = some (.ref a) := by
  have hk : k.toNat < as.length := by omega
  refine ⟨as[k.toNat], List.getElem_mem hk, ?_⟩
  refine at_of (j := k.toNat) (by omega) ?_
  rw [List.getElem?_map, List.getElem?_eq_getElem hk]
  rfl
end FR
namespace FR
open PySem PySem.Spec PyProof.Rows L2
/-! ### deeds -/
def DeedV (n : Nat) (v : V) : Prop := v = .str "ride" ∨ ∃ i : Int, v = .int i ∧ 0 ≤ i ∧ i < (n : Int)
def Can (cs : List Int) (x : Int) (zs : List Int) (v : V) : Prop := (v = .str "ride" ∧ 0 < x) ∨ ∃ (i c z : Int), v = .int i ∧ 0 ≤ i ∧ cs[i.toNat]? = some c ∧ zs[i.toNat]? = some z ∧ c ≤ z
def aftX (x : Int) : V → Int
  | .str _ => x - 1
  | _ => x + 1
def aftS (cs zs : List Int) : V → List Int
  | .str _ => zs.map (· + 1)
  | .int i => zs.set i.toNat (zs.getD i.toNat 0 - cs.getD i.toNat 0)
  | _ => zs
def dD : V → PyData
  | .str x => .str x
  | .int i => .int i
  | _ => .none
theorem deeds_dp {K : PySem.W.Frag} {H : Hp} {n : Nat} : ∀ {xs : List V}, (∀ v ∈ xs, DeedV n v) → DpAll K H xs (xs.map dD)
  | [], _ => .nil
  | v :: xs, h => by
    have h1 := deeds_dp (K := K) (H := H) (xs := xs) (fun x hx => h x (List.mem_cons_of_mem _ hx))
    rcases h v (List.mem_cons_self ..) with rfl | ⟨i, rfl, _, _⟩
    · exact .cons (.str _) h1
    · exact .cons (.int i) h1
theorem ride_ok : PyData.canLay0 (.str "ride") = true := by
  rw [PyData.canLay0]
  decide +kernel
theorem deeds_lay {n : Nat} : ∀ {xs : List V}, (∀ v ∈ xs, DeedV n v) → PyData.canLayAll0 (xs.map dD) = true ∧ PyData.depthAll (xs.map dD) = 0
  | [], _ => by simp [PyData.canLayAll0, PyData.depthAll]
  | v :: xs, h => by
    have h1 := deeds_lay (xs := xs) (fun x hx => h x (List.mem_cons_of_mem _ hx))
    rcases h v (List.mem_cons_self ..) with rfl | ⟨i, rfl, _, _⟩
    · simp only [List.map_cons, dD, PyData.canLayAll0, PyData.depthAll, PyData.depth, ride_ok, h1.1, h1.2]
      exact ⟨rfl, rfl⟩
    · simp only [List.map_cons, dD, PyData.canLayAll0, PyData.canLay0, PyData.depthAll, PyData.depth, h1.1, h1.2]
      exact ⟨rfl, rfl⟩
theorem deeds_shaped {n : Nat} {xs : List V} (h : ∀ v ∈ xs, DeedV n v) : SeqAt.shaped (.list (xs.map dD)) = true := by
  unfold SeqAt.shaped
  rw [PyData.canLay0, PyData.depth, (deeds_lay h).1, (deeds_lay h).2]
  rfl
theorem shaped_nil : SeqAt.shaped (.list []) = true := by
  unfold SeqAt.shaped
  rw [PyData.canLay0, PyData.depth, PyData.canLayAll0, PyData.depthAll]
  rfl
theorem deeds_none {xs : List V} (h : xs = []) : (!PyData.eqv (.list (xs.map dD)) (.list [])) = false := by
  subst h
  rw [PyData.eqv]
  rfl
theorem deeds_some {xs : List V} (h : xs ≠ []) : (!PyData.eqv (.list (xs.map dD)) (.list [])) = true := by
  match xs, h with
  | _ :: _, _ =>
    rw [PyData.eqv]
    rfl
end FR
namespace FR
open PySem PySem.Spec PyProof.Rows L2
theorem ndeeds {n : Nat} {xs : List V} (h : ∀ v ∈ xs, DeedV n v) : ¬ BagSh (.lst xs) := by
  rintro ⟨d, c, e⟩
  have e' : xs = [.ref d, .int c] := HO.lst.inj e
  rcases h (.ref d) (by rw [e']; exact List.mem_cons_self ..) with g | ⟨i, g, _⟩ <;> exact nomatch g
theorem at_any {xs : List V} {k : Int} (h0 : 0 ≤ k) (h : k < (xs.length : Int)) : ∃ v, v ∈ xs ∧ atI xs k = some v := by
  have hk : k.toNat < xs.length := by omega
  exact ⟨xs[k.toNat], List.getElem_mem hk, at_of (j := k.toNat) (by omega) (List.getElem?_eq_getElem hk)⟩
/-- all deeds, in their order -/
def deedsL (n : Int) : List V := [.str "ride"] ++ rgV 0 n
theorem deedsL_len (n : Nat) : (deedsL n).length = n + 1 := by
  unfold deedsL
  rw [List.length_append, rgV_length, List.length_singleton]
  omega
theorem deedsL_mem {n : Nat} {v : V} : v ∈ deedsL n ↔ DeedV n v := by
  unfold deedsL DeedV rgV
  rw [List.mem_append, List.mem_singleton, List.mem_map]
  constructor
  · rintro (h | ⟨i, h1, h2⟩)
    · exact .inl h
    · rw [List.mem_range] at h1
      exact .inr ⟨0 + (i : Int), h2.symm, by omega, by omega⟩
  · rintro (h | ⟨i, rfl, h1, h2⟩)
    · exact .inl h
    · exact .inr ⟨i.toNat, List.mem_range.mpr (by omega), congrArg V.int (by omega)⟩
theorem nn_ref {p : Addr} : (!decide (V.ref p = V.non)) = true := by
  rw [decide_eq_false (fun z => nomatch z)]
  rfl
def OnV (K : PySem.W.Frag) (cs : List Int) (r : Int) (ss : List Int) (most : Int) (v : V) (H : Hp) : Prop :=
  (v = .non ∧ ∀ t, Least cs r ss t → most < t) ∨ ∃ (p s' : Addr) (t : Int), v = .ref p ∧ H p = some (.tup [.int t, .ref s']) ∧ SqT K H s' ((lf cs ss t).map V.int) ∧ Least cs r ss t ∧ t ≤ most
end FR
namespace FR
open PySem PySem.Spec PyProof.Rows L2
theorem shaped_non : SeqAt.shaped .none = true := by
  unfold SeqAt.shaped
  rw [PyData.canLay0, PyData.depth]
  rfl
theorem eqv_non : PyData.eqv .none .none = true := by rw [PyData.eqv]
theorem due_lay (t : Int) (ns : List Int) : PyData.canLay0 (.tuple [.int t, .tuple (ns.map PyData.int)]) = true := by
  rw [PyData.canLay0, PyData.canLayAll0, PyData.canLayAll0, PyData.canLayAll0, PyData.canLay0, PyData.canLay0, lay_ints]
  rfl
theorem due_shaped (t : Int) (ns : List Int) : SeqAt.shaped (.tuple [.int t, .tuple (ns.map PyData.int)]) = true := by
  unfold SeqAt.shaped
  rw [due_lay, PyData.depth, PyData.depthAll, PyData.depthAll, PyData.depthAll, PyData.depth, PyData.depth, deep_ints]
  rfl
theorem due_eqv (t : Int) (ns : List Int) : PyData.eqv (.tuple [.int t, .tuple (ns.map PyData.int)]) (.tuple [.int t, .tuple (ns.map PyData.int)]) = true := SeqAt.eqv_refl _ (due_lay t ns)
theorem SqT.same2 {K : PySem.W.Frag} {H H' : Hp} {a : Addr} {xs : List V} (h : SqT K H a xs) (e : Same H H') : SqT K H' a xs := Same.seqT e h
end FR
set_option maxHeartbeats 1000000
namespace FR
open PySem PySem.Spec PyProof.Rows L2
/-! ### an exception that has come down in the frame of X, ahead of its clauses -/
structure Down (X : Cx) (pins : List (Addr × Obj)) (σ : L2.St) (H : Hp) (B : Heap) (a : Addr) (cls : Value) (d : Option Addr) (t : Shared) : Prop where
  ok : X.Ok
  fly : HandSPX.FlyingZ B (X.env :: X.outer) a (L2N.Zn cls d) t.heap
  none : H a = Option.none
  inv : ∀ g : Heap, HandSPX.FlyingZ B (X.env :: X.outer) a (L2N.Zn cls d) g → t.heap.UpToSlots g → Inv X pins σ H { t with heap := g }
section
variable {X : Cx} {pins : List (Addr × Obj)} {σ : L2.St} {H : Hp} {B : Heap} {a : Addr} {cls : Value} {d : Option Addr} {t : Shared}
theorem Down.apart (Y : Down X pins σ H B a cls d t) (frame : X.env.frame = some X.env.locals) : a ≠ X.env.locals ∧ a ∉ X.fs := by
  obtain ⟨ob, fs, at_, _, isF⟩ := Y.fly.there
  have far : a ∉ frs (X.env :: X.outer) := by
    intro isIn
    obtain ⟨_, ob2, at2, noF⟩ := Y.fly.2.2.1.mem isIn
    rw [at_] at at2
    cases at2
    exact noF _ isF
  constructor
  · intro e
    refine far (List.mem_filterMap.mpr ⟨X.env, List.mem_cons_self, ?_⟩)
    rw [frame, e]
  · intro isIn
    obtain ⟨v, hv, e⟩ := List.mem_filterMap.mp isIn
    exact far (List.mem_filterMap.mpr ⟨v, List.mem_cons_of_mem _ hv, e⟩)
theorem Down.here (Y : Down X pins σ H B a cls d t) : Inv X pins σ H t := Y.inv t.heap Y.fly (Heap.UpToSlots.refl _)
/-- one named clause, whatever clauses follow -/
theorem clause_as {i : Nat} {x n : Str} {c : Value} {first : Stmt} {more : List Stmt} {p1 p2 : Pos} {rest : List ExceptHandler} {ts : Addr → Value → Option Addr → TS} {Wo : WX} {D : Ends} (Y : Down X pins σ H B a cls d t) (frame : X.env.frame = some X.env.locals)
    (nd : X.N.Nodup) (slot : X.N[i]? = some n) (isLoc : X.env.kindOf n = some .local) (nm : Names X x c)
    (suite : ∀ (a : Addr) (oe : Obj) (cls : Value) (d : Option Addr) (pn : List (Addr × Obj)), L2N.Zn cls d oe → (∃ vs, oe.data = .fields vs) → PSs (X.suite a ((a, oe) :: pn)) (first :: more) (ts a cls d))
    (wish : wAs X.K c i ts Wo D cls d σ H) (on : Wo cls d σ H → wpAny (model X.prog X.w) X.A (handleBy (.ref a) X.env rest) (SP X pins D) X.xe t) :
    wpAny (model X.prog X.w) X.A (handleBy (.ref a) X.env (.ExceptHandler (some (.Name x p1)) (some n) (first :: more) p2 :: rest)) (SP X pins D) X.xe t := by
  obtain ⟨offL, offF⟩ := Y.apart frame
  obtain ⟨ob, fs, at_, kind, isF⟩ := Y.fly.there
  have inSuite := Y.here.suite at_ isF Y.none offL offF
  obtain ⟨b, ask, yes, no⟩ := wish
  have asks := PySem.W.exm_one (M := model X.prog X.w) Y.here.kIn (fun _ _ _ _ k q => wpAny_typeOf_ref (k _ _ at_) (by rw [kind.1]; exact q)) ask
  refine wpAny_handleBy_cons (codeAny_handlers_test ?_) (fun z => by cases z)
  have reads : ∀ {Q E : Value → Shared → Prop}, Q c t → wpAny (model X.prog X.w) (X.A.mark (some (.ref a))) (eval (.Name x p1) X.env) Q E t := by
    intro Q E got
    rcases nm with ⟨g, dbg, m | ⟨m, v, ne⟩⟩
    · exact ld_glob (X := X.suite a ((a, ob) :: (X.pn ++ pins))) inSuite g m got dbg
    · exact ld_blt (X := X.suite a ((a, ob) :: (X.pn ++ pins))) inSuite g m v got ne dbg
  refine reads (asks.here ?_)
  cases b with
  | false => exact on (no rfl)
  | true =>
    refine codeAny_handlers_suite_as (HandSPX.lands_againZ Y.fly fun g fly2 up2 => ?_)
    obtain ⟨ob2, fs2, at2, kind2, isF2⟩ := fly2.there
    have inSuite2 := (Y.inv g fly2 up2).suite at2 isF2 Y.none offL offF
    refine store_ok (X := X.suite a ((a, ob2) :: (X.pn ++ pins))) (v := V.ref a) inSuite2 nd slot (.inl isLoc) rfl (fun t5 inv5 => ?_) (.inr isLoc)
    have run := (suite a ob2 cls d (X.pn ++ pins) kind2 ⟨_, isF2⟩).run [] t5 _ H _ inv5 (yes rfl a Y.none)
    refine wpAny_mono run (fun f t6 got => ?_) (fun _ _ z => z.elim)
    have gone : ∀ {σ6 : L2.St} {H6 : Hp} {Q : Shared → Prop}, Inv (X.suite a ((a, ob2) :: (X.pn ++ pins))) [] σ6 H6 t6 → (∀ t7, Inv X pins (σ6.set i Option.none) H6 t7 → Q t7) →
        wpAny (model X.prog X.w) X.A (do bindName X.env n .none; unbindBehindTheSuite X.env n p2) (fun _ => Q) X.xe t6 := fun inv6 q => gone_ok (inv6.unsuite Y.ok) nd slot isLoc q
    match f, got with
    | .next, ⟨_, _, inv6, q6⟩ => exact gone inv6 fun _ inv7 => ⟨_, _, inv7, q6⟩
    | .brk, ⟨_, _, inv6, q6⟩ => exact gone inv6 fun _ inv7 => ⟨_, _, inv7, q6⟩
    | .cont, ⟨_, _, inv6, q6⟩ => exact gone inv6 fun _ inv7 => ⟨_, _, inv7, q6⟩
    | .ret _, ⟨_, _, _, inv6, r6, q6⟩ => exact gone inv6 fun _ inv7 => ⟨_, _, _, inv7, r6, q6⟩
end
/-- try: body, except x1 as n: .., except x2 as n: ..; nothing else comes out of the body -/
theorem ps_try_as2 {X : Cx} {i : Nat} {x1 x2 n : Str} {c1 c2 : Value} {body : List Stmt} {f1 f2 : Stmt} {m1 m2 : List Stmt} {p1 p2 p3 p4 pos : Pos} {tb : WX → TS} {ts1 ts2 : Addr → Value → Option Addr → TS}
    (stk : X.stack = X.env :: X.outer) (frame : X.env.frame = some X.env.locals) (nd : X.N.Nodup) (slot : X.N[i]? = some n) (isLoc : X.env.kindOf n = some .local) (nm1 : Names X x1 c1) (nm2 : Names X x2 c2)
    (hb : ∀ (W : WX) (pn : List (Addr × Obj)) (xe : Value → Shared → Prop), L2N.Takes (X.tr pn xe) W → PassesOwn (model X.prog X.w) X.A X.env xe → PSs (X.tr pn xe) body (tb W))
    (s1 : ∀ (a : Addr) (oe : Obj) (cls : Value) (d : Option Addr) (pn : List (Addr × Obj)), L2N.Zn cls d oe → (∃ vs, oe.data = .fields vs) → PSs (X.suite a ((a, oe) :: pn)) (f1 :: m1) (ts1 a cls d))
    (s2 : ∀ (a : Addr) (oe : Obj) (cls : Value) (d : Option Addr) (pn : List (Addr × Obj)), L2N.Zn cls d oe → (∃ vs, oe.data = .fields vs) → PSs (X.suite a ((a, oe) :: pn)) (f2 :: m2) (ts2 a cls d)) :
    PS X (.Try body [.ExceptHandler (some (.Name x1 p1)) (some n) (f1 :: m1) p2, .ExceptHandler (some (.Name x2 p3)) (some n) (f2 :: m2) p4] [] [] pos)
      (fun D σ H => tb (wAs X.K c1 i ts1 (wAs X.K c2 i ts2 (fun _ _ _ _ => False) D) D) D σ H) := by
  refine ⟨fun pins s σ H D I h => wpAny_Try_except ?_⟩
  have fr : X.A.frames = some (X.env :: X.outer) := I.ok.frames.trans (congrArg some stk)
  refine wpAny_mono ((hb _ (X.pn ++ pins) _ ?_ PassesOwn.looking).run [] s σ H D (I.toTry _) h) (fun f t got => ?_) (fun _ _ z => z)
  · rintro u t ⟨a, B, sI, pins', σ', H', cls, d, rfl, inv', nb, up, sky, free, os, ag, wish⟩
    have inv := inv'.ofTry I.ok
    rw [show (X.tr (X.pn ++ pins) _).stack = X.env :: X.outer from stk] at sky
    refine L2N.Sky.land L2N.Zn.steady fr frame sky fun g fly up2 => ?_
    have Y : Down X pins σ' H' B a cls d { t with heap := g } := ⟨I.ok, fly, free, fun g2 fly2 up3 => inv.landed nb fly2.1 ((up.trans up2).trans up3) os ag⟩
    exact clause_as Y frame nd slot isLoc nm1 s1 wish fun wish2 => clause_as Y frame nd slot isLoc nm2 s2 wish2 False.elim
  · match f, got with
    | .next, ⟨_, _, inv, q⟩ => exact wpAny_execs_nil ⟨_, _, inv.ofTry I.ok, q⟩
    | .brk, ⟨_, _, inv, q⟩ => exact ⟨_, _, inv.ofTry I.ok, q⟩
    | .cont, ⟨_, _, inv, q⟩ => exact ⟨_, _, inv.ofTry I.ok, q⟩
    | .ret _, ⟨_, _, _, inv, r, q⟩ => exact ⟨_, _, _, inv.ofTry I.ok, r, q⟩
end FR
set_option maxHeartbeats 2000000
namespace FR
open PySem PySem.Spec PyProof.Rows L2 HotX
section
variable {prog : Program} {w : World} {A : Around} {E : Value → Shared → Prop} {s : Shared}
/-- where an exception is handled: the list's iterator comes to its end -/
theorem list_end_hot {it l x1 : Addr} {i : Nat} {items : Array Value} {Q : Option Value → Shared → Prop} (hot : HotAt A x1 s.heap) (ne : x1 ≠ it) (iter : s.heap.IsListIter it l i) (isl : s.heap.IsList l items) (out : items[i]? = none)
    (fin : ∀ g, Heap.ExtBut it s.heap g → Q none { s with heap := g }) : wpAny (model prog w) A (pyNext (.ref it)) Q E s := by
  obtain ⟨oi, geti, _, dati⟩ := id iter
  obtain ⟨ol, getl, _, nl, datl⟩ := isl
  obtain ⟨hh, o1, v1, get1, dat1, ctx1⟩ := hot
  unfold pyNext
  refine wpAny_bind (wpAny_attempt ?_)
  refine wpAny_callSpecial?_slot (name := Str.ofString "__next__") iter.typeIs slot_listiter_next ?_
  refine wpAny_call_entry slot_listiter_next iter.typeIs entry_listiter_next ?_ (args_listiter_next _)
  refine wpAny_bind (m := field (.ref it) 0) (wpAny_field geti dati (x := .ref l) rfl ?_)
  rw [if_neg (show ¬ (Value.ref l == Value.none) = true by simp)]
  refine wpAny_bind (m := field (.ref it) 1) (wpAny_field geti dati (x := .int i 0) rfl ?_)
  refine wpAny_bind (m := seqItems? (.ref l)) (wpAny_seqItems getl datl ?_)
  simp only [Int.toNat_natCast, out]
  refine wpAny_bind (wpAny_rule (wpAny_bind (wpAny_setField geti dati (by simp) ?_)))
  refine wpAny_bind (m := newExc (.type "StopIteration") []) ?_
  simp only [newExc, newTuple]
  refine wpAny_bind (wpAny_newObj_type (wpAny_bind (m := firstArgMember _ _) (wpAny_of_eq (a := Value.none) (by first | rfl | (simp only [firstArgMember]; rfl)) (wpAny_newObj_type ?_ (by size_fits)))) (by size_fits))
  have old : ∀ b o, b ≠ it → s.heap.get? b = some o → ∀ f, ((s.heap.update it f).get? b = some o) := fun b o nb e f => (Heap.get?_update_other _ _ (Ne.symm nb)).trans e
  refine raiseNew_hot ⟨hh, o1, v1, Heap.get?_push_of_some _ (Heap.get?_push_of_some _ (old x1 o1 ne get1 _)), dat1, ctx1⟩ (Nat.ne_of_lt (Heap.lt_size (Heap.get?_push_of_some _ (old x1 o1 ne get1 _)))) (Heap.get?_push_size _ rfl) rfl (by first | (simp; done) | (simp; omega)) ?_
  refine wpAny_bind (wpAny_isInstance (T := "StopIteration") (b := true) ⟨_, Heap.get?_update_self _ (Heap.get?_push_size _ rfl) rfl, rfl⟩ isSubtype_stop (wpAny_pure (fin _ fun b o nb e => ?_)))
  rw [Heap.get?_update_other _ _ (Nat.ne_of_gt (Heap.lt_size (Heap.get?_push_of_some _ (old b o nb e _))))]
  exact Heap.get?_push_of_some _ (Heap.get?_push_of_some _ (old b o nb e _))
theorem tup_end_hot {it l x1 : Addr} {i : Nat} {items : Array Value} {Q : Option Value → Shared → Prop} (hot : HotAt A x1 s.heap) (ne : x1 ≠ it) (iter : IsTupIter s.heap it l i) (isl : IsTup s.heap l items) (out : items[i]? = none)
    (fin : ∀ g, Heap.ExtBut it s.heap g → Q none { s with heap := g }) : wpAny (model prog w) A (pyNext (.ref it)) Q E s := by
  obtain ⟨oi, geti, _, dati⟩ := id iter
  obtain ⟨ol, getl, _, nl, datl⟩ := isl
  obtain ⟨hh, o1, v1, get1, dat1, ctx1⟩ := hot
  unfold pyNext
  refine wpAny_bind (wpAny_attempt ?_)
  refine wpAny_callSpecial?_slot (name := Str.ofString "__next__") iter.typeIs slot_tupleiter_next ?_
  refine wpAny_call_entry slot_tupleiter_next iter.typeIs entry_tupleiter_next ?_ (args_tupleiter_next _)
  refine wpAny_bind (m := field (.ref it) 0) (wpAny_field geti dati (x := .ref l) rfl ?_)
  rw [if_neg (show ¬ (Value.ref l == Value.none) = true by simp)]
  refine wpAny_bind (m := field (.ref it) 1) (wpAny_field geti dati (x := .int i 0) rfl ?_)
  refine wpAny_bind (m := seqItems? (.ref l)) (wpAny_seqItems getl datl ?_)
  simp only [Int.toNat_natCast, out]
  refine wpAny_bind (wpAny_rule (wpAny_bind (wpAny_setField geti dati (by simp) ?_)))
  refine wpAny_bind (m := newExc (.type "StopIteration") []) ?_
  simp only [newExc, newTuple]
  refine wpAny_bind (wpAny_newObj_type (wpAny_bind (m := firstArgMember _ _) (wpAny_of_eq (a := Value.none) (by first | rfl | (simp only [firstArgMember]; rfl)) (wpAny_newObj_type ?_ (by size_fits)))) (by size_fits))
  have old : ∀ b o, b ≠ it → s.heap.get? b = some o → ∀ f, ((s.heap.update it f).get? b = some o) := fun b o nb e f => (Heap.get?_update_other _ _ (Ne.symm nb)).trans e
  refine raiseNew_hot ⟨hh, o1, v1, Heap.get?_push_of_some _ (Heap.get?_push_of_some _ (old x1 o1 ne get1 _)), dat1, ctx1⟩ (Nat.ne_of_lt (Heap.lt_size (Heap.get?_push_of_some _ (old x1 o1 ne get1 _)))) (Heap.get?_push_size _ rfl) rfl (by first | (simp; done) | (simp; omega)) ?_
  refine wpAny_bind (wpAny_isInstance (T := "StopIteration") (b := true) ⟨_, Heap.get?_update_self _ (Heap.get?_push_size _ rfl) rfl, rfl⟩ isSubtype_stop (wpAny_pure (fin _ fun b o nb e => ?_)))
  rw [Heap.get?_update_other _ _ (Nat.ne_of_gt (Heap.lt_size (Heap.get?_push_of_some _ (old b o nb e _))))]
  exact Heap.get?_push_of_some _ (Heap.get?_push_of_some _ (old b o nb e _))
/-- a tuple into names, where an exception is handled -/
theorem unpack_hot {t x1 : Addr} {items : Array Value} {Q : List Value → Shared → Prop} (hot : HotAt A x1 s.heap) (isT : IsTup s.heap t items)
    (fin : ∀ g, Heap.ExtBut s.heap.objs.size s.heap g → Q items.toList { s with heap := g }) : wpAny (model prog w) A (unpackItems (.ref t) items.size none) Q E s := by
  obtain ⟨hh, o1, v1, get1, dat1, ctx1⟩ := hot
  have apart : t ≠ s.heap.objs.size := by
    obtain ⟨o, e, _⟩ := isT
    exact Nat.ne_of_lt (Heap.lt_size e)
  have apart1 : x1 ≠ s.heap.objs.size := Nat.ne_of_lt (Heap.lt_size get1)
  unfold unpackItems notIterableAtAll
  refine wpAny_bind (wpAny_bind (wpAny_specialOf isT.typeIs slot_tuple_iter.lookup (wpAny_pure ?_)))
  simp only [Bool.false_eq_true, if_false]
  refine wpAny_bind (wpAny_holding (iter_tuple isT (wpAny_bind (wpAny_holding ?_))))
  refine draw_tuple apart items.size 0 _ _ ⟨_, Heap.get?_push_size _ rfl, rfl, rfl⟩ (isT.push _) (by omega) fun g1 iter1 same1 => ?_
  rw [show List.take items.size (List.drop 0 items.toList) = items.toList by rw [List.drop_zero]; exact List.take_of_length_le (by simp), if_neg (by simp)]
  have get1' : g1.get? x1 = some o1 := same1.extBut x1 o1 apart1 (Heap.get?_push_of_some _ get1)
  refine wpAny_bind (wpAny_holding (tup_end_hot (s := { s with heap := g1 }) ⟨hh, o1, v1, get1', dat1, ctx1⟩ apart1 iter1 ((isT.push _).extBut same1.extBut apart) (by simp) fun g2 ext2 => ?_))
  simp only [Option.isSome_none, Bool.false_eq_true, if_false]
  exact wpAny_pure (fin g2 fun b o nb e => ext2 b o nb (same1.extBut b o nb (Heap.get?_push_of_some _ e)))
theorem assign_hot {env : Env} {elts : List Expr} {k : Nat} {pos : Pos} {t x1 : Addr} {items : Array Value} {Q : Unit → Shared → Prop} (hot : HotAt A x1 s.heap) (isT : IsTup s.heap t items) (many : (assignEach elts env).length = items.size) (noStar : (assignEach elts env).findIdx? (·.1) = none)
    (on : ∀ g, Heap.ExtBut s.heap.objs.size s.heap g → wpAny (model prog w) A (assignInOrder ((assignEach elts env).map (·.2)) items.toList) Q E { s with heap := g }) : wpAny (model prog w) A (assign (.Tuple elts k pos) env (.ref t)) Q E s := by
  rw [assign_Tuple]
  refine wpAny_bind (wpAny_standAt ?_)
  unfold unpack
  rw [many, noStar]
  exact wpAny_bind (wpAny_holding (unpack_hot hot isT on))
end
/-- in X an exception is handled, whose class is one of the program's own and whose context is None -/
def HotO (A : Around) (x1 : Addr) (h : Heap) : Prop := A.handled = some (.ref x1) ∧ ∃ (o : Obj) (vs : Array Value) (C : Addr), h.get? x1 = some o ∧ o.cls = .ref C ∧ o.data = .fields vs ∧ vs[2]? = some .none
theorem HotO.at {A : Around} {x1 : Addr} {h : Heap} (y : HotO A x1 h) : HotAt A x1 h := by
  obtain ⟨a, o, vs, _, e, _, d, c⟩ := y
  exact ⟨a, o, vs, e, d, c⟩
def Warm (X : Cx) : Prop := ∀ (pins : List (Addr × Obj)) (σ : L2.St) (H : Hp) (s : Shared), Inv X pins σ H s → ∃ x1, HotO X.A x1 s.heap
theorem pg_tupH {X : Cx} {es : List Expr} {k n : Nat} {t : TGs} {pos : Pos} (warm : Warm X) (parts : PGs X es t) (many : (assignEach es X.env).length = n := by rfl) (noStar : (assignEach es X.env).findIdx? (·.1) = none := by rfl) : PG X (.Tuple es k pos) (gTup X.K n t) := by
  refine ⟨fun pins s σ H v u Q I rel wish => ?_⟩
  obtain ⟨a, xs, rfl, sq, len, wish⟩ := wish
  cases rel
  obtain ⟨its, rv, isT, hz⟩ := I.tuple sq
  obtain ⟨x1, hot⟩ := warm _ _ _ _ I
  refine assign_hot hot.at isT (by simp [many, ← len, rv.length]) noStar fun g ext => ?_
  have I2 : Inv X pins σ H { s with heap := g } := I.kept (t' := s.toks) fun b o e => ext b o (Nat.ne_of_lt (Heap.lt_size e)) e
  exact parts.run pins _ σ H xs _ Q I2 (by simpa using rv) wish
end FR
set_option maxHeartbeats 2000000
namespace FR
open PySem PySem.Spec PyProof.Rows L2 HotX
/-- the handled exception stands apart from all that X may change -/
def WarmP (X : Cx) : Prop := ∃ (x1 : Addr) (o : Obj), (x1, o) ∈ X.pn ∧ X.A.handled = some (.ref x1) ∧ ∃ (vs : Array Value) (C : Addr), o.cls = .ref C ∧ o.data = .fields vs ∧ vs[2]? = some .none
theorem WarmP.warm {X : Cx} (y : WarmP X) : Warm X := by
  obtain ⟨x1, o, isIn, hh, vs, C, c, d, n⟩ := y
  intro pins σ H s I
  exact ⟨x1, hh, o, vs, C, (I.pin (x1, o) (List.mem_append_left _ isIn)).1, c, d, n⟩
theorem warm_suite {X : Cx} {a C : Addr} {oe : Obj} {d : Option Addr} {pn : List (Addr × Obj)} (z : L2N.Zn (.ref C) d oe) (f : ∃ vs, oe.data = .fields vs) : WarmP (X.suite a ((a, oe) :: pn)) := by
  obtain ⟨vs, f⟩ := f
  exact ⟨a, oe, List.mem_cons_self, rfl, vs, C, z.1, f, z.2.2 vs f⟩
/-- a list's turn where an exception is handled -/
theorem list_item {X : Cx} {pins : List (Addr × Obj)} {σ : L2.St} {H : Hp} {s : Shared} {E : Value → Shared → Prop} {tg : Expr} {a it : Addr} {i : Nat} (I : Inv X pins σ H s) (ap : FpOk X pins H it) (st : s.heap.IsListIter it a i) (go : (Itl X.K a).go i H) :
    wpAny (model X.prog X.w) X.A (pyNext (.ref it)) (fun r s1 => ∃ u, r = some u ∧ wpAny (model X.prog X.w) X.A (letOwnedTupleGo tg (.ref it) u) (fun _ s2 => ∃ x, Inv X pins σ H s2 ∧ RelV x u ∧ (Itl X.K a).yld i H x H ∧ s2.heap.IsListIter it a (i + 1)) E s1) E s := by
  obtain ⟨xs, x, sq, at_⟩ := go
  obtain ⟨its, rv, isl, _⟩ := I.list sq
  obtain ⟨u, atu, ru⟩ := rv.get at_
  obtain ⟨z0, z1, _, z3, z4, z5⟩ := ap
  refine wpAny_pyNext_list_item st isl.isList (x := u) (by simpa using atu) fun g st2 sb => ⟨u, rfl, ?_⟩
  have I2 : Inv X pins σ H { s with heap := g } := I.turned (t' := s.toks) (fun b ob nb e => (sb.2 b nb).trans e) z0 z1 z3 z4 z5
  obtain ⟨ob, e, c, d⟩ := id st2
  exact go_of (s := { s with heap := g }) e c d (by decide) ⟨x, I2, ru, ⟨rfl, fun ys hy => by rw [I.list_inj hy sq]; exact at_⟩, st2⟩
theorem list_done {X : Cx} {pins : List (Addr × Obj)} {σ : L2.St} {H : Hp} {s : Shared} {E : Value → Shared → Prop} {a it : Addr} {i : Nat} (warm : Warm X) (I : Inv X pins σ H s) (ap : FpOk X pins H it) (st : s.heap.IsListIter it a i) (stop : (Itl X.K a).stop i H) :
    wpAny (model X.prog X.w) X.A (pyNext (.ref it)) (fun r s1 => r = none ∧ Inv X pins σ H s1) E s := by
  obtain ⟨xs, sq, len⟩ := stop
  obtain ⟨its, rv, isl, _⟩ := I.list sq
  obtain ⟨z0, z1, _, z3, z4, z5⟩ := ap
  have hl := rv.length
  obtain ⟨x1, hot⟩ := warm _ _ _ _ I
  have ne : x1 ≠ it := by
    rintro rfl
    obtain ⟨_, o, vs, C, e, c, _⟩ := hot
    obtain ⟨ob, e2, c2, _⟩ := st
    rw [e] at e2
    cases e2
    rw [c] at c2
    cases c2
  exact list_end_hot hot.at ne st isl.isList (by simp; omega) fun g ext => ⟨rfl, I.turned (t' := s.toks) (fun b o nb e => ext b o nb e) z0 z1 z3 z4 z5⟩
/-- [elt for target in list if ..] where an exception is handled -/
theorem pe_lcH {X : Cx} {elt tg l : Expr} {ifs : List Expr} {scope : Scope} {own : List (Str × Nat)} {pos : Pos} {tl : TE} {g : TG} {tt : TT} {te : TE} (warm : WarmP X) (stk : X.stack = X.env :: X.outer) (frame : X.env.frame = some X.env.locals) (nd : X.N.Nodup) (hl : PE X l tl)
    (ok : BlkOk X.N X.env.scope scope own) (hg : ∀ (s : Shared) (H : Hp) (C : Addr) (cl : List (Str × Addr)) (fp : List Addr), Warm (X.blk s H scope (compEnvC scope cl C X.env) fp) → PG (X.blk s H scope (compEnvC scope cl C X.env) fp) tg g)
    (ht : ∀ (s : Shared) (H : Hp) (C : Addr) (cl : List (Str × Addr)) (fp : List Addr), PTs (X.blk s H scope (compEnvC scope cl C X.env) fp) ifs tt)
    (he : ∀ (s : Shared) (H : Hp) (C : Addr) (cl : List (Str × Addr)) (fp : List Addr), PE (X.blk s H scope (compEnvC scope cl C X.env) fp) elt te) (fold : ∀ x, foldedSetIterable l X.env x = pure x := by intro _; rfl) :
    PE X (.ListComp elt [⟨tg, l, ifs, 0⟩] scope pos) (tLc (iList X.K tl) g tt te (own.map (·.2))) := by
  refine ⟨fun pins s σ H Q I h => ?_⟩
  rw [eval_ListComp]
  have caught : ∀ y ∈ scope.names, y.2 = .free → ∃ c, X.env.cells.lookup y.1 = some c := by
    intro y hy e
    rcases ok.free y hy e with z | z
    · exact I.ok.has _ (.inl z)
    · exact I.ok.has _ (.inr z)
  refine wpAny_comprehension_free (use := none) rfl fold (closure_ok caught) ok.kind (fun y hy e => (ok.uniq y hy).trans (congrArg some e)) (thn (hl.run pins s σ H _ I h) fun v0 s1 made => ?_)
  obtain ⟨x0, H1, I1, r1, a, rfl, ⟨xs, sq⟩, wish⟩ := made
  cases r1
  obtain ⟨its, rv, isl, _⟩ := I1.list sq
  refine wpAny_pyIter_list isl.isList ?_
  -- the iterator
  generalize hit : s1.heap.objs.size = it
  generalize hs2 : ({ s1 with heap := s1.heap.push _ } : Shared) = s2
  have I2 : Inv X pins σ H1 s2 := by
    rw [← hs2]
    exact I1.kept (t' := s1.toks) fun b o e => Heap.get?_push_of_some _ e
  have st2 : s2.heap.IsListIter it a 0 := by
    rw [← hs2, ← hit]
    exact ⟨_, Heap.get?_push_size _ rfl, rfl, rfl⟩
  have ap2 : FpOk X pins H1 it := I1.fpOk (by rw [hit]; exact Nat.le_refl _) (I1.hok.fresh (by rw [hit]; exact Nat.le_refl _))
  refine wpAny_newObj_type (newEnv_comp ?_) (by show 0 ≤ sizeLine; decide)
  -- the new list
  generalize hD : s2.heap.objs.size = D
  generalize hs3 : ({ s2 with heap := s2.heap.push { cls := .type "list", data := .seq ([] : List Value).toArray } } : Shared) = s3
  have newD : H1 D = none := I2.hok.fresh (Nat.le_of_eq hD)
  obtain ⟨W, ⟨m0, w0⟩, turn⟩ := wish D newD
  have heap3 : s3.heap = s2.heap.push { cls := .type "list", data := .seq ([] : List Value).toArray } := by rw [← hs3]
  have I3 : Inv X pins σ (upd H1 D (.lst [])) s3 := by
    rw [← hs3]
    refine I2.laid (t' := s2.toks) (fun b o e => Heap.get?_push_of_some _ e) (Nat.le_of_eq hD) ⟨Nat.zero_le _, [], 0, .nil, ?_⟩
    rw [← hD]
    exact Heap.get?_push_size _ rfl
  have itLt : it < s2.heap.objs.size := by
    obtain ⟨o, e, _⟩ := st2
    exact Heap.lt_size e
  have itNe : it ≠ D := by
    rw [← hD]
    exact Nat.ne_of_lt itLt
  have ap3 : FpOk X pins (upd H1 D (.lst [])) it := ⟨by rw [upd_ne itNe]; exact ap2.1, ap2.2⟩
  have st3 : s3.heap.IsListIter it a 0 := st2.at fun o e => by
    rw [heap3]
    exact Heap.get?_push_of_some _ e
  have I4 := block_start (fp := [it]) I3 ok nd fun b hb => by
    rw [List.mem_singleton.mp hb]
    exact ⟨ap3, by rw [heap3, Heap.size_push]; exact Nat.lt_succ_of_lt itLt⟩
  -- the handled exception, in the block
  have blkWarm : ∀ ce : Env, Warm (X.blk s3 (upd H1 D (.lst [])) scope ce [it]) := by
    obtain ⟨x1, o, isIn, hh, vs, C, c, d, n⟩ := warm
    intro ce pins' σ' H' s' I'
    obtain ⟨p1, p2, p3, p4, _⟩ := I3.pin (x1, o) (List.mem_append_left _ isIn)
    have offF : x1 ∉ (X.blk s3 (upd H1 D (.lst [])) scope ce [it]).fs := by
      intro z
      obtain ⟨v, hv, e⟩ := List.mem_filterMap.mp z
      have hv' : v ∈ X.env :: X.outer := by
        rw [← stk]
        exact hv
      rcases List.mem_cons.mp hv' with g | g
      · rw [g, frame] at e
        exact p3 (Option.some.inj e).symm
      · exact p4 (List.mem_filterMap.mpr ⟨v, g, e⟩)
    have offI : x1 ∉ [it] := by
      intro z
      have z := List.mem_singleton.mp z
      obtain ⟨ob, e2, c2, _⟩ := st3
      rw [← z] at e2
      have e3 := p1.symm.trans e2
      cases e3
      rw [c] at c2
      cases c2
    exact ⟨x1, hh, o, vs, C, I'.base.keep x1 o p1 p2 offF offI, c, d, n⟩
  have wm := blkWarm (compEnvC scope (cellsFrom (s3.heap.objs.size + 1) scope.names (cloFrom X.env.cells scope.names [])) s3.heap.objs.size X.env)
  have pg := hg s3 (upd H1 D (.lst [])) s3.heap.objs.size (cellsFrom (s3.heap.objs.size + 1) scope.names (cloFrom X.env.cells scope.names [])) [it] wm
  have pt := ht s3 (upd H1 D (.lst [])) s3.heap.objs.size (cellsFrom (s3.heap.objs.size + 1) scope.names (cloFrom X.env.cells scope.names [])) [it]
  have pe := he s3 (upd H1 D (.lst [])) s3.heap.objs.size (cellsFrom (s3.heap.objs.size + 1) scope.names (cloFrom X.env.cells scope.names [])) [it]
  change codeAny _ _ (.compStart (.ListComp elt [⟨tg, l, ifs, 0⟩] scope pos) 0 (.ref it) (.ref D) (compEnvC scope (cellsFrom (s3.heap.objs.size + 1) scope.names (cloFrom X.env.cells scope.names [])) s3.heap.objs.size X.env))
    (compPost (model X.prog X.w) X.A X.xe none (EP X pins σ Q) (.ref D) s3.heap.objs.size) { s3 with heap := pushCells (s3.heap.push { cls := .type "dict", data := .dict #[] }) scope.names }
  generalize hce : compEnvC scope (cellsFrom (s3.heap.objs.size + 1) scope.names (cloFrom X.env.cells scope.names [])) s3.heap.objs.size X.env = ce at I4 pg pt pe wm ⊢
  have ceL : ce.locals = s3.heap.objs.size := by
    subst hce
    rfl
  generalize hs4 : ({ s3 with heap := pushCells (s3.heap.push { cls := .type "dict", data := .dict #[] }) scope.names } : Shared) = s4 at I4 ⊢
  have st4 : s4.heap.IsListIter it a 0 := st3.at fun o e => by
    rw [← hs4]
    exact pushCells_keeps _ _ _ _ (Heap.get?_push_of_some _ e)
  generalize hH3 : upd H1 D (.lst []) = H3 at I3 I4 pg pt pe wm w0 ap3
  have me : it ∈ [it] := List.mem_singleton.mpr rfl
  have apB : ∀ {σ' : L2.St} {H' : Hp} {t : Shared}, Inv (X.blk s3 H3 scope ce [it]) [] σ' H' t → H' it = none → FpOk (X.blk s3 H3 scope ce [it]) [] H' it := fun I' n =>
    ⟨n, (I'.ok.exf it me).1, I'.ok.exfs it me, .inl me, fun x c e => (I'.ok.exf it me).2 x c e, fun p hp => absurd (show p ∈ ([] : List (Addr × Obj)) ++ [] from hp) (by simp)⟩
  have loop : codeAny (model X.prog X.w) X.A (.compLoop (.ListComp elt [⟨tg, l, ifs, 0⟩] scope pos) 0 (.ref it) (.ref D) ce) (compPost (model X.prog X.w) X.A X.xe none (EP X pins σ Q) (.ref D) s3.heap.objs.size) s4 := by
    refine compLoop_any (fun n t => ∃ i H', Inv (X.blk s3 H3 scope ce [it]) [] (wipe σ (own.map (·.2))) H' t ∧ t.heap.IsListIter it a i ∧ H' it = none ∧ W i n H') ?_ m0 ⟨0, H3, I4, st4, ap3.1, w0⟩
    rintro n t5 ⟨i, H5, I5, st5, n5, w5⟩
    rcases turn i n H5 w5 with ⟨stop, q5⟩ | ⟨go, Nx, hNx, step⟩
    · refine thnF (list_done (X := X.blk s3 H3 scope ce [it]) wm I5 (apB I5 n5) st5 stop) fun r t6 ⟨hr, I6⟩ => ?_
      subst hr
      have I7 : Inv X pins σ H5 t6 := I3.call' (ch := [it]) I6.os I6.base I6.hok I6.bare fun b hb => by
        rw [List.mem_singleton.mp hb]
        exact ⟨ap3.2.2.2.1, ap3.2.1, ap3.2.2.2.2.1, ap3.2.2.2.2.2⟩
      have nC : H5 s3.heap.objs.size = none := ceL ▸ (show H5 ce.locals = none from I6.free)
      obtain ⟨m, ns, _⟩ := I6.loc
      have apC := I3.fpOk (H' := H5) (Nat.le_refl _) nC
      refine ⟨m, ceL ▸ (show t6.heap.Ns ce.locals m from ns), fun g sb => ⟨.ref D, H5, ?_, rfl, q5⟩⟩
      exact I7.turned (t' := t6.toks) (fun b o nb e => (sb.2 b nb).trans e) apC.1 apC.2.1 apC.2.2.2.1 apC.2.2.2.2.1 apC.2.2.2.2.2
    · refine thnF (list_item (X := X.blk s3 H3 scope ce [it]) (tg := tg) I5 (apB I5 n5) st5 go) fun r t6 ⟨u, hr, h6⟩ => ?_
      subst hr
      refine thnF h6 fun _ t7 ⟨x, I7, r7, y7, st7⟩ => ?_
      obtain ⟨oi, gi, ci, di⟩ := id st7
      have I7' := I7.pinned (fp := [it]) (fun b hb => by rw [List.mem_singleton.mp hb]; exact apB I7 n5) (fun b hb => by
        rw [List.mem_singleton.mp hb]
        exact ⟨oi, gi, fun v z => by rw [di] at z; cases z⟩)
      refine thnF (pg.run _ t7 _ H5 x u _ I7' r7 (step x H5 y7)) fun _ t8 ⟨σ8, H8, I8, w8, q8⟩ => ?_
      refine thnF (pt.run _ t8 σ8 H8 _ I8 q8) fun b t9 ⟨H9, I9, q9⟩ => ?_
      have fin : ∀ {t' : Shared} {H' : Hp}, Inv (X.blk s3 H3 scope ce [it]) ([] ++ pinsAt [it] t7.heap) σ8 H' t' → Nx H' → ∃ m, m < n ∧ ∃ i H', Inv (X.blk s3 H3 scope ce [it]) [] (wipe σ (own.map (·.2))) H' t' ∧ t'.heap.IsListIter it a i ∧ H' it = none ∧ W i m H' := by
        intro t' H' I' nx
        obtain ⟨m', hm, w'⟩ := hNx H' nx
        obtain ⟨gi', ni', _⟩ := I'.pin (it, oi) (List.mem_append_right _ (List.mem_append_right _ (mem_pinsAt me gi)))
        have len : (wipe σ (own.map (·.2))).length = σ8.length := by rw [← w8, wipe_length]
        refine ⟨m', hm, i + 1, H', (I'.unpinned (pins := [])).weak len (fun j v e => (wipe_some (by rw [w8]; exact e)).1), ?_, ni', w'⟩
        exact st7.at fun o e => by
          rw [gi] at e
          cases e
          exact gi'
      cases b with
      | false => exact fin I9 q9
      | true =>
        refine thnF (pe.run _ t9 σ8 H9 _ I9 q9) fun z t10 ⟨yv, H10, I10, r10, acc, hD10, hz10, nx⟩ => ?_
        exact app_ok (X := X.blk s3 H3 scope ce [it]) I10 hD10 hz10 r10 fun t11 I11 => fin I11 nx
  exact codeAny_compStart_list loop (wpAny_pyIter_listiter st4 loop)
end FR
set_option maxHeartbeats 2000000
namespace FR
open PySem PySem.Spec PyProof.Rows L2 HotX
/-! ### xs[i] op= e -/
def rGetL (K : PySem.W.Frag) : V → V → Hp → VK → Prop := fun o i H Q => ∃ p xs k v, o = .ref p ∧ i = .int k ∧ SqL K H p xs ∧ 0 ≤ k ∧ k < 2 ^ 63 ∧ xs[k.toNat]? = some v ∧ Q v H
theorem get_list {X : Cx} : PGet X (rGetL X.K) := by
  intro pins s σ H o i ov iv Q I ro ri h
  obtain ⟨p, xs, k, v, rfl, rfl, sq, k0, k1, at_, q⟩ := h
  cases ro
  obtain ⟨tk, rfl⟩ := ri
  obtain ⟨its, rv, isl, _⟩ := I.list sq
  obtain ⟨u, atu, ru⟩ := rv.get at_
  exact wpAny_getItem_list isl.isList k0 k1 (by simpa using atu) ⟨v, H, I, ru, q⟩
/-! ### defs that raise -/
structure ExcT (K : PySem.W.Frag) (mg : Str → Option Value) (x : Str) (C : Addr) : Prop where
  g : mg x = some (.ref C)
  ex : PySem.W.excIn K C [.type "ValueError", .type "Exception", .type "BaseException", .type "object"] "ValueError.__new__" = true
  kp : PySem.W.keepIn K (.ref C) = true
  sb : PySem.W.subIn K (.ref C) (.type "BaseException") = some true
  ty : PySem.W.typeIn K (.ref C) = some (.type "type")
theorem ps_raiseX {X : Cx} {x m : Str} {C : Addr} {j : Nat} {W : WX} {p p2 p3 p4 : Pos} (T : ExcT X.K X.mg x C) (tk : L2N.Takes X W) (hg : Gl X x := by rfl) (hc : X.calm = true := by rfl) (hdb : (x == ("__debug__" : Str)) = false := by decide) :
    PS X (.Raise (some (.Call (.Name x p) [.Constant (.str m) j p2] [] p3)) none p4) (fun _ σ H => W (.ref C) none σ H) :=
  L2N.ps_raise hc tk (L2N.pmk_own PySem.F.excBase_ValueError T.ex T.g T.kp (raises_own T.sb T.ty) hg hdb)
theorem okN {P : Program} {w : World} {K : PySem.W.Frag} {mg : Str → Option Value} {base : Heap} {x qual : Str} {st : Stmt} {f : Addr} {fd : FuncData} {N ps : List Str} {k : Nat} {sp : Sp} (F : Fun K x qual st f fd) (S : FnScope N ps (defScope st)) (len : ∀ vs H Q E, sp vs H Q E → vs.length = ps.length)
    (hbody : ∀ (cdv : Value) (A : Around) (outer : List Env) (s : Shared) (H : Hp) (vs : List V) (Q : VK) (E : XK), Room k (A.deeper (envOfC qual (defScope st) s.heap.objs.size f cdv)) → sp vs H Q E →
      ∃ t, PSs (cxOf (L2N.CX P w) P w K mg base N qual (defScope st) f cdv A outer s H E) (defBody st) t ∧ t { nx := fun _ H' => Q .non H', rt := Q } (L2.start N vs) H) : FnOk P w K mg base (L2N.CX P w) (k + 1) f fd ps sp := by
  obtain ⟨oc, od, kV, doc, pm, an, cdv, ct, osl, rfl, lk, hcd⟩ := F.ex
  exact fn_of lk hcd S len fun A outer s H vs Q E room wish => hbody cdv A outer s H vs Q E room wish
structure DefX (P : Program) (w : World) (K : PySem.W.Frag) (mg : Str → Option Value) (base : Heap) (x : Str) (k : Nat) (ps : List Str) (sp : Sp) : Prop where
  ex : ∃ f fd, FnOk P w K mg base (L2N.CX P w) k f fd ps sp ∧ mg x = some (.ref f) ∧ PySem.W.keepIn K (.ref f) = true ∧ Binds K fd ps []
theorem pe_defX {X : Cx} {k j : Nat} {ps : List Str} {sp : Sp} {x : Str} {p pos : Pos} {e : Expr} {es : List Expr} {t : TA} {E : XK} (D : DefX X.prog X.w X.K X.mg X.base x k ps sp) (hr : Room j X.A) (tk : L2N.Takes X (fun cls d _ H => E cls d H)) (ha : PA X (e :: es) t) (hg : Gl X x := by rfl) (hl : k ≤ j := by decide)
    (hdb : (x == ("__debug__" : Str)) = false := by decide) (he : starEach (e :: es) X.env = (false, eval e X.env) :: starEach es X.env := by rfl) (hpl : (backTo pos (starEach es X.env)).any (·.1) = false := by rfl) :
    PE X (.Call (.Name x p) (e :: es) [] pos) (tCall sp [] E t) := by
  obtain ⟨f, fd, F, m, kp, b⟩ := D.ex
  exact pe_call F (hr.mono hl) hg m kp b .nil (L2N.passes_call tk fun _ _ _ _ h => h) ha hdb he hpl
/-- a def as a value: its promise goes with its address -/
structure HeldX (P : Program) (w : World) (K : PySem.W.Frag) (mg : Str → Option Value) (base : Heap) (k : Nat) (f : Addr) (sp : Sp) : Prop where
  ex : ∃ (fd : FuncData) (ps : List Str), FnOk P w K mg base (L2N.CX P w) k f fd ps sp ∧ PySem.W.keepIn K (.ref f) = true ∧ Binds K fd ps []
def tCallV (i : Nat) (S : Addr → Sp → Prop) (W : WX) (t : TA) : TE := fun σ H Q => ∃ f sp, σ[i]? = some (some (.ref f)) ∧ S f sp ∧ t σ H fun vs H1 => sp vs H1 Q (fun cls d H' => W cls d σ H')
theorem pe_callV {X : Cx} {k i : Nat} {x : Str} {p pos : Pos} {e : Expr} {es : List Expr} {t : TA} {W : WX} (hr : Room k X.A) (slot : X.N[i]? = some x) (vis : Vis X.env.scope x) (tk : L2N.Takes X W) (ha : PA X (e :: es) t)
    (hdb : (x == ("__debug__" : Str)) = false := by decide) (hcd : (x == ("__classdict__" : Str)) = false := by decide) (he : starEach (e :: es) X.env = (false, eval e X.env) :: starEach es X.env := by rfl) (hpl : (backTo pos (starEach es X.env)).any (·.1) = false := by rfl) :
    PE X (.Call (.Name x p) (e :: es) [] pos) (tCallV i (HeldX X.prog X.w X.K X.mg X.base k) W t) := by
  refine ⟨fun pins s σ H Q I h => ?_⟩
  obtain ⟨f, sp, at_, ⟨fd, ps, F, kp, b⟩, wish⟩ := h
  refine wpAny_Call_Name_kw (thn ((pe_var (pos := p) slot vis hdb hcd).run pins s σ H (fun v H1 => v = .ref f ∧ H = H1) I ⟨.ref f, at_, rfl, rfl⟩) fun u s1 got => ?_)
  obtain ⟨v, H1, I1, rel, rfl, rfl⟩ := got
  cases rel
  refine PySem.W.callWith_K (h₀ := X.base) I.ok.mod.kin kp (thn (ha.run pos pins s1 σ _ _ I1 wish) fun us s2 got => ?_) he hpl
  obtain ⟨vs, H2, I2, r, q⟩ := got
  exact ⟨I2.kIn, run_fnS (E := fun σ cls d H' => W cls d σ H') F hr b (L2N.passAt tk σ) I2 r q⟩
/-- isinstance(e, c), e the exception that the suite holds: its class is told by the wish -/
def rIsE2 (K : PySem.W.Frag) (cls : Value) (d : Option Addr) (a : Addr) : List V → Hp → VK → Prop := fun xs H Q => ∃ (C : Addr) (c : V) (cv : Value) (b : Bool), cls = .ref C ∧ d = none ∧ ExcC K C ∧ xs = [.ref a, c] ∧ (∀ u, RelV c u → u = cv) ∧ PySem.W.kitOne K (.ref C) cv = some b ∧ Q (.bl b) H
theorem call_isE2 {X : Cx} {a : Addr} {oe : Obj} {cls : Value} {d : Option Addr} {pn : List (Addr × Obj)} (z : L2N.Zn cls d oe) (f : ∃ vs, oe.data = .fields vs) : CallR (X.suite a ((a, oe) :: pn)) (.builtin "isinstance") (rIsE2 X.K cls d a) := by
  intro pins s σ H xs us Q I r h
  obtain ⟨C, c, cv, b, rfl, rfl, ex, rfl, one, e, q⟩ := h
  exact call_isE ex z.zc f pins s σ H _ us Q I r ⟨c, cv, b, rfl, one, e, q⟩
end FR
set_option maxHeartbeats 2000000
namespace FR
open PySem PySem.Spec PyProof.Rows L2
/-! ### rows of deeds -/
def deedD (n : Int) : PyData → Bool
  | .str x => decide (V.str x = V.str "ride")
  | d => withinD 0 (n - 1) d
def rowD (n : Int) : PyData → Bool
  | .list ds => decide (ds.length ≤ 100) && ds.all (deedD n)
  | _ => false
def canB (cs : List Int) (x : Int) (zs : List Int) : V → Bool
  | .str _ => decide (0 < x)
  | .int i => decide (cs.getD i.toNat 0 ≤ zs.getD i.toNat 0)
  | _ => false
theorem can_iff {cs zs : List Int} {x : Int} {v : V} (hl : zs.length = cs.length) (h : DeedV cs.length v) : Can cs x zs v ↔ canB cs x zs v = true := by
  rcases h with rfl | ⟨i, rfl, i0, i1⟩
  · constructor
    · rintro (⟨_, h⟩ | ⟨i, c, z, h, _⟩)
      · exact decide_eq_true h
      · exact nomatch h
    · intro h
      exact .inl ⟨rfl, of_decide_eq_true h⟩
  · obtain ⟨c, _, hc, _⟩ := at_int (ns := cs) (k := i) i0 i1
    obtain ⟨z, _, hz, _⟩ := at_int (ns := zs) (k := i) i0 (by omega)
    have e : canB cs x zs (.int i) = decide (c ≤ z) := by
      show decide (cs.getD i.toNat 0 ≤ zs.getD i.toNat 0) = _
      rw [List.getD_eq_getElem?_getD, List.getD_eq_getElem?_getD, hc, hz]
      rfl
    rw [e, decide_eq_true_eq]
    constructor
    · rintro (⟨h, _⟩ | ⟨i', c', z', h, _, h1, h2, h3⟩)
      · exact nomatch h
      · cases h
        rw [hc] at h1
        rw [hz] at h2
        cases h1
        cases h2
        exact h3
    · intro h
      exact .inr ⟨i, c, z, rfl, i0, hc, hz, h⟩
def stepO (cs : List Int) : Option (Int × List Int) → V → Option (Int × List Int)
  | none, _ => none
  | some (x, zs), v => if canB cs x zs v = true then some (aftX x v, aftS cs zs v) else none
def rowO (cs : List Int) (st : Option (Int × List Int)) (row : List V) : Option (Int × List Int) := row.foldl (stepO cs) st
def PurseO (K : PySem.W.Frag) (cs : List Int) (H : Hp) (v : V) : Option (Int × List Int) → Prop
  | none => v = .non
  | some (x, zs) => ∃ p, v = .ref p ∧ Purse K H p x zs ∧ zs.length = cs.length
def dataO : Option (Int × List Int) → PyData
  | none => .none
  | some (x, zs) => .tuple [.int x, .tuple (zs.map PyData.int)]
theorem PurseO.dp {K : PySem.W.Frag} {cs : List Int} {H : Hp} {v : V} : ∀ {o : Option (Int × List Int)}, PurseO K cs H v o → Dp K H v (dataO o)
  | none, h => (show v = .non from h) ▸ .non
  | some (x, zs), h => by
    obtain ⟨p, rfl, hp, _⟩ := h
    exact hp.dp
theorem dataO_shaped : ∀ o : Option (Int × List Int), SeqAt.shaped (dataO o) = true
  | none => shaped_non
  | some (x, zs) => due_shaped x zs
theorem dataO_eqv : ∀ o : Option (Int × List Int), PyData.eqv (dataO o) (dataO o) = true
  | none => eqv_non
  | some (x, zs) => due_eqv x zs
theorem PurseO.same {K : PySem.W.Frag} {cs : List Int} {H H' : Hp} {v : V} (s : Same H H') : ∀ {o : Option (Int × List Int)}, PurseO K cs H v o → PurseO K cs H' v o
  | none, h => h
  | some (x, zs), ⟨p, e, h, l⟩ => ⟨p, e, h.same s, l⟩
theorem PurseO.kp {K : PySem.W.Frag} {cs : List Int} {H H' : Hp} {v : V} (s : Kp H H') : ∀ {o : Option (Int × List Int)}, PurseO K cs H v o → PurseO K cs H' v o
  | none, h => h
  | some (x, zs), ⟨p, e, h, l⟩ => ⟨p, e, h.kp s, l⟩
theorem aftS_len {cs zs : List Int} {v : V} : (aftS cs zs v).length = zs.length := by
  unfold aftS
  split
  · rw [List.length_map]
  · rw [List.length_set]
  · rfl
theorem rowO_none (cs : List Int) : ∀ row : List V, rowO cs none row = none
  | [] => rfl
  | _ :: r => rowO_none cs r
theorem rowO_snoc {cs : List Int} {st : Option (Int × List Int)} {row : List V} {v : V} : rowO cs st (row ++ [v]) = stepO cs (rowO cs st row) v := by
  unfold rowO
  rw [List.foldl_append]
  rfl
theorem rowD_deeds {K : PySem.W.Frag} {H : Hp} {n : Nat} {ds : List PyData} {xs : List V} (hx : DpAll K H xs ds) (h : ds.all (deedD (n : Int)) = true) : ∀ v ∈ xs, DeedV n v := by
  intro v hv
  obtain ⟨i, hi, e⟩ := List.getElem_of_mem hv
  obtain ⟨d, hd, hp⟩ := dp_get hx (by rw [List.getElem?_eq_getElem hi, e])
  have h1 := List.all_eq_true.mp h d (List.mem_of_getElem? hd)
  cases hp with
  | str x =>
    have := of_decide_eq_true h1
    exact .inl this
  | int j =>
    have h2 : (decide (0 ≤ j) && decide (j ≤ (n : Int) - 1)) = true := h1
    rw [Bool.and_eq_true, decide_eq_true_eq, decide_eq_true_eq] at h2
    exact .inr ⟨j, rfl, h2.1, by omega⟩
  | non => exact nomatch h1
  | bl b => exact nomatch h1
  | lst _ _ => exact nomatch h1
  | tup _ _ => exact nomatch h1
end FR
set_option maxHeartbeats 2000000
namespace FR
open PySem PySem.Spec PyProof.Rows L2
/-! ### who is refused: the words, the classes at C 0, C 1, .. -/
def kinN : Nat → Str
  | 0 => "NoCards" | 1 => "NoPurse" | 2 => "NoStamps" | 3 => "NoRow" | 4 => "NoNumber" | 5 => "NoPurses" | 6 => "NoSeen" | 7 => "NoRide" | 8 => "NoKind" | 9 => "NoLoan" | _ => "NothingLeft"
/-- what is wished may be weakened -/
def MonoSp (sp : Sp) : Prop := ∀ (vs : List V) (H : Hp) (Q Q' : VK) (E E' : XK), sp vs H Q E → (∀ v H', Q v H' → Q' v H') → (∀ c d H', E c d H' → E' c d H') → sp vs H Q' E'
structure Kin (K : PySem.W.Frag) (mg : Str → Option Value) (C : Nat → Addr) (tf rd : Addr) : Prop where
  w : ∀ j, j < 11 → mg (kinN j) = some (.ref (C j))
  tf : mg "TooFew" = some (.ref tf)
  rd : mg "RideError" = some (.ref rd)
structure KinOf (K : PySem.W.Frag) (C : Nat → Addr) (tf rd : Addr) (i : Nat) : Prop where
  lt : i < 11
  ex : ExcC K (C i)
  k : ∀ j, j < 11 → PySem.W.kitOne K (.ref (C i)) (.ref (C j)) = some (decide (i = j))
  v : PySem.W.kitOne K (.ref (C i)) (.type "ValueError") = some true
  n : PySem.W.exmOne K (.ref (C i)) (.ref tf) = some false
  y : PySem.W.exmOne K (.ref (C i)) (.ref rd) = some true
/-- isinstance(e, the j-th class), e in slot 5 -/
def tIs (K : PySem.W.Frag) (C : Nat → Addr) (a : Addr) (cls : Value) (d : Option Addr) (j : Nat) : TE := tCB (rIsE2 K cls d a) (tCons (tVar 5) (tCons (tC (.ref (C j))) tNil))
def tPr (K : PySem.W.Frag) (C : Nat → Addr) (a : Addr) (cls : Value) (d : Option Addr) (x : Str) (j : Nat) : TE := tTup (tCons (tC (.str x)) (tCons (tIs K C a cls d j) tNil))
/-- what the pair of a word is -/
theorem pr_rd {K : PySem.W.Frag} {C : Nat → Addr} {tf rd a : Addr} {i j : Nat} {x : Str} {σ : L2.St} {H : Hp} {Q : VK} (T : KinOf K C tf rd i) (hj : j < 11) (e : σ[5]? = some (some (.ref a))) (q : ∀ t, H t = none → Q (.ref t) (upd H t (.tup [.str x, .bl (decide (i = j))]))) : tPr K C a (.ref (C i)) none x j σ H Q :=
  ⟨_, e, C i, .ref (C j), .ref (C j), _, rfl, rfl, T.ex, rfl, fun _ r => r, T.k j hj, (by show 2 ≤ sizeLine; decide), q⟩
/-- the words, each beside whether it is so -/
def tWords (K : PySem.W.Frag) (C : Nat → Addr) (a : Addr) (cls : Value) (d : Option Addr) (kin : TE) : TS :=
  tSeq (tAsg (tLst (tCons (tPr K C a cls d "NoCards" 0) (tCons (tPr K C a cls d "NoPurse" 1) tNil))) (gName 6))
  (tSeq (tAsg (tOp rCat (tVar 6) (tLst (tCons (tPr K C a cls d "NoStamps" 2) tNil))) (gName 6))
  (tSeq (tAsg (tOp rCat (tVar 6) (tLst (tCons (tPr K C a cls d "NoRow" 3) (tCons (tPr K C a cls d "NoNumber" 4) tNil)))) (gName 6))
  (tSeq (tAsg (tOp rCat (tVar 6) (tLst (tCons (tPr K C a cls d "NoPurses" 5) (tCons (tPr K C a cls d "NoSeen" 6) tNil)))) (gName 6))
  (tSeq (tAsg (tOp rCat (tVar 6) (tLst (tCons (tPr K C a cls d "NoRide" 7) (tCons (tPr K C a cls d "NoKind" 8) tNil)))) (gName 6))
  (tSeq (tAsg (tOp rCat (tVar 6) (tLst (tCons (tPr K C a cls d "NoLoan" 9) tNil))) (gName 6))
  (tSeq (tDrop (tBM K "list" rAppend (tVar 6) (tCons (tPr K C a cls d "NothingLeft" 10) tNil)))
  (tAsg kin (gName 4))))))))
def tLcH (cls : Value) (wi : TI) (g : TG) (tt : TT) (te : TE) (vs : List Nat) : TE := fun σ H Q => (∃ C, cls = .ref C) ∧ tLc wi g tt te vs σ H Q
theorem pe_lcH2 {X : Cx} {a : Addr} {oe : Obj} {cls : Value} {d : Option Addr} {pn : List (Addr × Obj)} {elt tg l : Expr} {ifs : List Expr} {scope : Scope} {own : List (Str × Nat)} {pos : Pos} {tl : TE} {g : TG} {tt : TT} {te : TE} (z : L2N.Zn cls d oe) (f : ∃ vs, oe.data = .fields vs) (stk : X.stack = X.env :: X.outer) (frame : X.env.frame = some X.env.locals) (nd : X.N.Nodup)
    (hl : PE (X.suite a ((a, oe) :: pn)) l tl) (ok : BlkOk X.N X.env.scope scope own) (hg : ∀ (s : Shared) (H : Hp) (C : Addr) (cl : List (Str × Addr)) (fp : List Addr), Warm ((X.suite a ((a, oe) :: pn)).blk s H scope (compEnvC scope cl C X.env) fp) → PG ((X.suite a ((a, oe) :: pn)).blk s H scope (compEnvC scope cl C X.env) fp) tg g)
    (ht : ∀ (s : Shared) (H : Hp) (C : Addr) (cl : List (Str × Addr)) (fp : List Addr), PTs ((X.suite a ((a, oe) :: pn)).blk s H scope (compEnvC scope cl C X.env) fp) ifs tt) (he : ∀ (s : Shared) (H : Hp) (C : Addr) (cl : List (Str × Addr)) (fp : List Addr), PE ((X.suite a ((a, oe) :: pn)).blk s H scope (compEnvC scope cl C X.env) fp) elt te)
    (fold : ∀ x, foldedSetIterable l X.env x = pure x := by intro _; rfl) : PE (X.suite a ((a, oe) :: pn)) (.ListComp elt [⟨tg, l, ifs, 0⟩] scope pos) (tLcH cls (iList X.K tl) g tt te (own.map (·.2))) := by
  refine ⟨fun pins s σ H Q I h => ?_⟩
  obtain ⟨⟨C, rfl⟩, h⟩ := h
  exact (pe_lcH (X := X.suite a ((a, oe) :: pn)) (warm_suite z f) stk frame nd hl ok hg ht he fold).run pins s σ H Q I h
def tKin (K : PySem.W.Frag) (a : Addr) (cls : Value) (d : Option Addr) : TE :=
  tOp rCat (tLcH cls (iList K (tVar 6)) (gTup K 2 (gCons (gName 7) (gCons (gName 8) gNil))) (tB (tVar 8)) (tVar 7) [7, 8]) (tLst (tCons (tCB (rIsE2 K cls d a) (tCons (tVar 5) (tCons (tC (.ty "ValueError")) tNil))) tNil))
end FR
namespace FR
open PySem PySem.Spec PyProof.Rows L2
/-- the words that are so, and whether it is a ValueError -/
theorem kin_rd {K : PySem.W.Frag} {C : Nat → Addr} {tf rd a w : Addr} {i : Nat} {s0 s1 s2 s3 s4 s7 s8 : Option V} {Hf : Hp} {words : List V} {D : Ends} (T : KinOf K C tf rd i) (ew : Hf w = some (.lst words)) (len : words.length = 11)
    (hall : ∀ (k : Nat) (x : V), words[k]? = some x → ∃ t, x = .ref t ∧ Hf t = some (.tup [.str (kinN k), .bl (decide (i = k))]))
    (q : ∀ p H'', Same Hf H'' → H'' p = some (.lst [.str (kinN i), .bl true]) → D.nx [s0, s1, s2, s3, some (.ref p), some (.ref a), some (.ref w), s7, s8] H'') :
    tAsg (tKin K a (.ref (C i)) none) (gName 4) D [s0, s1, s2, s3, s4, some (.ref a), some (.ref w), s7, s8] Hf := by
  have lt := T.lt
  refine ⟨⟨C i, rfl⟩, _, rfl, w, rfl, ⟨_, SqL.of ew⟩, fun L nL => ?_⟩
  refine lc_list (K := K) (a := w) (xs := words) (fun k H' => Same Hf H' ∧ H' L = some (.lst (if i < k then [.str (kinN i)] else []))) ?_ ?_ ?_ ?_
  · exact ⟨same_new (.refl Hf) nL, by rw [upd_same, if_neg (by omega)]⟩
  · rintro k H' hk ⟨sm, e⟩
    exact SqL.of (sm _ _ ew)
  · rintro k x H' hk ⟨sm, e⟩
    obtain ⟨t, rfl, et⟩ := hall k x hk
    refine ⟨t, _, rfl, SqT.of (sm _ _ et), rfl, _, _, rfl, _, _, rfl, rfl, rfl, _, rfl, _, rfl, ite2 (fun c => ?_) (fun c => ?_)⟩
    · have c' := of_decide_eq_true c
      subst c'
      rw [if_neg (by omega)] at e
      refine ⟨_, rfl, _, e, (by show 0 < sizeLine; decide), same_fresh sm nL, ?_⟩
      rw [upd_same, if_pos (by omega)]
      rfl
    · have c' : ¬ i = k := fun z => c (decide_eq_true z)
      refine ⟨sm, ?_⟩
      rw [e]
      by_cases z : i < k
      · rw [if_pos z, if_pos (by omega)]
      · rw [if_neg z, if_neg (by omega)]
  · rintro H' ⟨sm, e⟩
    rw [len, if_pos lt] at e
    refine ⟨_, rfl, C i, .ty "ValueError", .type "ValueError", true, rfl, rfl, T.ex, rfl, fun _ r => r, T.v, (by show 1 ≤ sizeLine; decide), fun v nv => ?_⟩
    have s1 := same_upd (o := .lst [.bl true]) nv
    refine ⟨L, v, _, _, rfl, rfl, s1 _ _ e, upd_same, (by show 2 ≤ sizeLine; decide), fun p np => ?_⟩
    exact q p _ (same_new (sm.trans s1) np) upd_same
end FR
namespace FR
open PySem PySem.Spec PyProof.Rows L2
/-- a def that may raise, called where it is known not to -/
theorem pe_defX0 {X : Cx} {k j : Nat} {ps : List Str} {sp : Sp} {x : Str} {p pos : Pos} {e : Expr} {es : List Expr} {t : TA} (D : DefX X.prog X.w X.K X.mg X.base x k ps sp) (hr : Room j X.A) (ha : PA X (e :: es) t) (hg : Gl X x := by rfl) (hl : k ≤ j := by decide)
    (hdb : (x == ("__debug__" : Str)) = false := by decide) (he : starEach (e :: es) X.env = (false, eval e X.env) :: starEach es X.env := by rfl) (hpl : (backTo pos (starEach es X.env)).any (·.1) = false := by rfl) :
    PE X (.Call (.Name x p) (e :: es) [] pos) (tCall sp [] E0 t) := by
  obtain ⟨f, fd, F, m, kp, b⟩ := D.ex
  refine pe_call F (hr.mono hl) hg m kp b .nil (fun _ _ _ _ _ _ _ h => ?_) ha hdb he hpl
  obtain ⟨_, _, _, _, _, _, _, _, _, _, _, _, z⟩ := h
  exact z.elim
theorem deeds_eqv {n : Nat} {xs : List V} (h : ∀ v ∈ xs, DeedV n v) : PyData.eqv (.list (xs.map dD)) (.list (xs.map dD)) = true := SeqAt.eqv_refl _ (by rw [PyData.canLay0]; exact (deeds_lay h).1)
theorem deeds_row {n : Nat} : ∀ {xs : List V}, (∀ v ∈ xs, DeedV n v) → (xs.map dD).all (deedD (n : Int)) = true
  | [], _ => rfl
  | v :: r, h => by
    have h1 := deeds_row (n := n) (xs := r) (fun x hx => h x (List.mem_cons_of_mem _ hx))
    rw [List.map_cons, List.all_cons, h1, Bool.and_true]
    rcases h v (List.mem_cons_self ..) with rfl | ⟨i, rfl, i0, i1⟩
    · show decide (V.str "ride" = V.str "ride") = true
      exact decide_eq_true rfl
    · show (decide (0 ≤ i) && decide (i ≤ (n : Int) - 1)) = true
      rw [decide_eq_true i0, decide_eq_true (by omega)]
      rfl
theorem rowD_of {n : Nat} {xs : List V} (h : ∀ v ∈ xs, DeedV n v) (l : xs.length ≤ 100) : rowD (n : Int) (.list (xs.map dD)) = true := by
  show (decide ((xs.map dD).length ≤ 100) && (xs.map dD).all (deedD (n : Int))) = true
  rw [List.length_map, decide_eq_true l, deeds_row h]
  rfl
theorem norow_shaped : SeqAt.shaped (.list [.str "NoRow", .bool true]) = true := by
  unfold SeqAt.shaped
  rw [PyData.canLay0, PyData.canLayAll0, PyData.canLayAll0, PyData.canLayAll0, PyData.depth, PyData.depthAll, PyData.depthAll, PyData.depthAll, PyData.canLay0, PyData.canLay0, PyData.depth, PyData.depth]
  decide +kernel
theorem norow_eqv : PyData.eqv (.list [.str "NoRow", .bool true]) (.list [.str "NoRow", .bool true]) = true := SeqAt.eqv_refl _ (by
  have := norow_shaped
  unfold SeqAt.shaped at this
  exact (Bool.and_eq_true_iff.mp this).1)
end FR
namespace FR
open PySem PySem.Spec PyProof.Rows L2
/-- a list is changed: tuples stay -/
theorem sqT_upd {K : PySem.W.Frag} {H : Hp} {a l : Addr} {xs ys : List V} {o : HO} (h : SqT K H a xs) (e : H l = some (.lst ys)) : SqT K (upd H l o) a xs := by
  rcases h with (h | ⟨ob, h⟩) | h
  · exact .inl (.inl (by rw [upd_ne (ne_of h e (fun z => nomatch z))]; exact h))
  · exact .inl (.inr ⟨ob, by rw [upd_ne (ne_of h e (fun z => nomatch z))]; exact h⟩)
  · exact .inr h
theorem PurseO.updL {K : PySem.W.Frag} {cs : List Int} {H : Hp} {l : Addr} {ys : List V} {o : HO} {v : V} (e : H l = some (.lst ys)) : ∀ {u : Option (Int × List Int)}, PurseO K cs H v u → PurseO K cs (upd H l o) v u
  | none, h => h
  | some (x, zs), ⟨p, e1, ⟨s, h1, h2⟩, l'⟩ => ⟨p, e1, ⟨s, sqT_upd h1 e, sqT_upd h2 e⟩, l'⟩
theorem deedsE_none {xs : List V} (h : xs = []) : PyData.eqv (.list (xs.map dD)) (.list []) = true := by
  have := deeds_none h
  rwa [Bool.not_eq_false'] at this
theorem deedsE_some {xs : List V} (h : xs ≠ []) : PyData.eqv (.list (xs.map dD)) (.list []) = false := by
  have := deeds_some h
  rwa [Bool.not_eq_true'] at this
theorem stepO_no {cs zs : List Int} {x : Int} {v : V} (hl : zs.length = cs.length) (h : DeedV cs.length v) (n : ¬ Can cs x zs v) : stepO cs (some (x, zs)) v = none := by
  show (if canB cs x zs v = true then _ else none) = none
  rw [if_neg (fun z => n ((can_iff hl h).mpr z))]
theorem stepO_yes {cs zs : List Int} {x : Int} {v : V} (hl : zs.length = cs.length) (h : DeedV cs.length v) (n : Can cs x zs v) : stepO cs (some (x, zs)) v = some (aftX x v, aftS cs zs v) := by
  show (if canB cs x zs v = true then _ else none) = _
  rw [if_pos ((can_iff hl h).mp n)]
end FR
namespace FR
open PySem PySem.Spec PyProof.Rows L2
/-- what is no row -/
theorem bads_all {K : PySem.W.Frag} {H : Hp} {n : Nat} {t1 t2 t3 t4 t5 t6 t8 t10 t11 : Addr} (e1 : H t1 = some (.tup [.str "ride"])) (e2 : H t2 = some (.lst [.str "Ride"])) (e3 : H t3 = some (.lst [.int (n : Int)])) (e4 : H t4 = some (.lst [.int (-1)])) (e5 : H t5 = some (.lst [.non])) (e6 : H t6 = some (.lst [.bl false]))
    (e8 : H t8 = some (.lst (List.replicate 101 [V.str "ride"]).flatten)) (e10 : H t10 = some (.tup [.str "ride"])) (e11 : H t11 = some (.lst [.ref t10])) : ∀ x ∈ ([.non, .ref t1, .ref t2, .ref t3, .ref t4, .ref t5, .ref t6, .ref t8, .str "ride", .ref t11] : List V), ∃ d, Dp K H x d ∧ rowD (n : Int) d = false := by
  intro x hx
  simp only [List.mem_cons, List.not_mem_nil, or_false] at hx
  rcases hx with rfl | rfl | rfl | rfl | rfl | rfl | rfl | rfl | rfl | rfl
  · exact ⟨_, .non, rfl⟩
  · exact ⟨_, .tup (SqT.of e1) (.cons (.str _) .nil), rfl⟩
  · refine ⟨_, .lst (SqL.of e2) (.cons (.str _) .nil), ?_⟩
    show (decide (1 ≤ 100) && (decide (V.str "Ride" = V.str "ride") && true)) = false
    decide +kernel
  · refine ⟨_, .lst (SqL.of e3) (.cons (.int _) .nil), ?_⟩
    show (decide (1 ≤ 100) && ((decide (0 ≤ (n : Int)) && decide ((n : Int) ≤ (n : Int) - 1)) && true)) = false
    rw [decide_eq_false (show ¬ (n : Int) ≤ (n : Int) - 1 by omega), Bool.and_false, Bool.false_and, Bool.and_false]
  · exact ⟨_, .lst (SqL.of e4) (.cons (.int _) .nil), rfl⟩
  · exact ⟨_, .lst (SqL.of e5) (.cons .non .nil), rfl⟩
  · exact ⟨_, .lst (SqL.of e6) (.cons (.bl _) .nil), rfl⟩
  · refine ⟨_, .lst (SqL.of e8) (deeds_dp (n := n) fun v hv => ?_), ?_⟩
    · obtain ⟨l, hl, hv'⟩ := List.mem_flatten.mp hv
      rw [List.eq_of_mem_replicate hl] at hv'
      exact .inl (List.mem_singleton.mp hv')
    · show (decide (((List.replicate 101 [V.str "ride"]).flatten.map dD).length ≤ 100) && ((List.replicate 101 [V.str "ride"]).flatten.map dD).all (deedD (n : Int))) = false
      rw [List.length_map, decide_eq_false (by decide +kernel), Bool.false_and]
  · exact ⟨_, .str _, rfl⟩
  · exact ⟨_, .lst (SqL.of e11) (.cons (.tup (SqT.of e10) (.cons (.str _) .nil)) .nil), rfl⟩
end FR
set_option maxHeartbeats 2000000
namespace FR
open PySem PySem.Spec PyProof.Rows L2
/-! ### the end: defs that raise, classes -/
theorem FunAt.defX {P : Program} {w : World} {K : PySem.W.Frag} {mg : Str → Option Value} {base : Heap} {x : Str} {st : Stmt} {k : Nat} {ps : List Str} {sp : Sp} (F : FunAt K mg x st) (ok : ∀ f fd, Fun K x x st f fd → FnOk P w K mg base (L2N.CX P w) k f fd ps sp)
    (h : ∀ (kV doc pm : Value) (an : Option Addr) (cdv ct : Value) (us : List Value), us.length = ps.length → bindArgs (PySem.W.fnOf x x (defArgs st) (defBody st) (defScope st) .none kV doc pm an cdv ct) ⟨us, []⟩ = pure (ps.zip us)) : DefX P w K mg base x k ps sp := by
  obtain ⟨f, fd, F, m⟩ := F
  exact ⟨f, fd, ok f fd F, m, F.kp, F.binds h⟩
theorem DefX.held {P : Program} {w : World} {K : PySem.W.Frag} {mg : Str → Option Value} {base : Heap} {x : Str} {k j : Nat} {ps : List Str} {sp : Sp} (D : DefX P w K mg base x k ps sp) (h : k ≤ j) : ∃ f, mg x = some (.ref f) ∧ HeldX P w K mg base j f sp := by
  obtain ⟨f, fd, F, m, kp, b⟩ := D.ex
  exact ⟨f, m, fd, ps, F.mono h, kp, b⟩
def ExcAtX {K : PySem.W.Frag} {h : Heap} (_ : K.In h) (mg : Str → Option Value) (x : Str) : Prop := ∃ C, ExcT K mg x C
theorem excT_mk {K : PySem.W.Frag} {h : Heap} {mg : Str → Option Value} {x : Str} {C : Addr} (X : K.In h) (G : h.Ns mainGlobals mg) (a1 : PySem.W.nsIn K mainGlobals x = some (some (.ref C))) (ex : PySem.W.excIn K C [.type "ValueError", .type "Exception", .type "BaseException", .type "object"] "ValueError.__new__" = true)
    (kp : PySem.W.keepIn K (.ref C) = true) (sb : PySem.W.subIn K (.ref C) (.type "BaseException") = some true) (ty : PySem.W.typeIn K (.ref C) = some (.type "type")) : ExcAtX X mg x := ⟨C, PySem.W.mg_of X G a1, ex, kp, sb, ty⟩
theorem sglob_mk {K : PySem.W.Frag} {h : Heap} {mg : Str → Option Value} {x n : Str} {v : Value} (X : K.In h) (G : h.Ns mainGlobals mg) (z : PySem.W.nsIn K mainGlobals x = some (some v)) (e : ∃ t, v = .str n t) : ∃ t, mg x = some (.str n t) := by
  obtain ⟨t, rfl⟩ := e
  exact ⟨t, PySem.W.mg_of X G z⟩
/-- an own class asked for by isinstance -/
theorem kit_ref {K : PySem.W.Frag} {C D : Addr} {b : Bool} (hd : PySem.W.hasDictIn K C = true) (ht : PySem.W.typeIn K (.ref C) = some (.type "type")) (h : PySem.W.subIn K (.ref D) (.ref C) = some b) (hs : PySem.W.subIn K (.ref D) (.ref D) = some true) : PySem.W.kitOne K (.ref D) (.ref C) = some b := by
  unfold PySem.W.kitOne
  by_cases q : (Value.ref D == Value.ref C) = true
  · have e : D = C := Value.ref.inj (beq_iff_eq.mp q)
    subst e
    rw [if_pos q]
    exact hs.symm.trans h
  · rw [if_neg q]
    obtain ⟨cd, hc, _⟩ := PySem.W.any_some hd
    show (if ((PySem.W.clsIn K C).isSome && PySem.W.typeIn K (.ref C) == some (.type "type")) = true then PySem.W.subIn K (.ref D) (.ref C) else none) = some b
    have e2 : ((PySem.W.clsIn K C).isSome && PySem.W.typeIn K (.ref C) == some (.type "type")) = true := by rw [hc, ht] <;> rfl
    rw [if_pos e2]
    exact h
def cOf (c0 c1 c2 c3 c4 c5 c6 c7 c8 c9 c10 : Addr) : Nat → Addr
  | 0 => c0 | 1 => c1 | 2 => c2 | 3 => c3 | 4 => c4 | 5 => c5 | 6 => c6 | 7 => c7 | 8 => c8 | 9 => c9 | _ => c10
theorem kin_mk {K : PySem.W.Frag} {h : Heap} {mg : Str → Option Value} {c0 c1 c2 c3 c4 c5 c6 c7 c8 c9 c10 tf rd : Addr} (X : K.In h) (G : h.Ns mainGlobals mg)
    (a0 : PySem.W.nsIn K mainGlobals "NoCards" = some (some (.ref c0)))
    (a1 : PySem.W.nsIn K mainGlobals "NoPurse" = some (some (.ref c1)))
    (a2 : PySem.W.nsIn K mainGlobals "NoStamps" = some (some (.ref c2)))
    (a3 : PySem.W.nsIn K mainGlobals "NoRow" = some (some (.ref c3)))
    (a4 : PySem.W.nsIn K mainGlobals "NoNumber" = some (some (.ref c4)))
    (a5 : PySem.W.nsIn K mainGlobals "NoPurses" = some (some (.ref c5)))
    (a6 : PySem.W.nsIn K mainGlobals "NoSeen" = some (some (.ref c6)))
    (a7 : PySem.W.nsIn K mainGlobals "NoRide" = some (some (.ref c7)))
    (a8 : PySem.W.nsIn K mainGlobals "NoKind" = some (some (.ref c8)))
    (a9 : PySem.W.nsIn K mainGlobals "NoLoan" = some (some (.ref c9)))
    (a10 : PySem.W.nsIn K mainGlobals "NothingLeft" = some (some (.ref c10)))
    (atf : PySem.W.nsIn K mainGlobals "TooFew" = some (some (.ref tf))) (ard : PySem.W.nsIn K mainGlobals "RideError" = some (some (.ref rd))) : Kin K mg (cOf c0 c1 c2 c3 c4 c5 c6 c7 c8 c9 c10) tf rd := by
  refine ⟨fun j hj => ?_, PySem.W.mg_of X G atf, PySem.W.mg_of X G ard⟩
  match j, hj with
  | 0, _ => exact PySem.W.mg_of X G a0
  | 1, _ => exact PySem.W.mg_of X G a1
  | 2, _ => exact PySem.W.mg_of X G a2
  | 3, _ => exact PySem.W.mg_of X G a3
  | 4, _ => exact PySem.W.mg_of X G a4
  | 5, _ => exact PySem.W.mg_of X G a5
  | 6, _ => exact PySem.W.mg_of X G a6
  | 7, _ => exact PySem.W.mg_of X G a7
  | 8, _ => exact PySem.W.mg_of X G a8
  | 9, _ => exact PySem.W.mg_of X G a9
  | 10, _ => exact PySem.W.mg_of X G a10
theorem kinOf_mk {K : PySem.W.Frag} {c0 c1 c2 c3 c4 c5 c6 c7 c8 c9 c10 tf rd ci : Addr} {i : Nat} (lt : i < 11) (hc : cOf c0 c1 c2 c3 c4 c5 c6 c7 c8 c9 c10 i = ci)
    (hg : PySem.W.findIn K (.ref ci) "__getattribute__" = some (some (.builtin "BaseException.__getattribute__"))) (hk : PySem.W.findIn K (.ref ci) "__getattr__" = some none) (hs : PySem.W.subIn K (.ref ci) (.type "BaseException") = some true) (hd : PySem.W.hasDictIn K ci = true)
    (ha : PySem.W.findIn K (.ref ci) "__class__" = some (some (.builtin "object.__class__"))) (hn : PySem.W.specialIn K (.builtin "object.__class__") "__get__" = some (some (.builtin "getset_descriptor.__get__"))) (ht : PySem.W.takesIn K (.builtin "object.__class__") = some true) (hm : PySem.W.mroIn K ci (.type "object") = some true)
    (me : PySem.W.subIn K (.ref ci) (.ref ci) = some true) (sv : PySem.W.subIn K (.ref ci) (.type "ValueError") = some true)
    (d0 : PySem.W.hasDictIn K c0 = true) (t0 : PySem.W.typeIn K (.ref c0) = some (.type "type")) (s0 : PySem.W.subIn K (.ref ci) (.ref c0) = some (decide (i = 0)))
    (d1 : PySem.W.hasDictIn K c1 = true) (t1 : PySem.W.typeIn K (.ref c1) = some (.type "type")) (s1 : PySem.W.subIn K (.ref ci) (.ref c1) = some (decide (i = 1)))
    (d2 : PySem.W.hasDictIn K c2 = true) (t2 : PySem.W.typeIn K (.ref c2) = some (.type "type")) (s2 : PySem.W.subIn K (.ref ci) (.ref c2) = some (decide (i = 2)))
    (d3 : PySem.W.hasDictIn K c3 = true) (t3 : PySem.W.typeIn K (.ref c3) = some (.type "type")) (s3 : PySem.W.subIn K (.ref ci) (.ref c3) = some (decide (i = 3)))
    (d4 : PySem.W.hasDictIn K c4 = true) (t4 : PySem.W.typeIn K (.ref c4) = some (.type "type")) (s4 : PySem.W.subIn K (.ref ci) (.ref c4) = some (decide (i = 4)))
    (d5 : PySem.W.hasDictIn K c5 = true) (t5 : PySem.W.typeIn K (.ref c5) = some (.type "type")) (s5 : PySem.W.subIn K (.ref ci) (.ref c5) = some (decide (i = 5)))
    (d6 : PySem.W.hasDictIn K c6 = true) (t6 : PySem.W.typeIn K (.ref c6) = some (.type "type")) (s6 : PySem.W.subIn K (.ref ci) (.ref c6) = some (decide (i = 6)))
    (d7 : PySem.W.hasDictIn K c7 = true) (t7 : PySem.W.typeIn K (.ref c7) = some (.type "type")) (s7 : PySem.W.subIn K (.ref ci) (.ref c7) = some (decide (i = 7)))
    (d8 : PySem.W.hasDictIn K c8 = true) (t8 : PySem.W.typeIn K (.ref c8) = some (.type "type")) (s8 : PySem.W.subIn K (.ref ci) (.ref c8) = some (decide (i = 8)))
    (d9 : PySem.W.hasDictIn K c9 = true) (t9 : PySem.W.typeIn K (.ref c9) = some (.type "type")) (s9 : PySem.W.subIn K (.ref ci) (.ref c9) = some (decide (i = 9)))
    (d10 : PySem.W.hasDictIn K c10 = true) (t10 : PySem.W.typeIn K (.ref c10) = some (.type "type")) (s10 : PySem.W.subIn K (.ref ci) (.ref c10) = some (decide (i = 10)))
    (dtf : PySem.W.hasDictIn K tf = true) (ttf : PySem.W.typeIn K (.ref tf) = some (.type "type")) (btf : PySem.W.subIn K (.ref tf) (.type "BaseException") = some true) (stf : PySem.W.subIn K (.ref ci) (.ref tf) = some false)
    (drd : PySem.W.hasDictIn K rd = true) (trd : PySem.W.typeIn K (.ref rd) = some (.type "type")) (brd : PySem.W.subIn K (.ref rd) (.type "BaseException") = some true) (srd : PySem.W.subIn K (.ref ci) (.ref rd) = some true) : KinOf K (cOf c0 c1 c2 c3 c4 c5 c6 c7 c8 c9 c10) tf rd i := by
  subst hc
  refine ⟨lt, ⟨hg, hk, hs, hd, ha, hn, ht, hm⟩, fun j hj => ?_, ?_, PySem.W.exm_ref btf dtf ttf stf, PySem.W.exm_ref brd drd trd srd⟩
  · match j, hj with
    | 0, _ => exact kit_ref d0 t0 s0 me
    | 1, _ => exact kit_ref d1 t1 s1 me
    | 2, _ => exact kit_ref d2 t2 s2 me
    | 3, _ => exact kit_ref d3 t3 s3 me
    | 4, _ => exact kit_ref d4 t4 s4 me
    | 5, _ => exact kit_ref d5 t5 s5 me
    | 6, _ => exact kit_ref d6 t6 s6 me
    | 7, _ => exact kit_ref d7 t7 s7 me
    | 8, _ => exact kit_ref d8 t8 s8 me
    | 9, _ => exact kit_ref d9 t9 s9 me
    | 10, _ => exact kit_ref d10 t10 s10 me
  · unfold PySem.W.kitOne
    rw [if_neg (by intro q; exact nomatch beq_iff_eq.mp q)]
    unfold PySem.W.kitCls
    dsimp only
    rw [if_pos (by decide +kernel)]
    exact sv
def KinL (K : PySem.W.Frag) (C : Nat → Addr) (tf rd : Addr) : List Nat → Prop
  | [] => True
  | i :: is => KinOf K C tf rd i ∧ KinL K C tf rd is
theorem kinL_nil {K : PySem.W.Frag} {C : Nat → Addr} {tf rd : Addr} : KinL K C tf rd [] := trivial
theorem kinL_cons {K : PySem.W.Frag} {C : Nat → Addr} {tf rd : Addr} {i : Nat} {is : List Nat} (h : KinOf K C tf rd i) (t : KinL K C tf rd is) : KinL K C tf rd (i :: is) := ⟨h, t⟩
def KinAtX {K : PySem.W.Frag} {h : Heap} (_ : K.In h) (mg : Str → Option Value) (is : List Nat) : Prop := ∃ C tf rd, Kin K mg C tf rd ∧ KinL K C tf rd is
theorem kinAt_mk {K : PySem.W.Frag} {h : Heap} {mg : Str → Option Value} {is : List Nat} {C : Nat → Addr} {tf rd : Addr} (X : K.In h) (a : Kin K mg C tf rd) (b : KinL K C tf rd is) : KinAtX X mg is := ⟨C, tf, rd, a, b⟩
end FR
set_option maxHeartbeats 2000000
namespace FR
open PySem PySem.Spec PyProof.Rows L2 LamX NdefX
/-! ### lambdas with parameters, which capture nothing -/
/-- at f stands a lambda: F tells its words, b its body -/
def LamO (f : Addr) (F : NF) (b : Expr) : HO := .ext fun h => ∃ (od : Option Addr) (sl : Array (Option Value)) (pm ctv : Value), h.get? f = some (⟨.type "function", od, .func (PySem.W.kla_fn "<lambda>" F.qual F.params b F.scope F.cl pm (.ref F.c) ctv), sl⟩ : Obj)
theorem lamO_ne {f : Addr} {F : NF} {b : Expr} (ps : Array Value) : LamO f F b ≠ .tbl ps := by
  intro z
  unfold LamO at z
  exact nomatch z
theorem lamO_get {P : Program} {w : World} {H : Hp} {h : Heap} {f : Addr} {F : NF} {b : Expr} (ok : HOk P w H h) (e : H f = some (LamO f F b)) : ∃ (od : Option Addr) (sl : Array (Option Value)) (pm ctv : Value), h.get? f = some (⟨.type "function", od, .func (PySem.W.kla_fn "<lambda>" F.qual F.params b F.scope F.cl pm (.ref F.c) ctv), sl⟩ : Obj) :=
  (ok f _ e).1
theorem inv_lamO {X : Cx} {pins : List (Addr × Obj)} {σ : L2.St} {H : Hp} {s : Shared} {F : NF} {b : Expr} {tk : Nat} {pm ctv : Value} (I : Inv X pins σ H s) :
    Inv X pins σ (upd H s.heap.objs.size (LamO s.heap.objs.size F b)) { s with heap := s.heap.push (PySem.W.kla_obj "<lambda>" F.qual F.params b F.scope F.cl pm F.c ctv), toks := tk } := by
  have at_ : (s.heap.push (PySem.W.kla_obj "<lambda>" F.qual F.params b F.scope F.cl pm F.c ctv)).get? s.heap.objs.size = some (PySem.W.kla_obj "<lambda>" F.qual F.params b F.scope F.cl pm F.c ctv) := Heap.get?_push_size _ rfl
  refine I.laid (a := s.heap.objs.size) (fun _ _ e => Heap.get?_push_of_some _ e) (Nat.le_refl _) ⟨⟨_, _, pm, ctv, at_⟩, ⟨_, at_⟩, ?_⟩
  rintro h1 h2 ⟨od, sl, p', t', z⟩ st
  exact ⟨od, sl, p', t', st _ z⟩
theorem clo_nil {cells : List (Str × Addr)} {names : List (Str × NameKind)} (nf : ∀ y ∈ names, y.2 ≠ .free) : cloFrom cells names [] = [] := by
  refine List.eq_nil_iff_forall_not_mem.mpr ?_
  rintro ⟨n, c⟩ hm
  rcases cloFrom_mem hm with z | ⟨z, _⟩
  · exact nomatch z
  · exact nf _ z rfl
/-- what a lambda's making leaves -/
theorem lam_lay {X : Cx} {pins : List (Addr × Obj)} {σ : L2.St} {H : Hp} {s : Shared} {T : List (Addr × Str)} {c P : Addr} {params : Arguments} {b : Expr} {scope : Scope} {pos : Pos} {E : Value → Shared → Prop} {Q : Value → Shared → Prop} (I : Inv X pins σ H s) (TB : TabB X.base X.mg c P) (code : X.env.code = .ref c)
    (mem : (P, X.env.qual ++ "<lambda>") ∈ T) (one : ∀ p ∈ T, p.1 = P → p.2 = X.env.qual ++ "<lambda>") (tabs : Tabs T H) (dflt : defaultsOf params X.env = ([], [])) (nf : ∀ y ∈ scope.names, y.2 ≠ .free)
    (go : ∀ (f c' : Addr) (H1 : Hp) (s' : Shared), Inv X pins σ H1 s' → ExtN H H1 → Tabs T H1 → H f = none → H1 f = some (LamO f ⟨"<lambda>", X.env.qual ++ "<lambda>", params, [], scope, [], c'⟩ b) → H1 c' = some (CodeO c' (X.env.qual ++ "<lambda>")) → Q (.ref f) s') :
    wpAny (model X.prog X.w) X.A (eval (.Lambda params b scope pos) X.env) Q E s := by
  obtain ⟨ps, eP, tri, among⟩ := tabs _ mem
  have hcl : closureFor scope X.env = pure [] := by
    have z := closure_ok (scope := scope) (env := X.env) (fun y hy e => absurd e (nf y hy))
    rw [clo_nil nf] at z
    exact z
  have getP : s.heap.get? P = some { cls := .none, data := .fields ps } := I.hok P _ eP
  have blt : s.heap.BuiltinsAt X.mg P := TB.bm.keeps I.bk
  refine PySem.W.kla_eval dflt ?_
  rcases hc : codeAmong pos ps.toList with _ | cv
  · refine PySem.W.kla_makeFunction (clos := []) (mg := X.mg) (c := c) (P := P) (ps := ps) hcl I.ok.glob (I.mod.glob.keeps I.bk) code (TB.code.keeps I.bk) getP tri hc TB.gP blt ?_
    intro c' ctv h' tk keep ge lt rec tab
    obtain ⟨c2, oc, vs, t, e2, hoc, hdat, hq⟩ := rec
    cases e2
    have nC : H c' = none := I.hok.fresh ge
    have I1 := inv_table (t' := tk) (more := #[rawInt pos.line, rawInt pos.col, .ref c']) (h' := h') I eP (fun d o n e => keep d o n e) tab ge ⟨oc, vs, t, hoc, hdat, hq⟩
    have ext : ExtN H (upd (upd H P (.tbl (ps ++ #[rawInt pos.line, rawInt pos.col, .ref c']))) c' (CodeO c' (X.env.qual ++ "<lambda>"))) := by
      intro d o e n
      have d1 : d ≠ c' := ne_of_none e nC
      have d2 : d ≠ P := by
        rintro rfl
        rw [eP] at e
        exact n ps (Option.some.inj e).symm
      rw [upd_ne d1, upd_ne d2]
      exact e
    have toL : (ps ++ #[rawInt pos.line, rawInt pos.col, .ref c']).toList = ps.toList ++ [rawInt pos.line, rawInt pos.col, .ref c'] := by simp
    have tabs1 : Tabs T (upd (upd H P (.tbl (ps ++ #[rawInt pos.line, rawInt pos.col, .ref c']))) c' (CodeO c' (X.env.qual ++ "<lambda>"))) := by
      intro p hp
      by_cases q : p.1 = P
      · rw [one p hp q, q]
        refine ⟨_, (upd_ne (ne_of_none eP nC)).trans upd_same, toL ▸ PySem.TriplesOk_snoc _ _ _ _ tri, ?_⟩
        intro p' cv hcv
        rw [toL] at hcv
        rcases among_app _ tri hcv with z | z
        · obtain ⟨c0, e1, e2⟩ := among p' cv z
          exact ⟨c0, e1, ext _ _ e2 codeO_ne⟩
        · exact ⟨c', z, upd_same⟩
      · obtain ⟨ps', a1, a2, a3⟩ := tabs p hp
        refine ⟨ps', (upd_ne (ne_of_none a1 nC)).trans ((upd_ne q).trans a1), a2, ?_⟩
        intro p' cv hcv
        obtain ⟨c0, e1, e2⟩ := a3 p' cv hcv
        exact ⟨c0, e1, ext _ _ e2 codeO_ne⟩
    have nF := I1.hok.fresh (Nat.le_refl _)
    have I2 := inv_lamO (F := ⟨"<lambda>", X.env.qual ++ "<lambda>", params, [], scope, [], c'⟩) (b := b) (tk := tk) (pm := (X.mg "__name__").getD .none) (ctv := ctv) I1
    refine go h'.objs.size c' _ _ I2 ?_ (tabs1.ext ?_) (I.hok.fresh (Nat.le_trans ge (Nat.le_of_lt lt))) upd_same ((upd_ne (Nat.ne_of_lt lt)).trans upd_same)
    · intro d o e n
      have e1 := ext d o e n
      exact (upd_ne (ne_of_none e1 nF)).trans e1
    · intro d o e
      exact (upd_ne (ne_of_none e nF)).trans e
  · obtain ⟨c', rfl, hco⟩ := among pos cv hc
    refine PySem.W.kla_makeFunctionHit (clos := []) (mg := X.mg) (c := c) (P := P) (ps := ps) hcl I.ok.glob (I.mod.glob.keeps I.bk) code (TB.code.keeps I.bk) getP tri hc blt ?_
    intro ctv h' tk keep ge
    have I1 : Inv X pins σ H { s with heap := h', toks := tk } := I.kept keep
    have nF : H h'.objs.size = none := I1.hok.fresh (Nat.le_refl _)
    have I2 := inv_lamO (F := ⟨"<lambda>", X.env.qual ++ "<lambda>", params, [], scope, [], c'⟩) (b := b) (tk := tk) (pm := (X.mg "__name__").getD .none) (ctv := ctv) I1
    have ext : ∀ d o, H d = some o → upd H h'.objs.size (LamO h'.objs.size ⟨"<lambda>", X.env.qual ++ "<lambda>", params, [], scope, [], c'⟩ b) d = some o := fun d o e => (upd_ne (ne_of_none e nF)).trans e
    exact go h'.objs.size c' _ _ I2 (fun d o e _ => ext d o e) (tabs.ext ext) nF upd_same (ext _ _ hco)
/-- the reading of a lambda -/
def tLamV (T : List (Addr × Str)) (mk : Addr → NF) (b : Expr) : TE := fun _ H Q => Tabs T H ∧ ∀ (f c' : Addr) (H1 : Hp), ExtN H H1 → Tabs T H1 → H f = none → H1 f = some (LamO f (mk c') b) → H1 c' = some (CodeO c' (mk c').qual) → Q (.ref f) H1
theorem pe_lamV {X : Cx} {T : List (Addr × Str)} {c P : Addr} {params : Arguments} {b : Expr} {scope : Scope} {pos : Pos} (TB : TabB X.base X.mg c P) (code : X.env.code = .ref c) (mem : (P, X.env.qual ++ "<lambda>") ∈ T) (one : ∀ p ∈ T, p.1 = P → p.2 = X.env.qual ++ "<lambda>")
    (dflt : defaultsOf params X.env = ([], [])) (nf : ∀ y ∈ scope.names, y.2 ≠ .free) : PE X (.Lambda params b scope pos) (tLamV T (fun c' => ⟨"<lambda>", X.env.qual ++ "<lambda>", params, [], scope, [], c'⟩) b) := by
  refine ⟨fun pins s σ H Q I h => ?_⟩
  obtain ⟨tabs, h⟩ := h
  exact lam_lay I TB code mem one tabs dflt nf fun f c' H1 s' I1 ext t1 n0 e1 e2 => ⟨.ref f, H1, I1, rfl, h f c' H1 ext t1 n0 e1 e2⟩
/-- a lambda's promise -/
structure LOk (P : Program) (w : World) (K : PySem.W.Frag) (mg : Str → Option Value) (base : Heap) (k : Nat) (f : Addr) (F : NF) (b : Expr) (sp : Sp) : Prop where
  run : ∀ (A : Around) (outer : List Env) (s : Shared) (H : Hp) (us : List Value) (vs : List V) (Q : VK) (E : XK), Room k A → Env0 P w K mg base A outer s H → H f = some (LamO f F b) → H F.c = some (CodeO F.c F.qual) → Vals vs us → sp vs H Q E →
    codeAny (model P w) A (.call (.ref f) ⟨us, []⟩) (CR (L2N.CX P w) outer P w H s Q E) s
theorem LOk.mono {P : Program} {w : World} {K : PySem.W.Frag} {mg : Str → Option Value} {base : Heap} {j k : Nat} {f : Addr} {F : NF} {b : Expr} {sp : Sp} (o : LOk P w K mg base j f F b sp) (h : j ≤ k) : LOk P w K mg base k f F b sp :=
  ⟨fun A outer s H us vs Q E hr => o.run A outer s H us vs Q E (hr.mono h)⟩
theorem lok_of {P : Program} {w : World} {K : PySem.W.Frag} {mg : Str → Option Value} {base : Heap} {k : Nat} {f : Addr} {F : NF} {b : Expr} {N ps : List Str} {sp : Sp} (S : NScope N ps [] F.scope) (cl : F.cl = [])
    (bind : ∀ (pm ctv : Value) (us : List Value), us.length = ps.length → bindArgs (PySem.W.kla_fn "<lambda>" F.qual F.params b F.scope F.cl pm (.ref F.c) ctv) ⟨us, []⟩ = pure (ps.zip us)) (len : ∀ vs H Q E, sp vs H Q E → vs.length = ps.length)
    (body : ∀ (A : Around) (outer : List Env) (s : Shared) (H : Hp) (vs : List V) (Q : VK) (E : XK), Room k (A.deeper (envF F f s.heap.objs.size)) → sp vs H Q E → ∃ t, PE (ncx (L2N.CX P w) P w K mg base N F f A outer s H E) b t ∧ t (startF N vs []) H Q) : LOk P w K mg base (k + 1) f F b sp := by
  refine ⟨fun A outer s H us vs Q E hr e0 ef ec r wish => ?_⟩
  have hl := len _ _ _ _ wish
  have lim : s.heap.NoLimit := e0.mod.nolimit.keeps fun d o e => (e0.bs d o e).1
  have cells : CellsAt F.cl [] [] s.heap H := by
    rw [cl]
    exact ⟨rfl, fun y c e => (nomatch e), fun x y c e => (nomatch e), fun i y e => (nomatch e)⟩
  obtain ⟨od, sl, pm, ctv, ho⟩ := lamO_get e0.hok ef
  refine PySem.W.kla_callFunE hr.depth ho rfl S.co S.gen rfl (codeO_at e0.hok ec) ?_
  rw [bind pm ctv us (by rw [← r.length]; exact hl)]
  refine wpAny_pure (wpAny_newFunctionEnv S.nocell (fun y hy => S.par y.1 (List.of_mem_zip (show (y.1, y.2) ∈ ps.zip us from hy)).1) (fun h1 ns sb => ⟨lim.fresh _ sb, ?_⟩) S.kind)
  have keep : ∀ d o, s.heap.get? d = some o → h1.get? d = some o := fun d o e => sb.extBut d o (Nat.ne_of_lt (Heap.lt_size e)) (Heap.get?_push_of_some _ e)
  obtain ⟨t, pe, wish'⟩ := body A outer s H vs Q E (hr.deeper _) wish
  have I : Inv (ncx (L2N.CX P w) P w K mg base N F f A outer s H E) [] (startF N vs []) H { s with heap := h1, toks := s.toks + (ps.zip us).length } := inv_startN S hr.hd e0 hl r cells ns keep
  show codeAny _ _ (.expr b (envF F f s.heap.objs.size)) _ _
  refine PySem.W.kla_codeExpr (wpAny_mono (pe.run [] _ _ H Q I wish') ?_ fun e s' hs => hs)
  rintro v s' ⟨v', H', J, rv, q⟩
  exact ⟨v', H', J.os, J.bare, J.base, J.hok, rv, q⟩
/-- what may be called: a def of the program's, or a lambda that stands in H -/
def HeldH (P : Program) (w : World) (K : PySem.W.Frag) (mg : Str → Option Value) (base : Heap) (k : Nat) (f : Addr) (sp : Sp) (H : Hp) : Prop :=
  HeldX P w K mg base k f sp ∨ ∃ F b, LOk P w K mg base k f F b sp ∧ H f = some (LamO f F b) ∧ H F.c = some (CodeO F.c F.qual)
theorem HeldH.same {P : Program} {w : World} {K : PySem.W.Frag} {mg : Str → Option Value} {base : Heap} {k : Nat} {f : Addr} {sp : Sp} {H H' : Hp} (h : HeldH P w K mg base k f sp H) (s : Same H H') : HeldH P w K mg base k f sp H' := by
  rcases h with h | ⟨F, b, o, e1, e2⟩
  · exact .inl h
  · exact .inr ⟨F, b, o, s _ _ e1, s _ _ e2⟩
def tCallH (i : Nat) (P : Program) (w : World) (K : PySem.W.Frag) (mg : Str → Option Value) (base : Heap) (k : Nat) (W : WX) (t : TA) : TE := fun σ H Q => ∃ f sp, σ[i]? = some (some (.ref f)) ∧ ((HeldX P w K mg base k f sp ∧ t σ H fun vs H1 => sp vs H1 Q (fun cls d H' => W cls d σ H')) ∨
  ∃ F b, LOk P w K mg base k f F b sp ∧ H f = some (LamO f F b) ∧ t σ H fun vs H1 => H1 f = some (LamO f F b) ∧ H1 F.c = some (CodeO F.c F.qual) ∧ sp vs H1 Q (fun cls d H' => W cls d σ H'))
theorem pe_callH {X : Cx} {k i : Nat} {x : Str} {p pos : Pos} {e : Expr} {es : List Expr} {t : TA} {W : WX} (hr : Room k X.A) (slot : X.N[i]? = some x) (vis : Vis X.env.scope x) (tk : L2N.Takes X W) (ha : PA X (e :: es) t)
    (hdb : (x == ("__debug__" : Str)) = false := by decide) (hcd : (x == ("__classdict__" : Str)) = false := by decide) (he : starEach (e :: es) X.env = (false, eval e X.env) :: starEach es X.env := by rfl) (hpl : (backTo pos (starEach es X.env)).any (·.1) = false := by rfl) :
    PE X (.Call (.Name x p) (e :: es) [] pos) (tCallH i X.prog X.w X.K X.mg X.base k W t) := by
  refine ⟨fun pins s σ H Q I h => ?_⟩
  obtain ⟨f, sp, at_, h⟩ := h
  rcases h with ⟨hx, wish⟩ | ⟨F, b, lk, ef, wish⟩
  · exact (pe_callV (k := k) (i := i) hr slot vis tk ha hdb hcd he hpl).run pins s σ H Q I ⟨f, sp, at_, hx, wish⟩
  · refine wpAny_Call_Name_kw (thn ((pe_var (pos := p) slot vis hdb hcd).run pins s σ H (fun v H1 => v = .ref f ∧ H = H1) I ⟨.ref f, at_, rfl, rfl⟩) fun u s1 got => ?_)
    obtain ⟨v, H1, I1, rel, rfl, rfl⟩ := got
    cases rel
    have fa : ∀ {pins : List (Addr × Obj)} {σ : L2.St} {H : Hp} {s : Shared}, Inv X pins σ H s → H f = some (LamO f F b) → PySem.W.FnAt f s.heap := by
      intro pins σ H s J e
      obtain ⟨od, sl, pm, ctv, ho⟩ := lamO_get J.hok e
      exact ⟨_, od, _, sl, ho⟩
    refine PySem.W.callWith_F (first := []) (fa I1 ef) (thn (ha.run pos pins s1 σ _ _ I1 wish) fun us s2 got => ?_) he hpl
    obtain ⟨vs, H2, I2, r, e1, e2, q⟩ := got
    refine ⟨fa I2 e1, ?_⟩
    show wpAny _ _ (call (.ref f) us) _ _ _
    refine wpAny_call (codeAny_mono (lk.run X.A X.stack s2 H2 us vs Q (fun cls d H' => W cls d σ H') hr I2.env0 e1 e2 r q) ?_)
    intro r s' hq
    match r, hq with
    | .error e, hq => exact L2N.passAt tk σ pins H2 s2 e s' I2 hq
    | .ok (.ret u), hq => exact I2.after hq
    | .ok .next, hq => exact hq.elim
    | .ok .brk, hq => exact hq.elim
    | .ok .cont, hq => exact hq.elim
end FR
namespace FR
open PySem PySem.Spec PyProof.Rows L2 LamX NdefX
theorem held3 {P : Program} {w : World} {K : PySem.W.Frag} {mg : Str → Option Value} {base : Heap} {k : Nat} {f : Addr} {sp : Sp} {σ : L2.St} {H : Hp} {Q : VK} {W : WX} {x y z : V} (h : HeldH P w K mg base k f sp H) (e1 : σ[1]? = some (some x)) (e2 : σ[2]? = some (some y)) (e3 : σ[3]? = some (some z)) (q : sp [x, y, z] H Q (fun cls d H' => W cls d σ H')) :
    (HeldX P w K mg base k f sp ∧ tCons (tVar 1) (tCons (tVar 2) (tCons (tVar 3) tNil)) σ H fun vs H1 => sp vs H1 Q (fun cls d H' => W cls d σ H')) ∨
      ∃ F b, LOk P w K mg base k f F b sp ∧ H f = some (LamO f F b) ∧ tCons (tVar 1) (tCons (tVar 2) (tCons (tVar 3) tNil)) σ H fun vs H1 => H1 f = some (LamO f F b) ∧ H1 F.c = some (CodeO F.c F.qual) ∧ sp vs H1 Q (fun cls d H' => W cls d σ H') := by
  rcases h with h | ⟨F, b, lk, a1, a2⟩
  · exact .inl ⟨h, x, e1, y, e2, z, e3, q⟩
  · exact .inr ⟨F, b, lk, a1, x, e1, y, e2, z, e3, a1, a2, q⟩
end FR
set_option maxHeartbeats 2000000
namespace FR
open PySem PySem.Spec PyProof.Rows L2 LamX
theorem call_repr_bl {X : Cx} : CallR X (.builtin "repr") (fun xs H Q => ∃ b : Bool, xs = [.bl b] ∧ Q (.str (if b then "True" else "False")) H) := by
  intro pins s σ H xs us Q I r h
  obtain ⟨b, rfl, q⟩ := h
  obtain ⟨u, rfl, rx⟩ := vals1 r
  cases rx
  exact PySem.P.repr_of_bool ⟨.str _, H, I.tok _, ⟨_, rfl⟩, q⟩
/-- a def whose code object is told -/
theorem okC {P : Program} {w : World} {K : PySem.W.Frag} {mg : Str → Option Value} {base : Heap} {x qual : Str} {st : Stmt} {f : Addr} {fd : FuncData} {N ps : List Str} {k : Nat} {sp : Sp} (F : Fun K x qual st f fd) (S : FnScope N ps (defScope st)) (len : ∀ vs H Q E, sp vs H Q E → vs.length = ps.length)
    (body : ∀ (A : Around) (outer : List Env) (s : Shared) (H : Hp) (vs : List V) (Q : VK) (E : XK), Room k (A.deeper (envOfC qual (defScope st) s.heap.objs.size f fd.code)) → sp vs H Q E →
      ∃ t, PSs (cxOf CX0 P w K mg base N qual (defScope st) f fd.code A outer s H E).nox (defBody st) t ∧ t { nx := fun _ H' => Q .non H', rt := Q } (L2.start N vs) H) : FnOk P w K mg base CX0 (k + 1) f fd ps sp := by
  obtain ⟨oc, od, kV, doc, pm, an, cdv, ct, osl, rfl, lk, hcd⟩ := F.ex
  refine fn_of lk hcd S len fun A outer s H vs Q E room wish => ?_
  obtain ⟨t, pt, q⟩ := body A outer s H vs Q E room wish
  exact ⟨t, pt.nox, q⟩
/-! ### data of bounded width and depth -/
def Sz (m : Nat) : Nat → PyData → Prop
  | 0, .list _ => False
  | 0, .tuple _ => False
  | n + 1, .list ds => ds.length ≤ m ∧ ∀ d ∈ ds, Sz m n d
  | n + 1, .tuple ds => ds.length ≤ m ∧ ∀ d ∈ ds, Sz m n d
  | _, _ => True
theorem Sz.mono {m m' : Nat} (hm : m ≤ m') : ∀ {n n' : Nat} {d : PyData}, n ≤ n' → Sz m n d → Sz m' n' d
  | 0, n', d, hn, h => by
    cases d <;> first | exact h.elim | (cases n' <;> exact True.intro)
  | n + 1, 0, d, hn, h => by omega
  | n + 1, n' + 1, d, hn, h => by
    cases d with
    | list ds => exact ⟨Nat.le_trans h.1 hm, fun e he => Sz.mono hm (by omega) (h.2 e he)⟩
    | tuple ds => exact ⟨Nat.le_trans h.1 hm, fun e he => Sz.mono hm (by omega) (h.2 e he)⟩
    | _ => exact True.intro
def AllD (K : PySem.W.Frag) (H : Hp) (m n : Nat) (xs : List V) : Prop := ∀ x ∈ xs, ∃ d, Dp K H x d ∧ Sz m n d
section
variable {K : PySem.W.Frag} {H H' : Hp} {m m' n n' : Nat} {xs ys : List V} {x : V} {d : PyData}
theorem AllD.same (h : AllD K H m n xs) (s : Same H H') : AllD K H' m n xs := by
  intro x hx
  obtain ⟨d, h1, h2⟩ := h x hx
  exact ⟨d, Same.dp s h1, h2⟩
theorem AllD.mono (h : AllD K H m n xs) (hm : m ≤ m') (hn : n ≤ n') : AllD K H m' n' xs := by
  intro x hx
  obtain ⟨d, h1, h2⟩ := h x hx
  exact ⟨d, h1, h2.mono hm hn⟩
theorem AllD.nil : AllD K H m n [] := fun x hx => nomatch hx
theorem AllD.cons (h : Dp K H x d) (z : Sz m n d) (t : AllD K H m n xs) : AllD K H m n (x :: xs) := by
  intro y hy
  rcases List.mem_cons.mp hy with rfl | g
  · exact ⟨d, h, z⟩
  · exact t y g
theorem AllD.app (h : AllD K H m n xs) (t : AllD K H m n ys) : AllD K H m n (xs ++ ys) := by
  intro y hy
  rcases List.mem_append.mp hy with g | g
  · exact h y g
  · exact t y g
theorem AllD.sub (h : AllD K H m n xs) (s : ∀ y ∈ ys, y ∈ xs) : AllD K H m n ys := fun y hy => h y (s y hy)
theorem cut_mem {lo hi : Option Int} : ∀ y ∈ cutV xs lo hi, y ∈ xs := fun _ hy => List.mem_of_mem_drop (List.mem_of_mem_take hy)
theorem AllD.of {ds : List PyData} (h : DpAll K H xs ds) (z : ∀ d ∈ ds, Sz m n d) : AllD K H m n xs := by
  intro x hx
  obtain ⟨i, hi, e⟩ := List.getElem_of_mem hx
  obtain ⟨d, hd, hp⟩ := dp_get h (by rw [List.getElem?_eq_getElem hi, e])
  exact ⟨d, hp, z d (List.mem_of_getElem? hd)⟩
theorem AllD.all : ∀ {xs : List V}, AllD K H m n xs → ∃ ds, DpAll K H xs ds ∧ ds.length = xs.length ∧ ∀ d ∈ ds, Sz m n d
  | [], _ => ⟨[], .nil, rfl, fun d hd => nomatch hd⟩
  | x :: xs, h => by
    obtain ⟨d, h1, h2⟩ := h x (List.mem_cons_self ..)
    obtain ⟨ds, g1, g2, g3⟩ := AllD.all (xs := xs) (fun y hy => h y (List.mem_cons_of_mem _ hy))
    refine ⟨d :: ds, .cons h1 g1, congrArg (· + 1) g2, fun e he => ?_⟩
    rcases List.mem_cons.mp he with rfl | g
    · exact h2
    · exact g3 e g
theorem AllD.lst {a : Addr} (h : AllD K H m n xs) (l : xs.length ≤ m) (e : H a = some (.lst xs)) : ∃ d, Dp K H (.ref a) d ∧ Sz m (n + 1) d := by
  obtain ⟨ds, g1, g2, g3⟩ := h.all
  exact ⟨.list ds, .lst (SqL.of e) g1, by rw [g2]; exact l, g3⟩
theorem AllD.tup {a : Addr} (h : AllD K H m n xs) (l : xs.length ≤ m) (e : SqT K H a xs) : ∃ d, Dp K H (.ref a) d ∧ Sz m (n + 1) d := by
  obtain ⟨ds, g1, g2, g3⟩ := h.all
  exact ⟨.tuple ds, .tup e g1, by rw [g2]; exact l, g3⟩
end
/-! ### all but the tables of code objects is kept -/
theorem ext_same {H H' : Hp} (s : Same H H') : ExtN H H' := fun b o e _ => s b o e
theorem ntbl_lst {xs : List V} (ps : Array Value) : HO.lst xs ≠ .tbl ps := fun z => nomatch z
theorem ntbl_tup {xs : List V} (ps : Array Value) : HO.tup xs ≠ .tbl ps := fun z => nomatch z
theorem ntbl_frz {o : Obj} {u : HO} (ps : Array Value) : HO.frz o u ≠ .tbl ps := fun z => nomatch z
theorem ext_seqT {K : PySem.W.Frag} {H H' : Hp} {a : Addr} {xs : List V} (e : ExtN H H') (h : SqT K H a xs) : SqT K H' a xs := by
  rcases h with (h | ⟨o, h⟩) | h
  · exact .inl (.inl (e _ _ h ntbl_tup))
  · exact .inl (.inr ⟨o, e _ _ h ntbl_frz⟩)
  · exact .inr h
theorem ext_seqL {K : PySem.W.Frag} {H H' : Hp} {a : Addr} {xs : List V} (e : ExtN H H') (h : SqL K H a xs) : SqL K H' a xs := by
  rcases h with (h | ⟨o, h⟩) | h
  · exact .inl (.inl (e _ _ h ntbl_lst))
  · exact .inl (.inr ⟨o, e _ _ h ntbl_frz⟩)
  · exact .inr h
mutual
theorem ext_dp {K : PySem.W.Frag} {H H' : Hp} (e : ExtN H H') : ∀ {x : V} {d : PyData}, Dp K H x d → Dp K H' x d
  | _, _, .non => .non
  | _, _, .bl b => .bl b
  | _, _, .int b => .int b
  | _, _, .str b => .str b
  | _, _, .lst s t => .lst (ext_seqL e s) (ext_dpa e t)
  | _, _, .tup s t => .tup (ext_seqT e s) (ext_dpa e t)
theorem ext_dpa {K : PySem.W.Frag} {H H' : Hp} (e : ExtN H H') : ∀ {x : List V} {d : List PyData}, DpAll K H x d → DpAll K H' x d
  | _, _, .nil => .nil
  | _, _, .cons h t => .cons (ext_dp e h) (ext_dpa e t)
end
theorem ext_purse {K : PySem.W.Frag} {H H' : Hp} {p : Addr} {r : Int} {ss : List Int} (e : ExtN H H') (h : Purse K H p r ss) : Purse K H' p r ss := by
  obtain ⟨sA, h1, h2⟩ := h
  exact ⟨sA, ext_seqT e h1, ext_seqT e h2⟩
/-- all but the bags' places and the tables -/
structure Kq (H H' : Hp) : Prop where
  keep : ∀ a o, H a = some o → ¬ BagSh o → (∀ ps, o ≠ .tbl ps) → H' a = some o
  bag : ∀ a d c, H a = some (.lst [.ref d, .int c]) → ∃ c', H' a = some (.lst [.ref d, .int c'])
theorem Kq.of {H H' : Hp} (k : Kp H H') : Kq H H' := ⟨fun a o e n _ => k.keep a o e n, k.bag⟩
theorem Kq.ext {H H' : Hp} (k : ExtN H H') : Kq H H' := ⟨fun a o e _ n => k a o e n, fun a d c e => ⟨c, k _ _ e ntbl_lst⟩⟩
theorem Kq.trans {H H1 H2 : Hp} (x : Kq H H1) (y : Kq H1 H2) : Kq H H2 := by
  refine ⟨fun a o e n t => y.keep a o (x.keep a o e n t) n t, fun a d c e => ?_⟩
  obtain ⟨c1, e1⟩ := x.bag a d c e
  exact y.bag a d c1 e1
theorem Kq.bags {H H' : Hp} {b : Addr} (x : Kq H H') (h : Bag H b) : Bag H' b := by
  obtain ⟨d, c, ds, h1, h2, h3⟩ := h
  obtain ⟨c', e⟩ := x.bag b d c h1
  exact ⟨d, c', ds, e, x.keep _ _ h2 nint ntbl_lst, h3⟩
theorem Kp.tabs {T : List (Addr × Str)} {H H' : Hp} (k : Kp H H') (t : Tabs T H) : Tabs T H' := by
  intro p hp
  obtain ⟨ps, h1, h2, h3⟩ := t p hp
  refine ⟨ps, k.keep _ _ h1 (fun ⟨_, _, z⟩ => nomatch z), h2, fun pos cv hc => ?_⟩
  obtain ⟨c, e1, e2⟩ := h3 pos cv hc
  exact ⟨c, e1, k.keep _ _ e2 (fun ⟨_, _, z⟩ => by unfold CodeO at z; exact nomatch z)⟩
theorem same_tabs {T : List (Addr × Str)} {H H' : Hp} (s : Same H H') (t : Tabs T H) : Tabs T H' := t.ext s
/-- a list display's or a slice's ints -/
theorem rd_slI {K : PySem.W.Frag} {H : Hp} {Q : VK} {a : Addr} {ns : List Int} {k : Int} (h0 : 0 ≤ k) (h : SqL K H a (ns.map V.int)) (q : ∀ p, H p = none → Q (.ref p) (upd H p (.lst ((ns.drop k.toNat).map V.int)))) : rSlL K (.ref a) (some k) none H Q := by
  refine ⟨a, _, rfl, h, fun p np => ?_⟩
  rw [cut_from h0]
  exact q p np
end FR
namespace FR
open PySem PySem.Spec PyProof.Rows L2
def oddL (t1 t2 t3 t4 t5 t6 t7 t8 t9 t11 t13 t15 t16 : Addr) : List V := (([.non, .bl true, .bl false, .int (-1), .int 0, .int 1, .int 2, .int 20, .int 21, .int (10 ^ (Int.toNat 18)), .int (10 ^ (Int.toNat 18) + 1), .int (10 ^ (Int.toNat 30)), .str "", .str "ride", .str "a"] : List V) ++ [.ref t1, .ref t2, .ref t3, .ref t4, .ref t5, .ref t6, .ref t7]) ++ [.ref t8, .ref t9, .ref t11, .ref t13, .ref t15, .ref t16, .str "rides"]
theorem odd_all {K : PySem.W.Frag} {H : Hp} {t1 t2 t3 t4 t5 t6 t7 t8 t9 t10 t11 t12 t13 t14 t15 t16 : Addr} (e1 : H t1 = some (.tup [])) (e2 : H t2 = some (.lst [])) (e3 : H t3 = some (.tup [.int 0])) (e4 : H t4 = some (.tup [.int 2])) (e5 : H t5 = some (.lst [.int 2])) (e6 : H t6 = some (.tup [.int 2, .int 2])) (e7 : H t7 = some (.tup [.int 1, .int 2])) (e8 : H t8 = some (.tup [.int 21])) (e9 : H t9 = some (.tup [.int 2, .int 3, .int 4, .int 5]))
    (e10 : H t10 = some (.tup [.int 0])) (e11 : H t11 = some (.tup [.int 0, .ref t10])) (e12 : H t12 = some (.tup [])) (e13 : H t13 = some (.tup [.int 0, .ref t12])) (e14 : H t14 = some (.tup [.int 0])) (e15 : H t15 = some (.lst [.int 0, .ref t14])) (e16 : H t16 = some (.tup [.non])) : AllD K H 4 2 (oddL t1 t2 t3 t4 t5 t6 t7 t8 t9 t11 t13 t15 t16) := by
  have iz : ∀ {n : Nat} {i : Int}, Sz 4 n (.int i) := fun {n i} => by cases n <;> exact True.intro
  have A0 : ∀ {ns : List Int}, AllD K H 4 0 (ns.map V.int) := fun {ns} => .of (dp_ints ns) (fun d hd => by obtain ⟨i, _, rfl⟩ := List.mem_map.mp hd; exact iz)
  have sq : ∀ {t : Addr} {ns : List Int}, ns.length ≤ 4 → (H t = some (.tup (ns.map V.int)) ∨ H t = some (.lst (ns.map V.int))) → ∃ d, Dp K H (.ref t) d ∧ Sz 4 2 d := by
    intro t ns l h
    rcases h with h | h
    · obtain ⟨d, g1, g2⟩ := (A0 (ns := ns)).tup (by rw [List.length_map]; exact l) (SqT.of h)
      exact ⟨d, g1, g2.mono (Nat.le_refl _) (by decide)⟩
    · obtain ⟨d, g1, g2⟩ := (A0 (ns := ns)).lst (by rw [List.length_map]; exact l) h
      exact ⟨d, g1, g2.mono (Nat.le_refl _) (by decide)⟩
  have two : ∀ {t u : Addr} {ns : List Int}, ns.length ≤ 4 → H u = some (.tup (ns.map V.int)) → (H t = some (.tup [.int 0, .ref u]) ∨ H t = some (.lst [.int 0, .ref u])) → ∃ d, Dp K H (.ref t) d ∧ Sz 4 2 d := by
    intro t u ns l hu h
    obtain ⟨d, g1, g2⟩ := (A0 (ns := ns)).tup (by rw [List.length_map]; exact l) (SqT.of hu)
    have A1 : AllD K H 4 1 [.int 0, .ref u] := .cons (.int 0) iz (.cons g1 g2 .nil)
    rcases h with h | h
    · exact A1.tup (show 2 ≤ 4 by decide) (SqT.of h)
    · exact A1.lst (show 2 ≤ 4 by decide) h
  intro x hx
  unfold oddL at hx
  simp only [List.cons_append, List.nil_append, List.mem_cons, List.not_mem_nil, or_false] at hx
  rcases hx with rfl | rfl | rfl | rfl | rfl | rfl | rfl | rfl | rfl | rfl | rfl | rfl | rfl | rfl | rfl | rfl | rfl | rfl | rfl | rfl | rfl | rfl | rfl | rfl | rfl | rfl | rfl | rfl | rfl
  · exact ⟨_, .non, True.intro⟩
  · exact ⟨_, .bl _, True.intro⟩
  · exact ⟨_, .bl _, True.intro⟩
  iterate 9 exact ⟨_, .int _, True.intro⟩
  iterate 3 exact ⟨_, .str _, True.intro⟩
  · exact sq (ns := []) (by decide) (.inl e1)
  · exact sq (ns := []) (by decide) (.inr e2)
  · exact sq (ns := [0]) (by decide) (.inl e3)
  · exact sq (ns := [2]) (by decide) (.inl e4)
  · exact sq (ns := [2]) (by decide) (.inr e5)
  · exact sq (ns := [2, 2]) (by decide) (.inl e6)
  · exact sq (ns := [1, 2]) (by decide) (.inl e7)
  · exact sq (ns := [21]) (by decide) (.inl e8)
  · exact sq (ns := [2, 3, 4, 5]) (by decide) (.inl e9)
  · exact two (ns := [0]) (by decide) e10 (.inl e11)
  · exact two (ns := []) (by decide) e12 (.inl e13)
  · exact two (ns := [0]) (by decide) e14 (.inr e15)
  · refine ⟨_, .tup (SqT.of e16) (.cons .non .nil), ?_⟩
    exact ⟨by decide, fun d hd => by rw [List.mem_singleton.mp hd]; exact True.intro⟩
  · exact ⟨_, .str _, True.intro⟩
end FR
namespace FR
open PySem PySem.Spec PyProof.Rows L2
theorem kit2 {K : PySem.W.Frag} {a : String} {b1 b2 : Bool} (h1 : kitB a "tuple" = some b1) (h2 : kitB a "list" = some b2) : PySem.W.kitAny K (.type a) [.type "tuple", .type "list"] = some (b1 || b2) := by
  refine kitAny_cons (b := b1) (kit_ty h1) (fun e => ?_) (fun e => by rw [e]; rfl)
  rw [e, Bool.false_or]
  exact kitAny_cons (b := b2) (kit_ty h2) (fun e => by rw [e]; exact kitAny_nil) (fun e => e)
theorem clsTL : Paired ClsV [.ty "tuple", .ty "list"] [.type "tuple", .type "list"] := .cons (.ty "tuple") (.cons (.ty "list") .nil)
/-- which class data has -/
def tyN : PyData → String
  | .none => "NoneType"
  | .bool _ => "bool"
  | .int _ => "int"
  | .str _ => "str"
  | .list _ => "list"
  | .tuple _ => "tuple"
  | _ => "object"
theorem ty_dp {K : PySem.W.Frag} {H : Hp} {x : V} {d : PyData} (h : Dp K H x d) : TyX K H x (.type (tyN d)) := by
  cases h with
  | non => exact .base .non
  | bl b => exact .base (.bl b)
  | int b => exact .base (.int b)
  | str b => exact .base (.str b)
  | lst s _ => exact tyL s
  | tup s _ => exact tyT s
end FR
namespace FR
open PySem PySem.Spec PyProof.Rows L2
theorem seq_of {K : PySem.W.Frag} {H : Hp} {x : V} {d : PyData} {m n : Nat} (hd : Dp K H x d) (hz : Sz m n d) : (kitB (tyN d) "tuple" = some false ∧ kitB (tyN d) "list" = some false) ∨
    ∃ a xs n' b, x = .ref a ∧ n = n' + 1 ∧ (SqL K H a xs ∨ SqT K H a xs) ∧ AllD K H m n' xs ∧ xs.length ≤ m ∧ kitB (tyN d) "tuple" = some b ∧ kitB (tyN d) "list" = some (!b) := by
  cases hd with
  | non => exact .inl ⟨show kitB "NoneType" "tuple" = _ by decide +kernel, show kitB "NoneType" "list" = _ by decide +kernel⟩
  | bl b => exact .inl ⟨show kitB "bool" "tuple" = _ by decide +kernel, show kitB "bool" "list" = _ by decide +kernel⟩
  | int b => exact .inl ⟨show kitB "int" "tuple" = _ by decide +kernel, show kitB "int" "list" = _ by decide +kernel⟩
  | str b => exact .inl ⟨show kitB "str" "tuple" = _ by decide +kernel, show kitB "str" "list" = _ by decide +kernel⟩
  | lst s t =>
    cases n with
    | zero => exact hz.elim
    | succ n => exact .inr ⟨_, _, n, false, rfl, rfl, .inl s, .of t hz.2, by rw [dp_len t]; exact hz.1, show kitB "list" "tuple" = _ by decide +kernel, show kitB "list" "list" = _ by decide +kernel⟩
  | tup s t =>
    cases n with
    | zero => exact hz.elim
    | succ n => exact .inr ⟨_, _, n, true, rfl, rfl, .inr s, .of t hz.2, by rw [dp_len t]; exact hz.1, show kitB "tuple" "tuple" = _ by decide +kernel, show kitB "tuple" "list" = _ by decide +kernel⟩
end FR
namespace FR
open PySem PySem.Spec PyProof.Rows L2
/-! ### a heap of which some is hidden -/
def hidS (S : Addr → Bool) (H : Hp) : Hp := fun a => if S a = true then none else H a
theorem hid_sub {S : Addr → Bool} {H : Hp} : Same (hidS S H) H := fun a o e => by
  unfold hidS at e
  split at e
  · exact nomatch e
  · exact e
theorem hid_same {S : Addr → Bool} {H H' : Hp} (s : Same H H') : Same (hidS S H) (hidS S H') := fun a o e => by
  unfold hidS at e ⊢
  split at e
  · exact nomatch e
  · rename_i q
    rw [if_neg q]
    exact s a o e
theorem hid_new {S : Addr → Bool} {H H' : Hp} {t : Addr} {o : HO} (c : ∀ a, S a = true → H a ≠ none) (n : H t = none) (e : H' t = some o) : hidS S H' t = some o := by
  unfold hidS
  rw [if_neg (fun z => c t z n)]
  exact e
theorem hid_grow {S : Addr → Bool} {H H1 : Hp} {p : Addr} (n : H p = none) (s : Same H H1) : Same (hidS S H) (hidS (fun a => S a || decide (a = p)) H1) := fun a o e => by
  have e' := hid_sub a o e
  have ne : a ≠ p := ne_of_none e' n
  unfold hidS at e ⊢
  split at e
  · exact nomatch e
  · rename_i q
    rw [if_neg (by show ¬ (S a || decide (a = p)) = true; rw [decide_eq_false ne, Bool.or_false]; exact q)]
    exact s a o e
theorem hid_back {S : Addr → Bool} {H : Hp} {p : Addr} {o : HO} : Same (hidS (fun a => S a || decide (a = p)) H) (hidS S (upd H p o)) := fun a u e => by
  unfold hidS at e ⊢
  split at e
  · exact nomatch e
  · rename_i q
    have q' : ¬ (S a || decide (a = p)) = true := q
    rw [Bool.or_eq_true, decide_eq_true_eq, not_or] at q'
    have q := q'
    rw [if_neg q.1, upd_ne q.2]
    exact e
theorem hid_none {H : Hp} : hidS (fun _ => false) H = H := by
  funext a
  unfold hidS
  rw [if_neg (fun z => nomatch z)]
theorem cutG_to {xs : List V} {k : Int} (h0 : 0 ≤ k) : cutV xs none (some k) = xs.take k.toNat := by
  unfold cutV
  obtain ⟨n, rfl⟩ : ∃ n : Nat, k = (n : Int) := ⟨k.toNat, by omega⟩
  rw [HT.sIx_none, HT.sIx_nat, List.drop_zero, Nat.sub_zero]
  by_cases c : n ≤ xs.length
  · rw [Nat.min_eq_left c]
    rfl
  · rw [Nat.min_eq_right (by omega), List.take_length]
    exact (List.take_of_length_le (by show xs.length ≤ n; omega)).symm
theorem cutG_from {xs : List V} {k : Int} (h0 : 0 ≤ k) : cutV xs (some k) none = xs.drop k.toNat := by
  unfold cutV
  obtain ⟨n, rfl⟩ : ∃ n : Nat, k = (n : Int) := ⟨k.toNat, by omega⟩
  rw [HT.sIx_none, HT.sIx_nat]
  by_cases c : n ≤ xs.length
  · rw [Nat.min_eq_left c, List.take_of_length_le (by rw [List.length_drop]; exact Nat.le_refl _)]
    rfl
  · rw [Nat.min_eq_right (by omega), List.drop_eq_nil_of_le (Nat.le_refl _), List.take_nil]
    exact (List.drop_eq_nil_of_le (by show xs.length ≤ n; omega)).symm
end FR
namespace FR
open PySem PySem.Spec PyProof.Rows L2
theorem upd_at {H : Hp} {p : Addr} {o : HO} (_ : H p = none) : upd H p o p = some o := upd_same
theorem ixN_of {n : Nat} {k : Int} (h0 : 0 ≤ k) (h1 : k < (n : Int)) : ixN n k = some k.toNat := by
  unfold ixN
  rw [if_pos h0, if_pos (by omega)]
end FR
namespace FR
open PySem PySem.Spec PyProof.Rows L2 LamX
theorem sz_int {m n : Nat} {i : Int} : Sz m n (.int i) := by cases n <;> exact True.intro
theorem sz_ints {m n : Nat} {ns : List Int} (h : ns.length ≤ m) : Sz m (n + 1) (.tuple (ns.map PyData.int)) := by
  refine ⟨by rw [List.length_map]; exact h, fun d hd => ?_⟩
  obtain ⟨i, _, rfl⟩ := List.mem_map.mp hd
  exact sz_int
theorem sz_purse {m n : Nat} {r : Int} {ns : List Int} (h : ns.length ≤ m) (h2 : 2 ≤ m) : Sz m (n + 2) (.tuple [.int r, .tuple (ns.map PyData.int)]) := by
  refine ⟨h2, fun d hd => ?_⟩
  rcases List.mem_cons.mp hd with rfl | hd
  · exact sz_int
  · rw [List.mem_singleton.mp hd]
    exact sz_ints h
def HD (K : PySem.W.Frag) (H : Hp) (xs : List V) : Prop := ∀ x ∈ xs, ∃ d, Dp K H x d
section
variable {K : PySem.W.Frag} {H H' : Hp} {xs ys : List V} {x : V} {d : PyData}
theorem HD.same (h : HD K H xs) (s : Same H H') : HD K H' xs := fun x hx => let ⟨d, g⟩ := h x hx; ⟨d, Same.dp s g⟩
theorem HD.ext (h : HD K H xs) (s : ExtN H H') : HD K H' xs := fun x hx => let ⟨d, g⟩ := h x hx; ⟨d, ext_dp s g⟩
theorem HD.nil : HD K H [] := fun x hx => nomatch hx
theorem HD.cons (h : Dp K H x d) (t : HD K H xs) : HD K H (x :: xs) := fun y hy => by
  rcases List.mem_cons.mp hy with rfl | g
  · exact ⟨d, h⟩
  · exact t y g
theorem HD.app (h : HD K H xs) (t : HD K H ys) : HD K H (xs ++ ys) := fun y hy => by
  rcases List.mem_append.mp hy with g | g
  · exact h y g
  · exact t y g
theorem dpa_app : ∀ {xs ys : List V} {ds es : List PyData}, DpAll K H xs ds → DpAll K H ys es → DpAll K H (xs ++ ys) (ds ++ es)
  | _, _, _, _, .nil, h => h
  | _, _, _, _, .cons a t, h => .cons a (dpa_app t h)
end
def nums : List V := [.int 0, .int 1, .int 2, .int 20, .int 21, .int (-1), .bl true, .non, .int (10 ^ (Int.toNat 18)), .int (10 ^ (Int.toNat 18) + 1)]
theorem num_dp {K : PySem.W.Frag} {x : V} (h : x ∈ nums) : ∃ d, ∀ H : Hp, Dp K H x d := by
  unfold nums at h
  simp only [List.mem_cons, List.not_mem_nil, or_false] at h
  rcases h with rfl | rfl | rfl | rfl | rfl | rfl | rfl | rfl | rfl | rfl
  iterate 6 exact ⟨_, fun H => .int _⟩
  · exact ⟨_, fun H => .bl _⟩
  · exact ⟨_, fun H => .non⟩
  iterate 2 exact ⟨_, fun H => .int _⟩
theorem nocards_shaped : SeqAt.shaped (.list [.str "NoCards", .bool true]) = true := by
  unfold SeqAt.shaped
  rw [PyData.canLay0, PyData.canLayAll0, PyData.canLayAll0, PyData.canLayAll0, PyData.depth, PyData.depthAll, PyData.depthAll, PyData.depthAll, PyData.canLay0, PyData.canLay0, PyData.depth, PyData.depth]
  decide +kernel
theorem nocards_eqv : PyData.eqv (.list [.str "NoCards", .bool true]) (.list [.str "NoCards", .bool true]) = true := SeqAt.eqv_refl _ (by
  have := nocards_shaped
  unfold SeqAt.shaped at this
  exact (Bool.and_eq_true_iff.mp this).1)
theorem nil_eqv : PyData.eqv (.list []) (.list []) = true := SeqAt.eqv_refl _ (by
  have := shaped_nil
  unfold SeqAt.shaped at this
  exact (Bool.and_eq_true_iff.mp this).1)
end FR
namespace FR
open PySem PySem.Spec PyProof.Rows L2 LamX
theorem hid_in {K : PySem.W.Frag} {H : Hp} {x : V} {d : PyData} (h : Dp K H x d) : Dp K (hidS (fun _ => false) H) x d := by
  rw [hid_none]
  exact h
theorem hid_out {K : PySem.W.Frag} {H : Hp} {x : V} {d : PyData} (h : Dp K (hidS (fun _ => false) H) x d) : Dp K H x d := by
  rw [hid_none] at h
  exact h
theorem no_hid {H : Hp} : ∀ a : Addr, (fun _ : Addr => false) a = true → H a ≠ none := fun _ h => nomatch h
theorem cut_at {H : Hp} {p : Addr} {ns : List Int} {k : Int} (h0 : 0 ≤ k) : upd H p (.lst (cutV (ns.map V.int) (some k) none)) p = some (.lst ((ns.drop k.toNat).map V.int)) := by
  rw [upd_same, cut_from h0]
end FR
set_option maxHeartbeats 2000000
namespace FR
open PySem PySem.Spec PyProof.Rows L2 LamX
/-- a def that makes lambdas: its code object at c, that one's table at P -/
structure TabAt (K : PySem.W.Frag) (mg : Str → Option Value) (h : Heap) (x : Str) (st : Stmt) (c P : Addr) : Prop where
  fn : ∃ f fd, Fun K x x st f fd ∧ mg x = some (.ref f) ∧ fd.code = .ref c
  tab : h.get? P = some { cls := .none, data := .fields #[] }
  out : K.lookup P = none
  hd : PySem.W.CodeHd h c P
def TabAtX {K : PySem.W.Frag} {h : Heap} (_ : K.In h) (mg : Str → Option Value) (x : Str) (st : Stmt) : Prop := ∃ c P, TabAt K mg h x st c P
theorem tabAt_mk {K : PySem.W.Frag} {h : Heap} {mg : Str → Option Value} {x : Str} {st : Stmt} {f c P : Addr} {od od2 an : Option Addr} {sl sl2 : Array (Option Value)} {oc oc2 kV dc pm ct : Value} {vs : Array Value} {ts : List Addr} (X : K.In h) (G : h.Ns mainGlobals mg)
    (hT : ∀ P ∈ ts, h.get? P = some (PySem.W.tabObj #[]))
    (a1 : PySem.W.nsIn K mainGlobals x = some (some (.ref f))) (l1 : K.lookup f = some ⟨oc, od, .func (PySem.W.fnOf x x (defArgs st) (defBody st) (defScope st) .none kV dc pm an (.ref c) ct), sl⟩) (c1 : PySem.W.codeIn K (.ref c) x = true) (k1 : PySem.W.keepIn K (.ref f) = true)
    (lc : K.lookup c = some ⟨oc2, od2, .fields vs, sl2⟩) (vP : vs[11]? = some (.ref P)) (hc : PySem.W.codeHdIn K c P = true) (hn : K.lookup P = none) (mem : P ∈ ts) : TabAtX X mg x st :=
  ⟨c, P, ⟨f, _, fun_mk (st := st) l1 c1 k1, PySem.W.mg_of X G a1, rfl⟩, hT P mem, hn, PySem.W.codeHd_of_K X hc⟩
end FR
namespace FR
open PySem PySem.Spec PyProof.Rows L2
/-! ### enumerate of a tuple -/
set_option maxHeartbeats 1000000 in
theorem meets_enum1 {v : Value} {o : Obj} {H : Heap → Prop} (B : Begins v o H) :
    Meets (Builtin.«enumerate.__new__» ⟨[.type "enumerate", v], []⟩) (fun _ R s => H s.heap ∧
      R (.ok (.ret (.ref (s.heap.push o).objs.size))) { s with heap := (s.heap.push o).push { cls := .type "enumerate", data := .fields #[.none, .bool false, .ref s.heap.objs.size, rawInt 0, .none, .none] } }) :=
  .of_wp fun prog w A R s h => by
    obtain ⟨hp, g, d, tk, os⟩ := s
    obtain ⟨h1, h⟩ := h
    have hsub := sub_enumerate
    have q1 : ∀ {A' : Around} {E : Value → Shared → Prop} {Q : Value → Shared → Prop}, Q (.ref hp.objs.size) ⟨hp.push o, g, d, tk, os⟩ → wpAny (model prog w) A' (pyIter v) Q E ⟨hp, g, d, tk, os⟩ :=
      fun q => B.iter prog w _ _ ⟨hp, g, d, tk, os⟩ _ h1 q
    wp_walk using q1
    refine wpAny_stack_any fun st => wpAny_pure ?_
    split
    · rename_i c _ _ _ _ _
      cases (c == Value.type "enumerate")
      · wp_walk using q1
        exact ⟨_, rfl, h⟩
      · wp_walk using q1
        exact ⟨_, rfl, h⟩
    · wp_walk using q1
      exact ⟨_, rfl, h⟩
theorem call_enum1 {prog : Program} {w : World} {A : Around} {E : Value → Shared → Prop} {s : Shared} {v : Value} {o : Obj} {H : Heap → Prop} {Q : Value → Shared → Prop} (B : Begins v o H) (h1 : H s.heap)
    (h : ∀ h', IsEnum h' (s.heap.objs.size + 1) s.heap.objs.size 0 .none → h'.get? s.heap.objs.size = some o → h'.objs.size = s.heap.objs.size + 2 →
      (∀ b o, s.heap.get? b = some o → h'.get? b = some o) → Q (.ref (s.heap.objs.size + 1)) { s with heap := h' }) :
    wpAny (model prog w) A (call (.type "enumerate") [v]) Q E s := by
  refine callType_new F.called_enumerate (by decide) (F.typeCall_enumerate_1 _) (F.newCall_enumerate_1 _) (fun obj => F.args_object_init_2 obj _) F.entry_enumerate_new
    (meets_enum1 B) ⟨h1, ?_⟩
  have hz : (s.heap.push o).objs.size = s.heap.objs.size + 1 := Heap.size_push ..
  show _ ∧ _
  rw [hz]
  have he : IsEnum ((s.heap.push o).push { cls := .type "enumerate", data := .fields #[.none, .bool false, .ref s.heap.objs.size, rawInt 0, .none, .none] }) (s.heap.objs.size + 1) s.heap.objs.size 0 .none := by
    have z := Heap.get?_push_size (s.heap.push o) (o := { cls := .type "enumerate", data := .fields #[.none, .bool false, .ref s.heap.objs.size, rawInt 0, .none, .none] }) rfl
    rw [hz] at z
    exact z
  exact ⟨⟨_, he, rfl⟩, h _ he (Heap.get?_push_of_some _ (Heap.get?_push_size _ B.free)) (by rw [Heap.size_push, hz]) fun b o x => Heap.get?_push_of_some _ (Heap.get?_push_of_some _ x)⟩
/-- the tuple at a, each item in a new pair -/
def IteT (K : PySem.W.Frag) (a : Addr) : It :=
  ⟨fun i H => ∃ (xs : List V) (x : V), SqT K H a xs ∧ xs[i]? = some x, fun i H v H' => ∃ T x, v = .ref T ∧ H T = none ∧ H' = upd H T (.tup [.int (i : Nat), x]) ∧ ∀ xs, SqT K H a xs → xs[i]? = some x, fun i H => ∃ xs : List V, SqT K H a xs ∧ xs.length = i⟩
theorem turn_enumT {P : Program} {w : World} {K : PySem.W.Frag} {elts : List Expr} {kk : Nat} {tpos : Pos} (a e it : Addr) :
    Turn P w K (.Tuple elts kk tpos) (IteT K a) [e, it] e (fun i h => (∃ old, IsEnum h e it ((i : Nat) : Int) old) ∧ h.IsTupleIter it a i ∧ e ≠ it) where
  mem := by simp
  obj := fun i h st b hb => by
    obtain ⟨⟨old, he⟩, ⟨o, ho, hc, hd⟩, _⟩ := st
    have e' : b = e ∨ b = it := by simpa using hb
    rcases e' with z | z
    · rw [z]
      exact ⟨_, he, fun v q => nomatch q⟩
    · rw [z]
      exact ⟨o, ho, fun v q => by rw [hd] at q; cases q⟩
  keep := fun i h h' st k => let ⟨⟨old, he⟩, hi, hne⟩ := st; ⟨⟨old, k e (by simp) _ he⟩, hi.at fun o q => k it (by simp) o q, hne⟩
  item := by
    intro X hP hw hK hc i pins s σ H E I hf st hg
    subst hP hw hK
    obtain ⟨⟨old, he⟩, hit, hne⟩ := st
    obtain ⟨xs, x, hq, hx⟩ := hg
    obtain ⟨its, rv, p, hz⟩ := I.tuple hq
    obtain ⟨u, hu, ru⟩ := rv.get hx
    have hel : e < s.heap.objs.size := Heap.lt_size he
    have hil : it < s.heap.objs.size := by obtain ⟨_, q, _⟩ := hit; exact Heap.lt_size q
    have nae : e ≠ a := fun z => by
      obtain ⟨o, ho, hcl, _⟩ := id p
      rw [← z, he] at ho
      cases ho
      exact absurd hcl (by simp)
    have nai : a ≠ it := fun z => by
      obtain ⟨o, ho, hcl, _⟩ := id p
      obtain ⟨o2, ho2, hcl2, _⟩ := id hit
      rw [z, ho2] at ho
      cases ho
      rw [hcl] at hcl2
      exact absurd hcl2 (by simp)
    have hh : X.A.in1.handled = none := I.ok.hd hc
    have hlt : i < its.toArray.size := (Array.getElem?_eq_some_iff.mp (show its.toArray[i]? = some u by simpa using hu)).1
    refine wpAny_pyNext_enum_itemD (Draws.tuple hh it a nai its.toArray) he ⟨hit, p⟩ hlt hne (by simp [hne, nae]) fun u' h' tk hu' ho hit' hT hsz hk => ?_
    have eu : u' = u := by
      have e1 : its.toArray[i]? = some u := by simpa using hu
      rw [e1] at hu'
      exact (Option.some.inj hu').symm
    subst eu
    refine ⟨_, rfl, wpAny_letOwnedTupleGo_enum (s := { s with heap := h', toks := tk + 1 }) ho fun h'' he' sb => ?_⟩
    have hT2 : h''.get? s.heap.objs.size = some { cls := .type "tuple", data := .seq #[.int i tk, u'] } := (sb.2 _ (Nat.ne_of_gt hel)).trans hT
    have new : ObjOk X.prog X.w (upd H s.heap.objs.size (.tup [.int (i : Nat), x])) h'' s.heap.objs.size (.tup [.int (i : Nat), x]) :=
      ⟨by show 2 ≤ sizeLine; decide, [.int i tk, u'], .cons ⟨_, rfl⟩ (.cons ru .nil), ⟨_, hT2, rfl, _, rfl⟩⟩
    have I1 : Inv X pins σ (upd H s.heap.objs.size (.tup [.int (i : Nat), x])) { s with heap := h'', toks := tk + 1 } :=
      I.turnedNew (t' := tk + 1) (ch := [e, it]) (fun b ob hb q => (sb.2 b (fun z => hb (by simp [z]))).trans (hk b ob (fun z => hb (by simp [z])) (fun z => hb (by simp [z])) q)) hf (Nat.le_refl _) new
    refine ⟨.ref s.heap.objs.size, _, I1, rfl, ⟨_, x, rfl, I.hok.fresh (Nat.le_refl _), rfl, fun ys hy => by rw [I.tuple_inj hy hq]; exact hx⟩, ⟨⟨u', ?_⟩, hit'.1.at fun o q => (sb.2 it (Ne.symm hne)).trans q, hne⟩, fun b hb => ?_⟩
    · have e1 : ((i + 1 : Nat) : Int) = (i : Int) + 1 := by omega
      rw [e1]
      exact he'
    · have hb' : b < s.heap.objs.size := by
        have e' : b = e ∨ b = it := by simpa using hb
        rcases e' with z | z
        · rw [z]
          exact hel
        · rw [z]
          exact hil
      rw [upd_ne (Nat.ne_of_lt hb')]
      exact (hf b hb).1
  done := by
    intro X hP hw hK hc i pins s σ H E I hf st hg
    subst hP hw hK
    obtain ⟨⟨old, he⟩, hit, hne⟩ := st
    obtain ⟨xs, hq, hx⟩ := hg
    obtain ⟨its, rv, p, hz⟩ := I.tuple hq
    obtain ⟨f0, f1, f2, f3, f4, f5⟩ := hf it (by simp)
    have hl := rv.length
    have nai : a ≠ it := fun z => by
      obtain ⟨o, ho, hcl, _⟩ := id p
      obtain ⟨o2, ho2, hcl2, _⟩ := id hit
      rw [z, ho2] at ho
      cases ho
      rw [hcl] at hcl2
      exact absurd hcl2 (by simp)
    have hh : X.A.in1.handled = none := I.ok.hd hc
    have hn : i = its.toArray.size := by simp; omega
    exact wpAny_pyNext_enum_endD (Draws.tuple hh it a nai its.toArray) he ⟨hn ▸ hit, p⟩ fun h' eb => ⟨rfl, I.turned (t' := s.toks) (fun b o hb q => eb b o hb q) f0 f1 f3 f4 f5⟩
  self := fun A i s Q E st h => let ⟨⟨_, he⟩, _⟩ := st; wpAny_pyIter_enum he h
def iEnumT (K : PySem.W.Frag) (ta : TA) : TI := fun σ H R => ta σ H fun vs H1 => ∃ a xs, vs = [.ref a] ∧ SqT K H1 a xs ∧ R (IteT K a) H1
theorem pi_enumT {X : Cx} {e : Expr} {ta : TA} {p pos tpos : Pos} {elts : List Expr} {kk : Nat} (hg : Gl X "enumerate") (hm : X.mg "enumerate" = none) (ha : PA X [e] ta) (hs : starEach [e] X.env = [(false, eval e X.env)] := by rfl) :
    PI X (.Tuple elts kk tpos) (.Call (.Name "enumerate" p) [e] [] pos) (iEnumT X.K ta) := by
  refine ⟨fun pins s σ H R I h => ?_⟩
  refine Call_ (ld_blt I hg hm boot_enumerate (PyProof.Rows.callWith_type1 (thn (ha.run pos pins s σ H _ I h) fun us s1 ⟨vs, H1, I1, r1, q1⟩ => ?_) hs rfl))
  obtain ⟨a, xs, ex, hq, q⟩ := q1
  subst ex
  cases r1 with
  | cons r rr =>
    cases rr
    cases r
    obtain ⟨its, rv, p', hz⟩ := I1.tuple hq
    refine call_enum1 (begins_tuple a its.toArray) p' fun h' he hit hsz hk => wpAny_pyIter_enum he ?_
    have I2 : Inv X pins σ H1 { s1 with heap := h' } := I1.kept (t' := s1.toks) hk
    refine ⟨s1.heap.objs.size + 1, [s1.heap.objs.size + 1, s1.heap.objs.size], _, _, H1, rfl, I2, turn_enumT a (s1.heap.objs.size + 1) s1.heap.objs.size, ⟨⟨.none, he⟩, ⟨_, hit, rfl, rfl⟩, Nat.succ_ne_self _⟩, fun b hb => ?_, q⟩
    have e' : b = s1.heap.objs.size + 1 ∨ b = s1.heap.objs.size := by simpa using hb
    have hle : s1.heap.objs.size ≤ b := by
      rcases e' with z | z
      · rw [z]
        exact Nat.le_add_right _ _
      · rw [z]
        exact Nat.le_refl _
    exact I1.fpOk hle (I1.hok.fresh hle)
theorem for_enumT {K : PySem.W.Frag} {a : Addr} {xs : List V} {g : TG} {tb : TS} {D : Ends} {σ : L2.St} {H : Hp} (Pv : Nat → L2.St → Hp → Prop) (h0 : Pv 0 σ H) (hq : ∀ i σ H, Pv i σ H → SqT K H a xs)
    (hs : ∀ (i : Nat) (x : V) (T : Addr) (σ : L2.St) (H : Hp), xs[i]? = some x → Pv i σ H → H T = none → g (.ref T) σ (upd H T (.tup [.int (i : Nat), x])) fun σ2 H2 => tb { D with nx := Pv (i + 1), ct := Pv (i + 1), bk := D.nx } σ2 H2) (hd : ∀ σ H, Pv xs.length σ H → D.nx σ H) :
    ∃ W : Nat → Nat → L2.St → Hp → Prop, (∃ m, W 0 m σ H) ∧ ∀ i m σ H, W i m σ H →
      ((IteT K a).stop i H ∧ D.nx σ H) ∨ ((IteT K a).go i H ∧ ∃ N : L2.St → Hp → Prop, (∀ σ' H', N σ' H' → ∃ m', m' < m ∧ W (i + 1) m' σ' H') ∧ ∀ v H', (IteT K a).yld i H v H' → g v σ H' fun σ2 H2 => tb { D with nx := N, ct := N, bk := D.nx } σ2 H2) := by
  refine ⟨fun i m σ H => m = xs.length - i ∧ i ≤ xs.length ∧ Pv i σ H, ⟨xs.length, rfl, Nat.zero_le _, h0⟩, ?_⟩
  rintro i m σ H ⟨rfl, hi, p⟩
  have qx := hq i σ H p
  by_cases hlt : i < xs.length
  · have hx : xs[i]? = some xs[i] := List.getElem?_eq_getElem hlt
    refine .inr ⟨⟨xs, _, qx, hx⟩, Pv (i + 1), fun σ' H' p' => ⟨xs.length - (i + 1), by omega, rfl, hlt, p'⟩, fun v H' y => ?_⟩
    obtain ⟨T, x', rfl, hT, rfl, f1⟩ := y
    exact hs i x' T σ H (f1 xs qx) p hT
  · have e : i = xs.length := by omega
    subst e
    exact .inl ⟨⟨xs, qx, rfl⟩, hd σ H p⟩
end FR
namespace FR
open PySem PySem.Spec PyProof.Rows L2
theorem call_repr_b {X : Cx} : CallR X (.builtin "repr") (fun xs H Q => ∃ b : Bool, xs = [.bl b] ∧ Q (.str (if b then "True" else "False")) H) := by
  intro pins s σ H xs us Q I r h
  obtain ⟨b, rfl, q⟩ := h
  cases r with
  | cons rx rr =>
    cases rr
    cases rx
    exact PySem.P.repr_of_bool ⟨.str _, H, I.tok _, ⟨_, rfl⟩, q⟩
/-- the numbers of a range -/
def rgI (a b : Int) : List Int := (List.range (b - a).toNat).map fun i => a + (i : Nat)
theorem rgI_map (a b : Int) : rgV a b = (rgI a b).map V.int := by
  unfold rgV rgI
  rw [List.map_map]
  rfl
theorem rgI_mem {a b x : Int} (h : x ∈ rgI a b) : a ≤ x ∧ x < b := by
  unfold rgI at h
  obtain ⟨i, h1, h2⟩ := List.mem_map.mp h
  rw [List.mem_range] at h1
  omega
theorem rgI_len (a b : Int) : (rgI a b).length = (b - a).toNat := by
  unfold rgI
  rw [List.length_map, List.length_range]
end FR
namespace FR
open PySem PySem.Spec PyProof.Rows L2
theorem shaped_ints (ns : List Int) : SeqAt.shaped (.list (ns.map PyData.int)) = true := by
  unfold SeqAt.shaped
  rw [PyData.canLay0, PyData.depth, lay_ints, deep_ints]
  rfl
theorem ints_ne {ns : List Int} (h : ns ≠ []) : (!PyData.eqv (.list (ns.map PyData.int)) (.list [])) = true := by
  match ns, h with
  | _ :: _, _ =>
    rw [PyData.eqv]
    rfl
theorem ints_eq {ns : List Int} (h : ns = []) : (!PyData.eqv (.list (ns.map PyData.int)) (.list [])) = false := by
  subst h
  rw [PyData.eqv]
  rfl
end FR
namespace FR
open PySem PySem.Spec PyProof.Rows L2
/-! ### rules with the written part named, for what stands inside a comprehension -/
theorem pi_tupK (K : PySem.W.Frag) {X : Cx} {tg l : Expr} {tl : TE} (hl : PE X l tl) (h : X.K = K := by rfl) : PI X tg l (iTup K tl) := h ▸ pi_tup hl
theorem pi_listK (K : PySem.W.Frag) {X : Cx} {tg l : Expr} {tl : TE} (hl : PE X l tl) (h : X.K = K := by rfl) : PI X tg l (iList K tl) := h ▸ pi_list hl
theorem cr_sumK (K : PySem.W.Frag) {X : Cx} (hc : X.calm = true) (h : X.K = K := by rfl) : CallR X (.builtin "sum") (rSum K) := h ▸ cr_sum hc
theorem cr_allK (K : PySem.W.Frag) {X : Cx} (hc : X.calm = true) (h : X.K = K := by rfl) : CallR X (.builtin "all") (rAll K) := h ▸ cr_all hc
theorem op_eqDK (K : PySem.W.Frag) {X : Cx} (hu : X.A.units + 64 < cLine) (h : X.K = K := by rfl) : OpR X (compareOp .Eq) (rEqD K) := h ▸ op_eqD hu
theorem op_neDK (K : PySem.W.Frag) {X : Cx} (hu : X.A.units + 64 < cLine) (h : X.K = K := by rfl) : OpR X (compareOp .NotEq) (rNeD K) := h ▸ op_neD hu
end FR
namespace FR
open PySem PySem.Spec PyProof.Rows L2
/-- two lists of numbers put together: a new one -/
theorem rd_catL {H : Hp} {Q : VK} {l b : Addr} (ns ms : List Int) (h1 : H l = some (.lst (ns.map V.int))) (h2 : H b = some (.lst (ms.map V.int))) (hl : ns.length + ms.length ≤ 999) (q : ∀ p H', Same H H' → H p = none → H' p = some (.lst ((ns ++ ms).map V.int)) → Q (.ref p) H') : rCat (.ref l) (.ref b) H Q := by
  refine ⟨l, b, _, _, rfl, rfl, h1, h2, ?_, fun p np => ?_⟩
  · rw [List.length_map, List.length_map]
    exact Nat.le_of_lt (small1000 (by omega))
  · rw [← List.map_append]
    exact q p _ (same_upd np) np upd_same
end FR
namespace FR
open L2
/-- one way on from several ends -/
theorem via {G P : Prop} (main : G → P) (rest : G) : P := main rest
theorem viaH {H0 : Hp} {G : Hp → Prop} {P : Prop} (main : (∀ H', Same H0 H' → G H') → P) (rest : ∀ H', Same H0 H' → G H') : P := main rest
end FR
namespace FR
open PySem PySem.Spec PyProof.Rows L2
theorem pe_def0 {X : Cx} {k j : Nat} {sp : Sp} {x : Str} {p pos : Pos} (D : Def X.prog X.w X.K X.mg X.base x k [] sp) (hr : Room j X.A) (hg : Gl X x := by rfl) (hl : k ≤ j := by decide) (hdb : (x == ("__debug__" : Str)) = false := by decide) :
    PE X (.Call (.Name x p) [] [] pos) (tCall sp [] E0 tNil) := by
  obtain ⟨f, fd, F, m, kp, b⟩ := D.ex
  exact pe_call0 F (hr.mono hl) hg m kp b .nil pass0 hdb
end FR
namespace FR
open PySem PySem.Spec PyProof.Rows L2
def rGetQ (K : PySem.W.Frag) : V → V → Hp → VK → Prop := fun o i H Q => ∃ p xs k v, o = .ref p ∧ i = .int k ∧ SqL K H p xs ∧ 0 ≤ k ∧ k < 2 ^ 63 ∧ xs[k.toNat]? = some v ∧ Q v H
theorem get_lst {X : Cx} : PGet X (rGetQ X.K) := by
  intro pins s σ H o i ov iv Q I ro ri h
  obtain ⟨p, xs, k, v, rfl, rfl, sq, k0, k1, at_, q⟩ := h
  cases ro
  obtain ⟨tk, rfl⟩ := ri
  obtain ⟨its, rv, isl, _⟩ := I.list sq
  obtain ⟨u, atu, ru⟩ := rv.get at_
  exact wpAny_getItem_list isl.isList k0 k1 (by simpa using atu) ⟨v, H, I, ru, q⟩
/-! ### defs that raise -/
end FR
namespace FR
open PySem PySem.Spec PyProof.Rows L2
/-! ### zip of a list and a tuple, one beside the other -/
def SqB (b : Bool) (K : PySem.W.Frag) (H : Hp) (a : Addr) (xs : List V) : Prop := match b with | true => SqL K H a xs | false => SqT K H a xs
def IsB (b : Bool) (h : Heap) (a : Addr) (its : Array Value) : Prop := match b with | true => h.IsList a its | false => h.IsTuple a its
def ItB (b : Bool) (h : Heap) (it a : Addr) (i : Nat) : Prop := match b with | true => h.IsListIter it a i | false => h.IsTupleIter it a i
def obB (b : Bool) (a : Addr) : Obj := { cls := .type (match b with | true => "list_iterator" | false => "tuple_iterator"), data := .fields #[.ref a, .int 0 0] }
theorem drawsB {prog : Program} {w : World} {A : Around} (b : Bool) (hh : A.handled = none) (it l : Addr) (hne : l ≠ it) (items : Array Value) :
    Draws prog w A it [it, l] items.size (fun i v => items[i]? = some v) (fun i h => ItB b h it l i ∧ IsB b h l items) := by
  cases b
  · exact Draws.tuple hh it l hne items
  · exact Draws.list hh it l hne items
theorem beginsB (b : Bool) (a : Addr) (items : Array Value) : Begins (.ref a) (obB b a) fun h => IsB b h a items := by
  cases b
  · exact begins_tuple a items
  · exact begins_list a items
theorem ItB.new {b : Bool} {h : Heap} {it a : Addr} (e : h.get? it = some (obB b a)) : ItB b h it a 0 := by
  cases b
  · exact ⟨_, e, rfl, rfl⟩
  · exact ⟨_, e, rfl, rfl⟩
theorem ItB.at {b : Bool} {h h' : Heap} {it a : Addr} {i : Nat} (x : ItB b h it a i) (k : ∀ o, h.get? it = some o → h'.get? it = some o) : ItB b h' it a i := by
  cases b
  · exact Heap.IsTupleIter.at x k
  · exact Heap.IsListIter.at x k
theorem ItB.ex {b : Bool} {h : Heap} {it a : Addr} {i : Nat} (x : ItB b h it a i) : ∃ o, h.get? it = some o ∧ ∀ v, o.data ≠ .cell v := by
  cases b
  · obtain ⟨o, e, _, d⟩ := x
    exact ⟨o, e, fun v q => by rw [d] at q; cases q⟩
  · obtain ⟨o, e, _, d⟩ := x
    exact ⟨o, e, fun v q => by rw [d] at q; cases q⟩
theorem invB {b : Bool} {X : Cx} {pins : List (Addr × Obj)} {σ : L2.St} {H : Hp} {s : Shared} {a : Addr} {xs : List V} (I : Inv X pins σ H s) (h : SqB b X.K H a xs) : ∃ its : List Value, Vals xs its ∧ IsB b s.heap a its.toArray ∧ a < s.heap.objs.size := by
  cases b
  · obtain ⟨its, rv, p, _⟩ := I.tuple h
    obtain ⟨o, ho, _⟩ := id p
    exact ⟨its, rv, p, Heap.lt_size ho⟩
  · obtain ⟨its, rv, p, _⟩ := I.list h
    exact ⟨its, rv, p.isList, p.lt⟩
theorem injB {b : Bool} {X : Cx} {pins : List (Addr × Obj)} {σ : L2.St} {H : Hp} {s : Shared} {a : Addr} {xs ys : List V} (I : Inv X pins σ H s) (h : SqB b X.K H a xs) (h' : SqB b X.K H a ys) : xs = ys := by
  cases b
  · exact I.tuple_inj h h'
  · exact I.list_inj h h'
def ItzB (p q : Bool) (K : PySem.W.Frag) (a b : Addr) : It :=
  ⟨fun i H => ∃ (xs ys : List V) (x y : V), SqB p K H a xs ∧ SqB q K H b ys ∧ xs[i]? = some x ∧ ys[i]? = some y,
    fun i H v H' => ∃ T x y, v = .ref T ∧ H T = none ∧ H' = upd H T (.tup [x, y]) ∧ (∀ xs, SqB p K H a xs → xs[i]? = some x) ∧ ∀ ys, SqB q K H b ys → ys[i]? = some y,
    fun i H => ∃ xs ys : List V, SqB p K H a xs ∧ SqB q K H b ys ∧ xs.length = i ∧ ys.length = i⟩
theorem sepB {z TI TO i1 i2 a b : Addr} (D : ZipApart z TI TO i1 i2 a b) : ZipSep2 z TI TO i1 i2 [i1, a] [i2, b] :=
  { TIz := D.TIz, TOz := D.TOz, TITO := D.TITO, TIi1 := D.TIi1, mem1 := by simp, zf1 := by simp [Ne.symm D.i1z, Ne.symm D.l1z], Tf1 := by simp [D.TOi1, Ne.symm D.l1TO],
    TIi2 := D.TIi2, mem2 := by simp, zf2 := by simp [Ne.symm D.i2z, Ne.symm D.l2z], Tf2 := by simp [D.TOi2, Ne.symm D.l2TO],
    sep1_2 := by simp [D.i12, Ne.symm D.l2i1], sep2_1 := by simp [Ne.symm D.i12, Ne.symm D.l1i2] }
theorem turn_zipB {P : Program} {w : World} {K : PySem.W.Frag} {elts : List Expr} {kk : Nat} {tpos : Pos} {p q : Bool} {a b z TI TO i1 i2 : Addr} (D : ZipApart z TI TO i1 i2 a b) :
    Turn P w K (.Tuple elts kk tpos) (ItzB p q K a b) [z, TI, TO, i1, i2] z (fun i h => IsZip h z TI TO .none ∧ IsTupOf2 h TI (.ref i1) (.ref i2) ∧ (∃ x y, IsTupOf2 h TO x y) ∧ ItB p h i1 a i ∧ ItB q h i2 b i) where
  mem := by simp
  obj := fun i h st c hc => by
    obtain ⟨hz, hTI, ⟨x, y, hTO⟩, h1, h2⟩ := st
    have e' : c = z ∨ c = TI ∨ c = TO ∨ c = i1 ∨ c = i2 := by simpa using hc
    rcases e' with q | q | q | q | q
    · rw [q]; exact ⟨_, hz, fun v q => nomatch q⟩
    · rw [q]; exact ⟨_, hTI, fun v q => nomatch q⟩
    · rw [q]; exact ⟨_, hTO, fun v q => nomatch q⟩
    · rw [q]; exact h1.ex
    · rw [q]; exact h2.ex
  keep := fun i h h' st k => by
    obtain ⟨hz, hTI, ⟨x, y, hTO⟩, h1, h2⟩ := st
    exact ⟨k z (by simp) _ hz, k TI (by simp) _ hTI, ⟨x, y, k TO (by simp) _ hTO⟩, h1.at fun o q => k i1 (by simp) o q, h2.at fun o q => k i2 (by simp) o q⟩
  item := by
    intro X hP hw hK hc i pins s σ H E I hf st hg
    subst hP hw hK
    obtain ⟨hz, hTI, ⟨x0, y0, hTO⟩, h1, h2⟩ := st
    obtain ⟨xs, ys, x, y, hqx, hqy, hx, hy⟩ := hg
    obtain ⟨its, rv, pp, _⟩ := invB I hqx
    obtain ⟨its2, rv2, pp2, _⟩ := invB I hqy
    obtain ⟨u, hu, ru⟩ := rv.get hx
    obtain ⟨u2, hu2, ru2⟩ := rv2.get hy
    have hu' : its.toArray[i]? = some u := by simpa using hu
    have hu2' : its2.toArray[i]? = some u2 := by simpa using hu2
    have hzl : z < s.heap.objs.size := Heap.lt_size hz
    have hh : X.A.in1.handled = none := I.ok.hd hc
    refine wpAny_pyNext_zipD2_item (sepB D) (drawsB p hh i1 a D.l1i1 its.toArray) (drawsB q hh i2 b D.l2i2 its2.toArray) hz hTI hTO ⟨h1, pp⟩ ⟨h2, pp2⟩ (Array.getElem?_eq_some_iff.mp hu').1 (Array.getElem?_eq_some_iff.mp hu2').1 fun v v2 h' tk hv hv2 z' TO' h1' h2' hT hsz hk => ?_
    have ev : v = u := by
      rw [hu'] at hv
      exact (Option.some.inj hv).symm
    have ev2 : v2 = u2 := by
      rw [hu2'] at hv2
      exact (Option.some.inj hv2).symm
    subst ev ev2
    refine ⟨_, rfl, wpAny_letOwnedTupleGo_zip (s := { s with heap := h', toks := tk }) z' fun h'' z'' sb => ?_⟩
    have hT2 : h''.get? s.heap.objs.size = some { cls := .type "tuple", data := .seq #[v, v2] } := (sb.2 _ (Nat.ne_of_gt hzl)).trans hT
    have new : ObjOk X.prog X.w (upd H s.heap.objs.size (.tup [x, y])) h'' s.heap.objs.size (.tup [x, y]) :=
      ⟨by show 2 ≤ sizeLine; decide, [v, v2], .cons ru (.cons ru2 .nil), ⟨_, hT2, rfl, _, rfl⟩⟩
    have I1 : Inv X pins σ (upd H s.heap.objs.size (.tup [x, y])) { s with heap := h'', toks := tk } :=
      I.turnedNew (t' := tk) (ch := [z, TI, TO, i1, i2]) (fun c o hb q => (sb.2 c (fun q' => hb (by simp [q']))).trans (hk c o (fun q' => hb (by simp [q'])) (fun q' => hb (by simp [q'])) (fun q' => hb (by simp [q'])) (fun q' => hb (by simp [q'])) q)) hf (Nat.le_refl _) new
    refine ⟨.ref s.heap.objs.size, _, I1, rfl, ⟨_, x, y, rfl, I.hok.fresh (Nat.le_refl _), rfl, fun l hl => by rw [injB I hl hqx]; exact hx, fun l hl => by rw [injB I hl hqy]; exact hy⟩, ⟨z'', ?_, ⟨v, v2, ?_⟩, ?_, ?_⟩, fun c hcm => ?_⟩
    · exact (sb.2 _ D.TIz).trans (hk _ _ D.TIz D.TITO D.TIi1 D.TIi2 hTI)
    · exact (sb.2 _ D.TOz).trans TO'
    · exact h1'.1.at fun o q => (sb.2 _ D.i1z).trans q
    · exact h2'.1.at fun o q => (sb.2 _ D.i2z).trans q
    · have hlt : c < s.heap.objs.size := by
        have e' : c = z ∨ c = TI ∨ c = TO ∨ c = i1 ∨ c = i2 := by simpa using hcm
        rcases e' with q | q | q | q | q
        · rw [q]; exact hzl
        · rw [q]; exact Heap.lt_size hTI
        · rw [q]; exact Heap.lt_size hTO
        · rw [q]; obtain ⟨_, e1, _⟩ := h1.ex; exact Heap.lt_size e1
        · rw [q]; obtain ⟨_, e2, _⟩ := h2.ex; exact Heap.lt_size e2
      rw [upd_ne (Nat.ne_of_lt hlt)]
      exact (hf c hcm).1
  done := by
    intro X hP hw hK hc i pins s σ H E I hf st hg
    subst hP hw hK
    obtain ⟨hz, hTI, ⟨x0, y0, hTO⟩, h1, h2⟩ := st
    obtain ⟨xs, ys, hqx, hqy, e1, e2⟩ := hg
    obtain ⟨its, rv, pp, _⟩ := invB I hqx
    obtain ⟨its2, rv2, pp2, _⟩ := invB I hqy
    have l1 := rv.length
    have l2 := rv2.length
    have hh : X.A.in1.handled = none := I.ok.hd hc
    have n1 : i = its.toArray.size := by simp; omega
    have n2 : i = its2.toArray.size := by simp; omega
    exact wpAny_pyNext_zipD2_end (sepB D) (drawsB p hh i1 a D.l1i1 its.toArray) (drawsB q hh i2 b D.l2i2 its2.toArray) hz hTI hTO ⟨h1, pp⟩ ⟨h2, pp2⟩ (Nat.le_of_eq n1) (Nat.le_of_eq n2) (.inl n1) fun h' tk hk => ⟨rfl, I.turnedL (t' := tk) (ch := [z, TI, TO, i1, i2]) (fun c o hb q =>
      hk c o (fun q' => hb (by simp [q'])) (fun q' => hb (by simp [q'])) (fun q' => hb (by simp [q'])) (fun q' => hb (by simp [q'])) q) hf⟩
  self := fun A i s Q E st h => wpAny_pyIter_zip st.1 h
def iZipB (K : PySem.W.Frag) (p q : Bool) (ta : TA) : TI := fun σ H R => ta σ H fun vs H1 => ∃ a b xs ys, vs = [.ref a, .ref b] ∧ SqB p K H1 a xs ∧ SqB q K H1 b ys ∧ R (ItzB p q K a b) H1
theorem pi_zipB (p q : Bool) {X : Cx} {e e2 : Expr} {ta : TA} {ps pos tpos : Pos} {elts : List Expr} {kk : Nat} (hg : Gl X "zip") (hm : X.mg "zip" = none) (ha : PA X [e, e2] ta)
    (hs : starEach [e, e2] X.env = (false, eval e X.env) :: starEach [e2] X.env := by rfl) (hpl : (backTo pos (starEach [e2] X.env)).any (·.1) = false := by rfl) :
    PI X (.Tuple elts kk tpos) (.Call (.Name "zip" ps) [e, e2] [] pos) (iZipB X.K p q ta) := by
  refine ⟨fun pins s σ H R I h => ?_⟩
  refine Call_ (ld_blt I hg hm PyProof.Rows.boot_zip (PyProof.Rows.callWith_type1 (thn (ha.run pos pins s σ H _ I h) fun us s1 ⟨vs, H1, I1, r1, q1⟩ => ?_) hs hpl))
  obtain ⟨a, b, xs, ys, ex, hqx, hqy, q2⟩ := q1
  subst ex
  cases r1 with
  | cons r rr =>
    cases rr with
    | cons r' rr =>
      cases rr
      cases r
      cases r'
      have fresh5 : ∀ c, c ∈ [s1.heap.objs.size + 4, s1.heap.objs.size + 2, s1.heap.objs.size + 3, s1.heap.objs.size, s1.heap.objs.size + 1] → FpOk X pins H1 c := fun c hcm => by
        have e' : c = s1.heap.objs.size + 4 ∨ c = s1.heap.objs.size + 2 ∨ c = s1.heap.objs.size + 3 ∨ c = s1.heap.objs.size ∨ c = s1.heap.objs.size + 1 := by simpa using hcm
        have hle : s1.heap.objs.size ≤ c := by
          rcases e' with z | z | z | z | z
          · rw [z]; exact Nat.le_add_right _ _
          · rw [z]; exact Nat.le_add_right _ _
          · rw [z]; exact Nat.le_add_right _ _
          · rw [z]; exact Nat.le_refl _
          · rw [z]; exact Nat.le_add_right _ _
        exact I1.fpOk hle (I1.hok.fresh hle)
      obtain ⟨its, rv, p1, lt1⟩ := invB I1 hqx
      obtain ⟨its2, rv2, p2, lt2⟩ := invB I1 hqy
      refine zip_begins2 (beginsB p a its.toArray) (beginsB q b its2.toArray) p1 p2 fun h' hz hTI hTO h1 h2 hsz hk => wpAny_pyIter_zip hz ?_
      have I2 : Inv X pins σ H1 { s1 with heap := h' } := I1.kept (t' := s1.toks) hk
      exact ⟨s1.heap.objs.size + 4, [s1.heap.objs.size + 4, s1.heap.objs.size + 2, s1.heap.objs.size + 3, s1.heap.objs.size, s1.heap.objs.size + 1], _, _, H1, rfl, I2, turn_zipB (PySem.W.ktu_apart s1.heap.objs.size a b lt1 lt2), ⟨hz, hTI, ⟨_, _, hTO⟩, ItB.new h1, ItB.new h2⟩, fresh5, q2⟩
/-- a comprehension over both -/
theorem lc_zipB {p q : Bool} {K : PySem.W.Frag} {a b : Addr} {xs ys : List V} {g : TG} {tt : TT} {te : TE} {vs : List Nat} {σ : L2.St} {H1 : Hp} {D : Addr} {Qd : Hp → Prop} (hl : xs.length = ys.length) (Pv : Nat → Hp → Prop) (h0 : Pv 0 (upd H1 D (.lst []))) (hq : ∀ i H, Pv i H → SqB p K H a xs ∧ SqB q K H b ys)
    (hs : ∀ (i : Nat) (x y : V) (T : Addr) (H : Hp), xs[i]? = some x → ys[i]? = some y → Pv i H → H T = none → g (.ref T) (wipe σ vs) (upd H T (.tup [x, y])) fun σ2 H2 => wipe σ2 vs = wipe σ vs ∧ tt σ2 H2 fun b H3 =>
      if b = true then te σ2 H3 fun y H4 => ∃ acc, H4 D = some (.lst acc) ∧ acc.length < sizeLine ∧ Pv (i + 1) (upd H4 D (.lst (acc ++ [y]))) else Pv (i + 1) H3) (hd : ∀ H, Pv xs.length H → Qd H) :
    ∃ W : Nat → Nat → Hp → Prop, (∃ m, W 0 m (upd H1 D (.lst []))) ∧ ∀ i m H, W i m H →
      ((ItzB p q K a b).stop i H ∧ Qd H) ∨ ((ItzB p q K a b).go i H ∧ ∃ Nx : Hp → Prop, (∀ H', Nx H' → ∃ m', m' < m ∧ W (i + 1) m' H') ∧ ∀ x H', (ItzB p q K a b).yld i H x H' → g x (wipe σ vs) H' fun σ2 H2 => wipe σ2 vs = wipe σ vs ∧ tt σ2 H2 fun b H3 =>
        if b = true then te σ2 H3 fun y H4 => ∃ acc, H4 D = some (.lst acc) ∧ acc.length < sizeLine ∧ Nx (upd H4 D (.lst (acc ++ [y]))) else Nx H3) := by
  refine ⟨fun i m H => m = xs.length - i ∧ i ≤ xs.length ∧ Pv i H, ⟨xs.length, rfl, Nat.zero_le _, h0⟩, ?_⟩
  rintro i m H ⟨rfl, hi, p⟩
  obtain ⟨qx, qy⟩ := hq i H p
  by_cases hlt : i < xs.length
  · have g1 : xs[i]? = some xs[i] := List.getElem?_eq_getElem hlt
    have g2 : ys[i]? = some ys[i] := List.getElem?_eq_getElem (by omega)
    refine .inr ⟨⟨_, _, _, _, qx, qy, g1, g2⟩, Pv (i + 1), fun H' p' => ⟨xs.length - (i + 1), by omega, rfl, hlt, p'⟩, fun x H' y => ?_⟩
    obtain ⟨T, x1, x2, rfl, nT, rfl, f1, f2⟩ := y
    exact hs i x1 x2 T H (f1 _ qx) (f2 _ qy) p nT
  · have e : i = xs.length := by omega
    subst e
    exact .inl ⟨⟨_, _, qx, qy, rfl, hl.symm⟩, hd H p⟩
end FR
namespace FR
open PySem PySem.Spec PyProof.Rows L2 HT
/-! ### t[::-1] -/
theorem rev_pick (its : List Value) : ((List.range its.length).filterMap fun (m : Nat) => its.toArray[(((its.length : Int) - 1) + (m : Int) * (-1)).toNat]?) = its.reverse := by
  have e : ∀ m ∈ List.range its.length, its.toArray[(((its.length : Int) - 1) + (m : Int) * (-1)).toNat]? = its.reverse[m]? := fun m hm => by
    rw [List.mem_range] at hm
    rw [List.getElem?_reverse hm, List.getElem?_toArray]
    congr 1
    omega
  have e2 : ∀ (l : List Nat) (f g : Nat → Option Value), (∀ m ∈ l, f m = g m) → l.filterMap f = l.filterMap g := fun l f g h => by
    induction l with
    | nil => rfl
    | cons a r ih =>
      rw [List.filterMap_cons, List.filterMap_cons, h a List.mem_cons_self, ih fun m hm => h m (List.mem_cons_of_mem _ hm)]
  rw [e2 _ _ _ e]
  have e3 : ∀ (ys : List Value), (List.range ys.length).filterMap (fun m => ys[m]?) = ys := fun ys => by
    have h := pick_run ys.toArray 0 ys.length
    simpa using h
  have := e3 its.reverse
  rw [List.length_reverse] at this
  exact this
theorem sliceApplied_rev {prog : Program} {w : World} {A : Around} {E : Value → Shared → Prop} {s : Shared} {sl : Addr} {t : Tok} {n : Nat} {Q : Int × Int × Nat → Shared → Prop} (hs : s.heap.IsSliceOf sl .none .none (.int (-1) t))
    (h : Q ((n : Int) - 1, -1, n) s) : wpAny (model prog w) A (Builtin.Slice.sliceApplied (.ref sl) (pure (n : Int))) Q E s := by
  obtain ⟨os, hos, hcs, hds⟩ := id hs
  unfold Builtin.Slice.sliceApplied Builtin.Slice.sliceFields
  refine wpAny_bind (wpAny_bind (wpAny_field hos hds (x := .none) rfl (wpAny_bind (wpAny_field hos hds (x := .none) rfl (wpAny_bind (wpAny_field hos hds (x := .int (-1) t) rfl (wpAny_pure ?_)))))))
  refine wpAny_bind (slicePart_int ?_)
  show wpAny _ _ (if ((-1 : Int) == 0) = true then _ else _) _ _ s
  rw [if_neg (by decide)]
  refine wpAny_bind (slicePart_none (wpAny_bind (slicePart_none (wpAny_bind (wpAny_pure ?_)))))
  show wpAny _ _ (pure ((n : Int) - 1, (-1 : Int), Builtin.Slice.slicePlaces ((n : Int) - 1) (-1) (-1))) _ _ s
  have e : Builtin.Slice.slicePlaces ((n : Int) - 1) (-1) (-1) = n := by
    unfold Builtin.Slice.slicePlaces
    rw [if_neg (by decide)]
    split
    · have : ((n : Int) - 1 - -1 - 1) / (- -1) = (n : Int) - 1 := by
        rw [show (- -1 : Int) = 1 by decide, Int.ediv_one]
        omega
      rw [this]
      omega
    · omega
  rw [e]
  exact wpAny_pure h
theorem getItem_rev {prog : Program} {w : World} {A : Around} {E : Value → Shared → Prop} {s : Shared} {t sl : Addr} {its : List Value} {k : Tok} {Q : Value → Shared → Prop} (ht : IsTup s.heap t its.toArray) (hs : s.heap.IsSliceOf sl .none .none (.int (-1) k))
    (h : Q (.ref s.heap.objs.size) { s with heap := s.heap.push { cls := .type "tuple", data := .seq its.reverse.toArray } })
    (hsz : its.length ≤ sizeLine) : wpAny (model prog w) A (getItem (.ref t) (.ref sl)) Q E s := by
  have htake : sizeOk (.seq its.reverse.toArray) := by
    show its.reverse.toArray.size ≤ sizeLine
    rw [List.size_toArray, List.length_reverse]
    exact hsz
  obtain ⟨os, hos, hcs, hds⟩ := id hs
  have hTs : s.TypeIs (.ref sl) "slice" := ⟨os, hos, hcs⟩
  unfold getItem
  try with_reducible refine wpAny_holding ?_
  first | refine wpAny_bind (wpAny_pure ?_) | skip
  refine wpAny_bind (wpAny_sequenceKey ht.typeIs (by decide) ?_)
  refine wpAny_bind (wpAny_callSpecial?_slot (name := Str.ofString "__getitem__") ht.typeIs PyProof.Rows.slot_tuple_getitem
    (wpAny_call_entry PyProof.Rows.slot_tuple_getitem ht.typeIs entry_tuple_getitem ?_ (args_tuple_getitem _ _)))
  show wpAny _ _ (Builtin.Tuple.tupleItemsOf (.ref t) >>= _) _ _ s
  refine wpAny_bind (tupleItemsOf_ ht ?_)
  refine wpAny_bind (wpAny_typeOf hTs ?_)
  rw [if_pos (by decide)]
  refine wpAny_bind (sliceApplied_rev (n := its.toArray.size) hs ?_)
  have hno : ¬ ((((its.toArray.size : Int) - 1) == 0 && (-1 : Int) == 1 && its.toArray.size == its.toArray.size) = true) := by
    intro q
    rw [Bool.and_eq_true, Bool.and_eq_true] at q
    exact absurd q.1.2 (by decide)
  show wpAny _ _ (if (((its.toArray.size : Int) - 1) == 0 && (-1 : Int) == 1 && its.toArray.size == its.toArray.size) = true then _ else _) _ _ s
  rw [if_neg hno, List.size_toArray, rev_pick]
  first
    | exact wpAny_bind (m := Builtin.Tuple.tupleExact _) (wpAny_newObj_type (wpAny_pure ⟨_, rfl, wpAny_pure h⟩) htake)
    | exact wpAny_bind (m := Builtin.Tuple.tupleExact _) (wpAny_newObj_type (wpAny_bind (wpAny_pure (wpAny_pure ⟨_, rfl, wpAny_pure h⟩))) htake)
    | exact wpAny_bind (wpAny_bind (m := Builtin.Tuple.tupleExact _) (wpAny_newObj_type (wpAny_pure (wpAny_pure ⟨_, rfl, wpAny_pure h⟩)) htake))
    | exact wpAny_bind (wpAny_bind (m := Builtin.Tuple.tupleExact _) (wpAny_newObj_type (wpAny_pure ⟨_, rfl, wpAny_pure h⟩) htake))
theorem vals_rev {xs : List V} {us : List Value} (r : Vals xs us) : Vals xs.reverse us.reverse := by
  have app : ∀ {a c : List V} {b d : List Value}, Vals a b → Vals c d → Vals (a ++ c) (b ++ d) := by
    intro a c b d h1 h2
    induction h1 with
    | nil => exact h2
    | cons r rr ih => exact .cons r ih
  induction r with
  | nil => exact .nil
  | cons r rr ih =>
    rw [List.reverse_cons, List.reverse_cons]
    exact app ih (.cons r .nil)
def tRev (K : PySem.W.Frag) (te ts : TE) : TE := fun σ H Q => te σ H fun x H1 => ts σ H1 fun y H2 => y = .int (-1) ∧ ∃ a xs, x = .ref a ∧ SqT K H2 a xs ∧ ∀ p, H2 p = none → Q (.ref p) (upd H2 p (.tup xs.reverse))
theorem pe_rev {X : Cx} {e es : Expr} {te ts : TE} {pos p2 : Pos} (he : PE X e te) (hs : PE X es ts) : PE X (.Subscript e (.Slice none none (some es) p2) pos) (tRev X.K te ts) := by
  refine ⟨fun pins s σ H Q I h => ?_⟩
  refine Subscript_ (thn (he.run pins s σ H _ I h) fun v s1 ⟨x, H1, I1, r1, q1⟩ => ?_)
  refine wpAny_Slice ?_
  rw [evalPart_none]
  refine wpAny_pure ?_
  refine wpAny_pure ?_
  rw [evalPart_some]
  refine thn (hs.run pins s1 σ H1 _ I1 q1) fun u s3 ⟨y, H3, I3, r3, q3⟩ => ?_
  obtain ⟨rfl, a, xs, rfl, hx, q⟩ := q3
  obtain ⟨t, rfl⟩ := r3
  cases r1
  have I4 : Inv X pins σ H3 { s3 with heap := s3.heap.push { cls := .type "slice", data := .fields #[.none, .none, .int (-1) t] } } := I3.kept (t' := s3.toks) fun b ob q => Heap.get?_push_of_some _ q
  obtain ⟨its, r, ht, hz⟩ := I4.tuple hx
  show wpAny (model X.prog X.w) X.A (subscriptTail e (.Slice none none (some es) p2) (.ref a) (.ref s3.heap.objs.size)) (EP X pins σ Q) X.xe { s3 with heap := s3.heap.push { cls := .type "slice", data := .fields #[.none, .none, .int (-1) t] } }
  refine tail_any (ops := [.ref a, .ref s3.heap.objs.size]) (T := "tuple") ht.typeIs PyProof.Rows.slot_tuple_getitem.lookup ?_ (by with_unfolding_all rfl)
  refine getItem_rev ht (Heap.IsSliceOf.new ..) ?_ (by rw [← r.length]; exact hz)
  refine ⟨.ref _, _, I4.laid (t' := s3.toks) (o := .tup xs.reverse) (fun b ob q => Heap.get?_push_of_some _ q) (Nat.le_refl _) ?_, rfl, q _ (I4.hok.fresh (Nat.le_refl _))⟩
  exact ⟨by rw [List.length_reverse]; exact hz, _, vals_rev r, IsTup.new _ _⟩
end FR
namespace FR
open PySem PySem.Spec PyProof.Rows L2
/-! ### folk: purses in a tuple -/
def pursesD (n : Nat) : PyData → Bool
  | .tuple ds => decide (1 ≤ ds.length) && decide (ds.length ≤ 8) && ds.all (purseD n)
  | _ => false
inductive Pss (K : PySem.W.Frag) (H : Hp) : List Addr → List (Int × List Int) → Prop
  | nil : Pss K H [] []
  | cons {a : Addr} {as : List Addr} {p : Int × List Int} {ps : List (Int × List Int)} : Purse K H a p.1 p.2 → Pss K H as ps → Pss K H (a :: as) (p :: ps)
theorem Pss.kp {K : PySem.W.Frag} {H H' : Hp} (k : Kp H H') {as : List Addr} {ps : List (Int × List Int)} (h : Pss K H as ps) : Pss K H' as ps := by
  induction h with
  | nil => exact .nil
  | cons h1 _ ih => exact .cons (h1.kp k) ih
theorem Pss.same {K : PySem.W.Frag} {H H' : Hp} (k : Same H H') {as : List Addr} {ps : List (Int × List Int)} (h : Pss K H as ps) : Pss K H' as ps := h.kp (.of k)
theorem Pss.len {K : PySem.W.Frag} {H : Hp} {as : List Addr} {ps : List (Int × List Int)} (h : Pss K H as ps) : as.length = ps.length := by
  induction h with
  | nil => rfl
  | cons _ _ ih => exact congrArg (· + 1) ih
theorem Pss.get {K : PySem.W.Frag} {H : Hp} {as : List Addr} {ps : List (Int × List Int)} (h : Pss K H as ps) : ∀ {i : Nat} {a : Addr}, as[i]? = some a → ∃ p, ps[i]? = some p ∧ Purse K H a p.1 p.2 := by
  induction h with
  | nil => intro i a e; simp at e
  | cons h1 _ ih =>
    intro i a e
    match i, e with
    | 0, e =>
      cases e
      exact ⟨_, rfl, h1⟩
    | i + 1, e => exact ih e
theorem Pss.app {K : PySem.W.Frag} {H : Hp} {as bs : List Addr} {ps qs : List (Int × List Int)} (h : Pss K H as ps) (h' : Pss K H bs qs) : Pss K H (as ++ bs) (ps ++ qs) := by
  induction h with
  | nil => exact h'
  | cons h1 _ ih => exact .cons h1 ih
theorem Pss.rev {K : PySem.W.Frag} {H : Hp} {as : List Addr} {ps : List (Int × List Int)} (h : Pss K H as ps) : Pss K H as.reverse ps.reverse := by
  induction h with
  | nil => exact .nil
  | cons h1 _ ih =>
    rw [List.reverse_cons, List.reverse_cons]
    exact ih.app (.cons h1 .nil)
theorem Pss.take {K : PySem.W.Frag} {H : Hp} {as : List Addr} {ps : List (Int × List Int)} (h : Pss K H as ps) : ∀ n : Nat, Pss K H (as.take n) (ps.take n) := by
  induction h with
  | nil => intro n; rw [List.take_nil, List.take_nil]; exact .nil
  | cons h1 _ ih =>
    intro n
    match n with
    | 0 => exact .nil
    | n + 1 => exact .cons h1 (ih n)
def purD (p : Int × List Int) : PyData := .tuple [.int p.1, .tuple (p.2.map PyData.int)]
theorem Pss.dp {K : PySem.W.Frag} {H : Hp} {as : List Addr} {ps : List (Int × List Int)} (h : Pss K H as ps) : DpAll K H (as.map V.ref) (ps.map purD) := by
  induction h with
  | nil => exact .nil
  | cons h1 _ ih => exact .cons h1.dp ih
/-- purses within the bounds -/
def Folk (n : Nat) (ps : List (Int × List Int)) : Prop := 1 ≤ ps.length ∧ ps.length ≤ 8 ∧ ∀ p ∈ ps, 0 ≤ p.1 ∧ p.1 ≤ 1000000000000000000 ∧ Stamps n p.2
theorem pursesD_ok {n : Nat} {ps : List (Int × List Int)} (h : Folk n ps) : pursesD n (.tuple (ps.map purD)) = true := by
  obtain ⟨h1, h8, h⟩ := h
  show (decide (1 ≤ (ps.map purD).length) && decide ((ps.map purD).length ≤ 8) && (ps.map purD).all (purseD n)) = true
  rw [List.length_map, decide_eq_true h1, decide_eq_true h8, List.all_map, Bool.true_and, Bool.true_and, List.all_eq_true]
  intro p hp
  obtain ⟨a, b, c⟩ := h p hp
  exact purseD_ok a b c
theorem Folk.good {n : Nat} {ps : List (Int × List Int)} (h : Folk n ps) : GoodP n ps := fun p hp => by
  obtain ⟨a, b, c⟩ := h.2.2 p hp
  exact ⟨a, c.1, fun x hx => (c.2 x hx).1⟩
/-- the sum of one kind's stamps -/
def colS (k : Nat) (ps : List (Int × List Int)) : Int := (ps.map fun p => p.2.getD k 0).sum
theorem tots_get {n k : Nat} (hk : k < n) : ∀ {ps : List (Int × List Int)}, GoodP n ps → (totS n ps)[k]? = some (colS k ps)
  | [], _ => by
    show (List.replicate n (0 : Int))[k]? = some 0
    rw [List.getElem?_replicate, if_pos hk]
  | p :: ps, h => by
    have ih := tots_get hk (ps := ps) (fun q hq => h q (List.mem_cons_of_mem _ hq))
    obtain ⟨_, e, _⟩ := h p List.mem_cons_self
    show (zadd p.2 (totS n ps))[k]? = some (colS k (p :: ps))
    unfold zadd
    rw [List.getElem?_zipWith, ih, List.getElem?_eq_getElem (by omega)]
    unfold colS
    rw [List.map_cons, List.sum_cons, List.getD_eq_getElem?_getD, List.getElem?_eq_getElem (by omega)]
    rfl
theorem tots_eq {n : Nat} {ps : List (Int × List Int)} (h : GoodP n ps) : totS n ps = (List.range n).map fun k => colS k ps := by
  refine List.ext_getElem? fun k => ?_
  by_cases hk : k < n
  · rw [tots_get hk h, List.getElem?_map, List.getElem?_range hk]
    rfl
  · rw [List.getElem?_eq_none (by rw [(tot_ok h).2.1]; omega), List.getElem?_eq_none (by rw [List.length_map, List.length_range]; omega)]
end FR
namespace FR
open PySem PySem.Spec PyProof.Rows L2
theorem totS_rev {n : Nat} {ps : List (Int × List Int)} (h : GoodP n ps) : totS n ps.reverse = totS n ps := by
  rw [tots_eq h, tots_eq (good_rev h)]
  refine List.map_congr_left fun k _ => ?_
  unfold colS
  rw [List.map_reverse, sum_rev]
def ApartV (cs : List Int) (ps : List (Int × List Int)) (v : V) : Prop := (v = .non ∧ ∃ p ∈ ps, Never cs p.1 p.2) ∨ ∃ ts, v = .int ts.sum ∧ Each cs ps ts
theorem apart_unique {cs : List Int} {ps : List (Int × List Int)} {v w : V} (h : ApartV cs ps v) (h' : ApartV cs ps w) : v = w := by
  rcases h with ⟨rfl, p, hp, hn⟩ | ⟨ts, rfl, he⟩
  · rcases h' with ⟨rfl, _⟩ | ⟨ts, rfl, he⟩
    · rfl
    · obtain ⟨t, ht⟩ := each_mem he hp
      exact (least_never ht hn).elim
  · rcases h' with ⟨rfl, p, hp, hn⟩ | ⟨ts', rfl, he'⟩
    · obtain ⟨t, ht⟩ := each_mem he hp
      exact (least_never ht hn).elim
    · rw [each_unique he he']
theorem apart_rev {cs : List Int} {ps : List (Int × List Int)} {v : V} (h : ApartV cs ps v) : ApartV cs ps.reverse v := by
  rcases h with ⟨rfl, p, hp, hn⟩ | ⟨ts, rfl, he⟩
  · exact .inl ⟨rfl, p, List.mem_reverse.mpr hp, hn⟩
  · exact .inr ⟨ts.reverse, by rw [sum_rev], each_rev he⟩
theorem told_unique {cs ss : List Int} {r : Int} {v w : V} (h : ToldV cs r ss v) (h' : ToldV cs r ss w) : v = w := by
  match w, h' with
  | .non, h' => exact told_never h h'
  | .int t, h' => exact told_least h h'
/-- what is told of each -/
inductive Tolds (cs : List Int) : List (Int × List Int) → List V → Prop
  | nil : Tolds cs [] []
  | cons {p : Int × List Int} {v : V} {ps : List (Int × List Int)} {vs : List V} : ToldV cs p.1 p.2 v → Tolds cs ps vs → Tolds cs (p :: ps) (v :: vs)
theorem Tolds.snoc {cs : List Int} {ps : List (Int × List Int)} {vs : List V} {p : Int × List Int} {v : V} (h : Tolds cs ps vs) (h' : ToldV cs p.1 p.2 v) : Tolds cs (ps ++ [p]) (vs ++ [v]) := by
  induction h with
  | nil => exact .cons h' .nil
  | cons h1 _ ih => exact .cons h1 ih
theorem Tolds.len {cs : List Int} {ps : List (Int × List Int)} {vs : List V} (h : Tolds cs ps vs) : vs.length = ps.length := by
  induction h with
  | nil => rfl
  | cons _ _ ih => exact congrArg (· + 1) ih
/-- all are numbers, or somebody's never end -/
theorem Tolds.split {cs : List Int} {ps : List (Int × List Int)} {vs : List V} (h : Tolds cs ps vs) : (∃ ts, vs = ts.map V.int ∧ Each cs ps ts) ∨ (V.non ∈ vs ∧ ∃ p ∈ ps, Never cs p.1 p.2) := by
  induction h with
  | nil => exact .inl ⟨[], rfl, .nil⟩
  | @cons p v ps vs h1 h2 ih =>
    match v, h1 with
    | .non, h1 => exact .inr ⟨List.mem_cons_self, p, List.mem_cons_self, h1⟩
    | .int t, h1 =>
      rcases ih with ⟨ts, rfl, he⟩ | ⟨hm, q, hq, hn⟩
      · exact .inl ⟨t :: ts, rfl, .cons h1 he⟩
      · exact .inr ⟨List.mem_cons_of_mem _ hm, q, List.mem_cons_of_mem _ hq, hn⟩
theorem Tolds.flat {cs : List Int} {ps : List (Int × List Int)} {vs : List V} (h : Tolds cs ps vs) : vs.all flatV = true := by
  induction h with
  | nil => rfl
  | @cons p v ps vs h1 h2 ih =>
    rw [List.all_cons, ih, Bool.and_true]
    match v, h1 with
    | .non, _ => rfl
    | .int t, _ => rfl
end FR
namespace FR
open PySem PySem.Spec PyProof.Rows L2
theorem sqT_updL {K : PySem.W.Frag} {H : Hp} {a D : Addr} {xs ys : List V} {o : HO} (h : SqT K H a xs) (e : H D = some (.lst ys)) : SqT K (upd H D o) a xs := by
  rcases h with (h | ⟨ob, h⟩) | h
  · exact .inl (.inl (by rw [upd_ne (ne_of h e (fun z => nomatch z))]; exact h))
  · exact .inl (.inr ⟨ob, by rw [upd_ne (ne_of h e (fun z => nomatch z))]; exact h⟩)
  · exact .inr h
theorem Purse.upd {K : PySem.W.Frag} {H : Hp} {a D : Addr} {r : Int} {ss : List Int} {ys : List V} {o : HO} (h : Purse K H a r ss) (e : H D = some (.lst ys)) : Purse K (L2.upd H D o) a r ss := by
  obtain ⟨s, h1, h2⟩ := h
  exact ⟨s, sqT_updL h1 e, sqT_updL h2 e⟩
theorem Pss.upd {K : PySem.W.Frag} {H : Hp} {D : Addr} {ys : List V} {o : HO} (e : H D = some (.lst ys)) {as : List Addr} {ps : List (Int × List Int)} (h : Pss K H as ps) : Pss K (L2.upd H D o) as ps := by
  induction h with
  | nil => exact .nil
  | cons h1 _ ih => exact .cons (h1.upd e) ih
theorem inV_ints (ts : List Int) : inV .non (ts.map V.int) = false := by
  unfold inV
  rw [List.any_map, List.any_eq_false]
  intro x _ h
  exact nomatch h
theorem inV_mem {es : List V} (h : V.non ∈ es) : inV .non es = true := by
  unfold inV
  rw [List.any_eq_true]
  exact ⟨.non, h, rfl⟩
theorem get_refA {as : List Addr} {i : Nat} {x : V} (hi : (as.map V.ref)[i]? = some x) : ∃ a, as[i]? = some a ∧ x = .ref a := by
  rw [List.getElem?_map] at hi
  cases z : as[i]? with
  | none => rw [z] at hi; exact nomatch hi
  | some a => rw [z] at hi; exact ⟨a, rfl, (Option.some.inj hi).symm⟩
theorem cut_first (xs : List V) : cutV xs none (some 1) = xs.take 1 := by
  unfold cutV
  rw [HT.sIx_none, show (some (1 : Int)) = some ((1 : Nat) : Int) from rfl, HT.sIx_nat, List.drop_zero, Nat.sub_zero]
  match xs with
  | [] => rfl
  | x :: r =>
    rw [Nat.min_eq_left (by rw [List.length_cons]; omega)]
theorem each_get {cs : List Int} : ∀ {ps : List (Int × List Int)} {ts : List Int} {i : Nat} {p : Int × List Int}, Each cs ps ts → ps[i]? = some p → ∃ t, ts[i]? = some t ∧ Least cs p.1 p.2 t
  | q :: ps, t :: ts, 0, p, .cons h _, e => by
    cases e
    exact ⟨t, rfl, h⟩
  | q :: ps, t :: ts, i + 1, p, .cons _ h, e => each_get (i := i) h e
theorem Folk.rev {n : Nat} {ps : List (Int × List Int)} (h : Folk n ps) : Folk n ps.reverse := by
  obtain ⟨h1, h2, h3⟩ := h
  exact ⟨by rw [List.length_reverse]; exact h1, by rw [List.length_reverse]; exact h2, fun p hp => h3 p (List.mem_reverse.mp hp)⟩
theorem zadd_get {xs ys : List Int} {i : Nat} {x y : Int} (h1 : xs[i]? = some x) (h2 : ys[i]? = some y) : (zadd xs ys)[i]? = some (x + y) := by
  unfold zadd
  rw [List.getElem?_zipWith, h1, h2]
theorem least_45 : Least [4] 4 [0] 5 := ⟨by decide, by decide, fun m h0 h1 => by rw [fc_one]; omega⟩
theorem least_43 : Least [4] 3 [0] 3 := ⟨by decide, by decide, fun m h0 h1 => by rw [fc_one]; omega⟩
theorem least_41 : Least [4] 1 [0] 1 := ⟨by decide, by decide, fun m h0 h1 => by rw [fc_one]; omega⟩
end FR
namespace FR
open PySem PySem.Spec PyProof.Rows L2
theorem rep_zero : ∀ n : Nat, (List.replicate n [V.int 0]).flatten = (List.replicate n (0 : Int)).map V.int
  | 0 => rfl
  | n + 1 => by
    rw [List.replicate_succ, List.flatten_cons, rep_zero n, List.replicate_succ, List.map_cons]
    rfl
theorem scal_told {cs ss : List Int} {r : Int} {v : V} (h : ToldV cs r ss v) : scal v v = true := by
  match v, h with
  | .non, _ => rfl
  | .int t, _ => rfl
theorem scal_apart {cs : List Int} {ps : List (Int × List Int)} {v : V} (h : ApartV cs ps v) : scal v v = true := by
  rcases h with ⟨rfl, _⟩ | ⟨ts, rfl, _⟩ <;> rfl
theorem Folk.one {n : Nat} {p : Int × List Int} {ps : List (Int × List Int)} (h : Folk n (p :: ps)) : Folk n [p] := ⟨Nat.le_refl 1, by show 1 ≤ 8; omega, fun q hq => by
  rw [List.mem_singleton.mp hq]
  exact h.2.2 p List.mem_cons_self⟩
theorem tot_one {n : Nat} {p : Int × List Int} (h : p.2.length = n) : totR [p] = p.1 ∧ totS n [p] = p.2 := by
  refine ⟨by unfold totR; simp, ?_⟩
  show zadd p.2 (List.replicate n 0) = p.2
  rw [← h, zadd_zero]
theorem apart_one {cs : List Int} {p : Int × List Int} {v w : V} (h : ToldV cs p.1 p.2 v) (h' : ApartV cs [p] w) : w = v := by
  refine apart_unique h' ?_
  match v, h with
  | .non, h => exact .inl ⟨rfl, p, List.mem_singleton.mpr rfl, h⟩
  | .int t, h => exact .inr ⟨[t], by simp, .cons h .nil⟩
theorem told_cases {cs ss : List Int} {r : Int} {v : V} (h : ToldV cs r ss v) : (v = .non ∧ Never cs r ss) ∨ ∃ t, v = .int t ∧ Least cs r ss t := by
  match v, h with
  | .non, h => exact .inl ⟨rfl, h⟩
  | .int t, h => exact .inr ⟨t, rfl, h⟩
end FR
namespace FR
open PySem PySem.Spec PyProof.Rows L2
/-! ### t * 1 is t itself -/
theorem tuple_mul1 (l : Addr) (items : Array Value) (n : Nat) (dd : Option Addr) (sl : Array (Option Value)) (u : Tok) :
    Meets (Builtin.«tuple.__mul__» ⟨[.ref l, .int 1 u], []⟩) (fun _ R s => s.heap.get? l = some { cls := .type "tuple", dict := dd, data := .seq items n, slots := sl } ∧ R (.ok (.ret (Value.ref l))) s) :=
  .of_wp fun prog w A R s h => by
    obtain ⟨hp, g, d, tk, os⟩ := s
    obtain ⟨hl, h⟩ := h
    have f1 := AutoSeq1.idx_int
    have c1 : (items.isEmpty || (1 : Int) == 1) = true := by rw [Bool.or_eq_true]; exact .inr rfl
    wp_walk using wpAny_loadPart' hl
    repeat (first
      | (refine wpAny_ite_true (decide_eq_true c1) ?_; wp_walk using wpAny_loadPart' hl))
    exact ⟨_, rfl, h⟩
end FR
namespace FR
open PySem PySem.Spec PyProof.Rows L2
def rRepA (K : PySem.W.Frag) : R2 := fun x y H Q => ∃ l k xs, x = .ref l ∧ y = .int k ∧ SqT K H l xs ∧ xs ≠ [] ∧ 1 ≤ k ∧ k ≤ 1000 ∧ xs.length ≤ 1000 ∧ ∀ p H', Same H H' → SqT K H' p (List.replicate k.toNat xs).flatten → Q (.ref p) H'
theorem op_repA {X : Cx} : OpR X (binaryOp .Mult) (rRepA X.K) := by
  intro pins s σ H x y v u Q I rx ry h
  obtain ⟨l, k, xs, rfl, rfl, hT, hne, h1, h2, hz, q⟩ := h
  by_cases hk : k = 1
  · subst hk
    cases rx
    obtain ⟨t, rfl⟩ := ry
    obtain ⟨its, r, ⟨⟨cls, dd, data, sl⟩, ho, hc, n, hd⟩, hs⟩ := I.tuple hT
    simp only at hc hd
    subst hc hd
    have e : (List.replicate (1 : Int).toNat xs).flatten = xs := by
      show (List.replicate 1 xs).flatten = xs
      simp
    refine wpAny_binaryOp_repeat_ref (T := "tuple") (U := "int") (by decide) ⟨_, ho, rfl⟩ (fun s' => typeIs_int s' 1 t) noFill_tuple_mul F.fills_int_mul F.slot_int_rmul repeat_tuple F.slot_int_index.lookup
      (call_meets F.slot_int_rmul (typeIs_int s 1 t) F.entry_int_rmul (F.args_int_rmul_2 _ _) (int_rmul_tuple 1 t l its.toArray n dd sl)
        ⟨ho, rfl, ⟨_, ho, rfl⟩, call_meets F.slot_tuple_mul ⟨_, ho, rfl⟩ F.entry_tuple_mul (F.args_tuple_mul_2 _ _) (tuple_mul1 l its.toArray n dd sl t) ⟨ho, ?_⟩⟩)
    exact ⟨.ref l, H, I, rfl, q l H (.refl H) (by rw [e]; exact hT)⟩
  · exact op_repT pins s σ H _ _ v u Q I rx ry ⟨l, k, xs, rfl, rfl, hT, hne, by omega, h2, hz, fun p np => q p _ (same_upd np) (SqT.of upd_same)⟩
theorem op_repAK (K : PySem.W.Frag) {X : Cx} (h : X.K = K := by rfl) : OpR X (binaryOp .Mult) (rRepA K) := h ▸ op_repA
theorem rep_zeros {K : PySem.W.Frag} {H : Hp} {p : Addr} {n : Nat} (h : SqT K H p (List.replicate (n : Int).toNat [V.int 0]).flatten) : SqT K H p ((List.replicate n (0 : Int)).map V.int) := by
  rw [← rep_zero]
  exact h
/-! ### tuples of numbers in a list -/
inductive Tps (K : PySem.W.Frag) (H : Hp) : List Addr → List (List Int) → Prop
  | nil : Tps K H [] []
  | cons {a : Addr} {as : List Addr} {c : List Int} {css : List (List Int)} : SqT K H a (c.map V.int) → Tps K H as css → Tps K H (a :: as) (c :: css)
theorem Tps.same {K : PySem.W.Frag} {H H' : Hp} (k : Same H H') {as : List Addr} {css : List (List Int)} (h : Tps K H as css) : Tps K H' as css := by
  induction h with
  | nil => exact .nil
  | cons h1 _ ih => exact .cons (Same.seqT k h1) ih
theorem Tps.upd {K : PySem.W.Frag} {H : Hp} {D : Addr} {ys : List V} {o : HO} (e : H D = some (.lst ys)) {as : List Addr} {css : List (List Int)} (h : Tps K H as css) : Tps K (L2.upd H D o) as css := by
  induction h with
  | nil => exact .nil
  | cons h1 _ ih => exact .cons (sqT_updL h1 e) ih
theorem Tps.len {K : PySem.W.Frag} {H : Hp} {as : List Addr} {css : List (List Int)} (h : Tps K H as css) : as.length = css.length := by
  induction h with
  | nil => rfl
  | cons _ _ ih => exact congrArg (· + 1) ih
theorem Tps.app {K : PySem.W.Frag} {H : Hp} {as bs : List Addr} {css dss : List (List Int)} (h : Tps K H as css) (h' : Tps K H bs dss) : Tps K H (as ++ bs) (css ++ dss) := by
  induction h with
  | nil => exact h'
  | cons h1 _ ih => exact .cons h1 ih
theorem Tps.get {K : PySem.W.Frag} {H : Hp} {as : List Addr} {css : List (List Int)} (h : Tps K H as css) : ∀ {i : Nat} {a : Addr}, as[i]? = some a → ∃ c, css[i]? = some c ∧ SqT K H a (c.map V.int) := by
  induction h with
  | nil => intro i a e; simp at e
  | cons h1 _ ih =>
    intro i a e
    match i, e with
    | 0, e =>
      cases e
      exact ⟨_, rfl, h1⟩
    | i + 1, e => exact ih e
def csD (css : List (List Int)) : List PyData := css.map fun c => .tuple (c.map PyData.int)
theorem Tps.dp {K : PySem.W.Frag} {H : Hp} {as : List Addr} {css : List (List Int)} (h : Tps K H as css) : DpAll K H (as.map V.ref) (csD css) := by
  induction h with
  | nil => exact .nil
  | cons h1 _ ih => exact .cons (.tup h1 (dp_ints _)) ih
theorem csD_lay : ∀ css : List (List Int), PyData.canLayAll0 (csD css) = true
  | [] => by simp [csD, PyData.canLayAll0]
  | c :: css => by
    show PyData.canLayAll0 (.tuple (c.map PyData.int) :: csD css) = true
    simp [PyData.canLayAll0, PyData.canLay0, lay_ints, csD_lay css]
theorem csD_deep : ∀ css : List (List Int), PyData.depthAll (csD css) ≤ 1
  | [] => by simp [csD, PyData.depthAll]
  | c :: css => by
    show PyData.depthAll (.tuple (c.map PyData.int) :: csD css) ≤ 1
    have := csD_deep css
    simp only [PyData.depthAll, PyData.depth, deep_ints]
    omega
theorem csD_eqv (css : List (List Int)) : PyData.eqv (.list (csD css)) (.list (csD css)) = true := SeqAt.eqv_refl _ (by rw [PyData.canLay0]; exact csD_lay css)
/-! ### all cards that may be told -/
def allC2 (a b : Int) : List (List Int) := (rgI b 13).map fun c => [a, b, c]
def allC1 (a : Int) : List (List Int) := (rgI a 13).flatMap fun b => [a, b] :: allC2 a b
def allC : List (List Int) := (rgI 2 13).flatMap fun a => [a] :: allC1 a
theorem allC_cards : ∀ c ∈ allC, Cards c := by
  intro c hc
  unfold allC at hc
  obtain ⟨a, ha, hc⟩ := List.mem_flatMap.mp hc
  have h1 := rgI_mem ha
  rcases List.mem_cons.mp hc with rfl | hc
  · exact ⟨by show 1 ≤ 1; omega, by show 1 ≤ 3; omega, fun x hx => by rw [List.mem_singleton.mp hx]; omega⟩
  unfold allC1 at hc
  obtain ⟨b, hb, hc⟩ := List.mem_flatMap.mp hc
  have h2 := rgI_mem hb
  rcases List.mem_cons.mp hc with rfl | hc
  · refine ⟨by show 1 ≤ 2; omega, by show 2 ≤ 3; omega, fun x hx => ?_⟩
    simp only [List.mem_cons, List.not_mem_nil, or_false] at hx
    omega
  unfold allC2 at hc
  obtain ⟨d, hd, rfl⟩ := List.mem_map.mp hc
  have h3 := rgI_mem hd
  refine ⟨by show 1 ≤ 3; omega, by show 3 ≤ 3; omega, fun x hx => ?_⟩
  simp only [List.mem_cons, List.not_mem_nil, or_false] at hx
  omega
/-! ### what was seen -/
def hadB : PyData → Bool
  | .none => true
  | h => withinD 0 1000000000000000000 h
def pairD : PyData → Bool
  | .tuple [r, h] => withinD 0 1000 r && hadB h
  | _ => false
def seenD : PyData → Bool
  | .tuple ds => decide (1 ≤ ds.length) && decide (ds.length ≤ 20) && ds.all pairD
  | _ => false
inductive Prs (K : PySem.W.Frag) (H : Hp) : List Addr → List (Int × V) → Prop
  | nil : Prs K H [] []
  | cons {a : Addr} {as : List Addr} {p : Int × V} {ps : List (Int × V)} : SqT K H a [.int p.1, p.2] → Prs K H as ps → Prs K H (a :: as) (p :: ps)
theorem Prs.kp {K : PySem.W.Frag} {H H' : Hp} (k : Kp H H') {as : List Addr} {ps : List (Int × V)} (h : Prs K H as ps) : Prs K H' as ps := by
  induction h with
  | nil => exact .nil
  | cons h1 _ ih => exact .cons (k.tup h1) ih
theorem Prs.same {K : PySem.W.Frag} {H H' : Hp} (k : Same H H') {as : List Addr} {ps : List (Int × V)} (h : Prs K H as ps) : Prs K H' as ps := h.kp (.of k)
theorem Prs.len {K : PySem.W.Frag} {H : Hp} {as : List Addr} {ps : List (Int × V)} (h : Prs K H as ps) : as.length = ps.length := by
  induction h with
  | nil => rfl
  | cons _ _ ih => exact congrArg (· + 1) ih
theorem Prs.get {K : PySem.W.Frag} {H : Hp} {as : List Addr} {ps : List (Int × V)} (h : Prs K H as ps) : ∀ {i : Nat} {a : Addr}, as[i]? = some a → ∃ p, ps[i]? = some p ∧ SqT K H a [.int p.1, p.2] := by
  induction h with
  | nil => intro i a e; simp at e
  | cons h1 _ ih =>
    intro i a e
    match i, e with
    | 0, e =>
      cases e
      exact ⟨_, rfl, h1⟩
    | i + 1, e => exact ih e
theorem Prs.upd {K : PySem.W.Frag} {H : Hp} {D : Addr} {ys : List V} {o : HO} (e : H D = some (.lst ys)) {as : List Addr} {ps : List (Int × V)} (h : Prs K H as ps) : Prs K (L2.upd H D o) as ps := by
  induction h with
  | nil => exact .nil
  | cons h1 _ ih => exact .cons (sqT_updL h1 e) ih
theorem Prs.app {K : PySem.W.Frag} {H : Hp} {as bs : List Addr} {ps qs : List (Int × V)} (h : Prs K H as ps) (h' : Prs K H bs qs) : Prs K H (as ++ bs) (ps ++ qs) := by
  induction h with
  | nil => exact h'
  | cons h1 _ ih => exact .cons h1 ih
def hadD : V → PyData
  | .int t => .int t
  | _ => .none
/-- what can have been seen -/
def SeenOk (ps : List (Int × V)) : Prop := 1 ≤ ps.length ∧ ps.length ≤ 20 ∧ ∀ p ∈ ps, 0 ≤ p.1 ∧ p.1 ≤ 1000 ∧ (p.2 = .non ∨ ∃ t, p.2 = .int t ∧ 0 ≤ t ∧ t ≤ 1000000000000000000)
def sdD (ps : List (Int × V)) : List PyData := ps.map fun p => .tuple [.int p.1, hadD p.2]
theorem Prs.dp {K : PySem.W.Frag} {H : Hp} {as : List Addr} {ps : List (Int × V)} (h : Prs K H as ps) (hs : ∀ p ∈ ps, p.2 = .non ∨ ∃ t, p.2 = .int t) : DpAll K H (as.map V.ref) (sdD ps) := by
  induction h with
  | nil => exact .nil
  | @cons a as p ps h1 _ ih =>
    refine .cons (.tup h1 (.cons (.int _) (.cons ?_ .nil))) (ih fun q hq => hs q (List.mem_cons_of_mem _ hq))
    rcases hs p List.mem_cons_self with e | ⟨t, e⟩
    · rw [e]
      exact .non
    · rw [e]
      exact .int t
theorem seenD_ok {ps : List (Int × V)} (h : SeenOk ps) : seenD (.tuple (sdD ps)) = true := by
  obtain ⟨h1, h2, h3⟩ := h
  show (decide (1 ≤ (sdD ps).length) && decide ((sdD ps).length ≤ 20) && (sdD ps).all pairD) = true
  have el : (sdD ps).length = ps.length := List.length_map ..
  rw [el, decide_eq_true h1, decide_eq_true h2, Bool.true_and, Bool.true_and]
  unfold sdD
  rw [List.all_map, List.all_eq_true]
  intro p hp
  obtain ⟨a, b, c⟩ := h3 p hp
  rcases c with e | ⟨t, e, t0, t1⟩
  · show (withinD 0 1000 (.int p.1) && hadB (hadD p.2)) = true
    rw [e]
    show ((decide (0 ≤ p.1) && decide (p.1 ≤ 1000)) && true) = true
    rw [decide_eq_true a, decide_eq_true b]
    rfl
  · show (withinD 0 1000 (.int p.1) && hadB (hadD p.2)) = true
    rw [e]
    show ((decide (0 ≤ p.1) && decide (p.1 ≤ 1000)) && (decide (0 ≤ t) && decide (t ≤ 1000000000000000000))) = true
    rw [decide_eq_true a, decide_eq_true b, decide_eq_true t0, decide_eq_true t1]
    rfl
/-- the cards fit all that was seen -/
def Fit (cs : List Int) (p : Int × V) : Prop := ToldV cs p.1 (List.replicate cs.length 0) p.2
def FitAll (ps : List (Int × V)) (cs : List Int) : Prop := ∀ p ∈ ps, Fit cs p
noncomputable def fitB (ps : List (Int × V)) (cs : List Int) : Bool := @decide (FitAll ps cs) (Classical.propDecidable _)
theorem fitB_iff {ps : List (Int × V)} {cs : List Int} : fitB ps cs = true ↔ FitAll ps cs := by
  unfold fitB
  exact @decide_eq_true_iff _ (Classical.propDecidable _)
end FR
namespace FR
open PySem PySem.Spec PyProof.Rows L2
theorem rgI_get {a b : Int} {i : Nat} (h : i < (b - a).toNat) : (rgI a b)[i]? = some (a + (i : Int)) := by
  unfold rgI
  rw [List.getElem?_map, List.getElem?_range h]
  rfl
theorem take_flat {α β : Type} {l : List α} {i : Nat} {z : α} (f : α → List β) (h : l[i]? = some z) : (l.take (i + 1)).flatMap f = (l.take i).flatMap f ++ f z := by
  rw [List.take_add_one, h, List.flatMap_append]
  simp
theorem small2000 {n : Nat} (h : n ≤ 2000) : n < sizeLine := Nat.lt_of_le_of_lt h (by decide)
end FR
namespace FR
open PySem PySem.Spec PyProof.Rows L2
theorem csD_shaped (css : List (List Int)) : SeqAt.shaped (.list (csD css)) = true := by
  unfold SeqAt.shaped
  rw [PyData.canLay0, PyData.depth, csD_lay]
  have := csD_deep css
  simp
  omega
theorem fc_ones : ∀ (cs : List Int), (∀ c ∈ cs, (2 : Int) ≤ c) → fc cs (List.replicate cs.length 0) 1 = 0 ∧ fc cs (List.replicate cs.length 0) 0 = 0
  | [], _ => ⟨rfl, rfl⟩
  | c :: cs, h => by
    obtain ⟨a, b⟩ := fc_ones cs (fun x hx => h x (List.mem_cons_of_mem _ hx))
    have c2 := h c List.mem_cons_self
    show (0 + 1) / c + fc cs (List.replicate cs.length 0) 1 = 0 ∧ (0 + 0) / c + fc cs (List.replicate cs.length 0) 0 = 0
    rw [a, b]
    have e1 : ((0 : Int) + 1) / c = 0 := Int.ediv_eq_zero_of_lt (by omega) (by omega)
    have e2 : ((0 : Int) + 0) / c = 0 := Int.ediv_eq_zero_of_lt (by omega) (by omega)
    omega
theorem one_one {cs : List Int} (hK : Cards cs) : Least cs 1 (List.replicate cs.length 0) 1 := by
  obtain ⟨a, b⟩ := fc_ones cs fun c h => (hK.2.2 c h).1
  refine ⟨by omega, by omega, fun m m0 m1 => ?_⟩
  have e : m = 0 := by omega
  rw [e]
  omega
def endB (cs : List Int) (r : Nat) : Bool := decide (perOf cs ≤ pq (perOf cs) cs) && (List.range (perOf cs).toNat).all fun m => decide ((m : Int) < (r : Int) + fc cs (List.replicate cs.length 0) (m : Int))
theorem zeros_ok (n : Nat) : (List.replicate n (0 : Int)).length = n ∧ ∀ x ∈ List.replicate n (0 : Int), (0 : Int) ≤ x := ⟨List.length_replicate, fun x hx => by rw [(List.mem_replicate.mp hx).2]; omega⟩
theorem endB_iff {cs : List Int} {r : Nat} (hK : Cards cs) : endB cs r = true ↔ Never cs (r : Int) (List.replicate cs.length 0) := by
  obtain ⟨z1, z2⟩ := zeros_ok cs.length
  unfold endB
  rw [Bool.and_eq_true, decide_eq_true_eq, List.all_eq_true]
  constructor
  · rintro ⟨h1, h2⟩
    refine never_of hK z1.symm h1 fun m m0 m1 => ?_
    have := of_decide_eq_true (h2 m.toNat (List.mem_range.mpr (by omega)))
    rw [show ((m.toNat : Nat) : Int) = m by omega] at this
    exact this
  · intro h
    refine ⟨?_, fun m _ => decide_eq_true (h m (by omega))⟩
    by_cases z : perOf cs ≤ pq (perOf cs) cs
    · exact z
    · exact (wears_ends hK z1.symm z2 (by omega) (by omega) h).elim
def twosL : List (List Int) := [[2, 2]] ++ (rgI 2 13).map (fun m => [2, 2, m]) ++ [[2, 3, 3], [2, 3, 4], [2, 3, 5]]
theorem fits_twos : allC.filter (fitB [(1, .int 1), (2, .non)]) = twosL := by
  have e : allC.filter (fitB [(1, .int 1), (2, .non)]) = allC.filter fun c => endB c 2 := by
    refine List.filter_congr fun c hc => ?_
    have hK := allC_cards c hc
    rw [Bool.eq_iff_iff, fitB_iff, endB_iff hK]
    constructor
    · intro h
      exact h (2, .non) (by simp)
    · intro h p hp
      simp only [List.mem_cons, List.not_mem_nil, or_false] at hp
      rcases hp with rfl | rfl
      · exact one_one hK
      · exact h
  rw [e]
  decide +kernel
end FR
namespace FR
open PySem PySem.Spec PyProof.Rows L2
/-! ### a class of the program: its methods, its making -/
structure KeptT (K : PySem.W.Frag) (mg : Str → Option Value) (C : Addr) : Prop where
  cl : Cls K C
  nC : NoAttr K C "cards"
  nS : NoAttr K C "states"
  g : mg "Kept" = some (.ref C)
structure MDef (P : Program) (w : World) (K : PySem.W.Frag) (mg : Str → Option Value) (base : Heap) (C : Addr) (m : Str) (k : Nat) (ps : List Str) (sp : Sp) : Prop where
  ex : ∃ f fd, FnOk P w K mg base CX0 k f fd ps sp ∧ Meth K C m f ∧ Binds K fd ps []
structure KMk (P : Program) (w : World) (K : PySem.W.Frag) (mg : Str → Option Value) (base : Heap) (C : Addr) (k : Nat) (ps : List Str) (sp : Sp) : Prop where
  ex : ∃ f fd, Mk K C f ∧ FnOk P w K mg base CX0 k f fd ps sp ∧ Binds K fd ps []
theorem pe_mdef {X : Cx} {pl : Sem Bool} {k j : Nat} {ps : List Str} {sp : Sp} {C : Addr} {m : Str} {apos pos : Pos} {o e : Expr} {es : List Expr} {ta : TE} {t : TA} (T : KeptT X.K X.mg C) (D : MDef X.prog X.w X.K X.mg X.base C m k ps sp) (hr : Room j X.A) (ho : PE X o ta) (ha : PA X (e :: es) t) (hl : k ≤ j := by decide)
    (he : starEach (e :: es) X.env = (false, eval e X.env) :: starEach es X.env := by rfl) (hpl : (backTo pos (starEach es X.env)).any (·.1) = false := by rfl)
    (ht : eval (.Call (.Attribute o m apos) (e :: es) [] pos) X.env = (do
      let ov ← eval o X.env
      standAt apos.atName
      let (f, first) ← holding [ov] (getMethod ov m pl)
      callWith pos f first (backTo pos (starEach (e :: es) X.env)) (backToKw pos (keywordEach [] X.env))) := by rfl) :
    PE X (.Call (.Attribute o m apos) (e :: es) [] pos) (tMeth C m sp [] E0 ta t) := by
  obtain ⟨f, fd, F, M, b⟩ := D.ex
  exact pe_meth ho T.cl M F (hr.mono hl) b .nil pass0 ha he hpl ht
theorem pe_mdef0 {X : Cx} {pl : Sem Bool} {k j : Nat} {ps : List Str} {sp : Sp} {C : Addr} {m : Str} {apos pos : Pos} {o : Expr} {ta : TE} (T : KeptT X.K X.mg C) (D : MDef X.prog X.w X.K X.mg X.base C m k ps sp) (hr : Room j X.A) (ho : PE X o ta) (hl : k ≤ j := by decide)
    (ht : eval (.Call (.Attribute o m apos) [] [] pos) X.env = (do
      let ov ← eval o X.env
      standAt apos.atName
      let (f, first) ← holding [ov] (getMethod ov m pl)
      callWith pos f first (backTo pos (starEach [] X.env)) (backToKw pos (keywordEach [] X.env))) := by rfl) :
    PE X (.Call (.Attribute o m apos) [] [] pos) (tMeth C m sp [] E0 ta tNil) := by
  obtain ⟨f, fd, F, M, b⟩ := D.ex
  exact pe_meth0 ho T.cl M F (hr.mono hl) b .nil pass0 ht
theorem pe_mkdef {X : Cx} {k j : Nat} {ps : List Str} {sp : Sp} {C : Addr} {p pos : Pos} {e : Expr} {es : List Expr} {t : TA} (T : KeptT X.K X.mg C) (D : KMk X.prog X.w X.K X.mg X.base C k ps sp) (hr : Room j X.A) (ha : PA X (e :: es) t) (hg : Gl X "Kept" := by rfl) (hl : k + 1 ≤ j := by decide)
    (he : starEach (e :: es) X.env = (false, eval e X.env) :: starEach es X.env := by rfl) (hpl : (backTo pos (starEach es X.env)).any (·.1) = false := by rfl) :
    PE X (.Call (.Name "Kept" p) (e :: es) [] pos) (tMake C sp [] E0 t) := by
  obtain ⟨f, fd, M, F, b⟩ := D.ex
  exact pe_make M F (hr.mono hl) hg T.g b .nil pass0 ha (by decide) he hpl
/-! ### a kept purse as it stands -/
structure KS where
  r : Int
  ss : List Int
  rd : Int
  ln : Int
def kf (cA sA : Addr) : List (Str × V) := putF "states" (.ref sA) (putF "cards" (.ref cA) [])
theorem kf_ne : ¬ (("cards" : Str) = "states") := by decide +kernel
theorem kf_cards (cA sA : Addr) : (kf cA sA).lookup ("cards" : Str) = some (.ref cA) := by
  unfold kf
  rw [lookup_putF, if_neg kf_ne, lookup_putF, if_pos rfl]
theorem kf_states (cA sA : Addr) : (kf cA sA).lookup ("states" : Str) = some (.ref sA) := by
  unfold kf
  rw [lookup_putF, if_pos rfl]
theorem kf_no (cA sA : Addr) {m : Str} (h1 : ¬ m = "states") (h2 : ¬ m = "cards") : (kf cA sA).lookup m = none := by
  unfold kf
  rw [lookup_putF, if_neg h1, lookup_putF, if_neg h2]
  rfl
inductive Sts (K : PySem.W.Frag) (H : Hp) : List Addr → List KS → Prop
  | nil : Sts K H [] []
  | cons {t pA : Addr} {ts : List Addr} {k : KS} {ks : List KS} : SqT K H t [.ref pA, .int k.rd, .int k.ln] → Purse K H pA k.r k.ss → Sts K H ts ks → Sts K H (t :: ts) (k :: ks)
theorem Sts.kp {K : PySem.W.Frag} {H H' : Hp} (k : Kp H H') {ts : List Addr} {ks : List KS} (h : Sts K H ts ks) : Sts K H' ts ks := by
  induction h with
  | nil => exact .nil
  | cons h1 h2 _ ih => exact .cons (k.tup h1) (h2.kp k) ih
theorem Sts.same {K : PySem.W.Frag} {H H' : Hp} (k : Same H H') {ts : List Addr} {ks : List KS} (h : Sts K H ts ks) : Sts K H' ts ks := h.kp (.of k)
theorem Sts.upd {K : PySem.W.Frag} {H : Hp} {D : Addr} {ys : List V} {o : HO} (e : H D = some (.lst ys)) {ts : List Addr} {ks : List KS} (h : Sts K H ts ks) : Sts K (L2.upd H D o) ts ks := by
  induction h with
  | nil => exact .nil
  | cons h1 h2 _ ih => exact .cons (sqT_updL h1 e) (h2.upd e) ih
theorem Sts.len {K : PySem.W.Frag} {H : Hp} {ts : List Addr} {ks : List KS} (h : Sts K H ts ks) : ts.length = ks.length := by
  induction h with
  | nil => rfl
  | cons _ _ _ ih => exact congrArg (· + 1) ih
theorem Sts.app {K : PySem.W.Frag} {H : Hp} {ts us : List Addr} {ks ls : List KS} (h : Sts K H ts ks) (h' : Sts K H us ls) : Sts K H (ts ++ us) (ks ++ ls) := by
  induction h with
  | nil => exact h'
  | cons h1 h2 _ ih => exact .cons h1 h2 ih
theorem Sts.last {K : PySem.W.Frag} {H : Hp} {ks : List KS} {k : KS} : ∀ {ts : List Addr}, Sts K H ts (ks ++ [k]) → ∃ us t pA, ts = us ++ [t] ∧ Sts K H us ks ∧ SqT K H t [.ref pA, .int k.rd, .int k.ln] ∧ Purse K H pA k.r k.ss := by
  induction ks with
  | nil =>
    intro ts h
    cases h with
    | cons h1 h2 h3 =>
      cases h3
      exact ⟨[], _, _, rfl, .nil, h1, h2⟩
  | cons a ks ih =>
    intro ts h
    cases h with
    | cons h1 h2 h3 =>
      obtain ⟨us, t, pA, rfl, h4, h5, h6⟩ := ih h3
      exact ⟨_ :: us, t, pA, rfl, .cons h1 h2 h4, h5, h6⟩
/-- a kept purse at x, its states' list at sA -/
structure KeptAt (C : Addr) (K : PySem.W.Frag) (H : Hp) (x sA : Addr) (cs : List Int) (ks : List KS) : Prop where
  ob : ∃ dx cA, H x = some (.ins C dx (kf cA sA)) ∧ SqT K H cA (cs.map V.int)
  st : ∃ ts, H sA = some (.lst (ts.map V.ref)) ∧ Sts K H ts ks
/-- all but one place is kept -/
def But (sA : Addr) (H H' : Hp) : Prop := ∀ b o, H b = some o → b ≠ sA → H' b = some o
theorem But.of {sA : Addr} {H H' : Hp} (h : Same H H') : But sA H H' := fun b o e _ => h b o e
theorem But.trans {sA : Addr} {H H1 H2 : Hp} (a : But sA H H1) (b : But sA H1 H2) : But sA H H2 := fun c o e n => b c o (a c o e n) n
theorem But.same {sA : Addr} {H0 H H' : Hp} (s : Same H0 H) (n : H0 sA = none) (b : But sA H H') : Same H0 H' := fun c o e => b c o (s c o e) (ne_of_none e n)
theorem But.kp {sA : Addr} {H0 H H' : Hp} (s : Kp H0 H) (n : H0 sA = none) (b : But sA H H') : Kp H0 H' := by
  refine ⟨fun a o e h => b a o (s.keep a o e h) (ne_of_none e n), fun a d c e => ?_⟩
  obtain ⟨c', e'⟩ := s.bag a d c e
  exact ⟨c', b _ _ e' (ne_of_none e n)⟩
theorem nins {C dx : Addr} {fs : List (Str × V)} : ¬ BagSh (.ins C dx fs) := fun ⟨_, _, e⟩ => nomatch e
theorem KeptAt.kp {C : Addr} {K : PySem.W.Frag} {H H' : Hp} {x sA : Addr} {cs : List Int} {ks : List KS} (h : KeptAt C K H x sA cs ks) (k : Kp H H') : KeptAt C K H' x sA cs ks := by
  obtain ⟨⟨dx, cA, h1, h2⟩, ts, h3, h4⟩ := h
  exact ⟨⟨dx, cA, k.keep _ _ h1 nins, k.tup h2⟩, ts, k.keep _ _ h3 nrefs, h4.kp k⟩
theorem KeptAt.same {C : Addr} {K : PySem.W.Frag} {H H' : Hp} {x sA : Addr} {cs : List Int} {ks : List KS} (h : KeptAt C K H x sA cs ks) (k : Same H H') : KeptAt C K H' x sA cs ks := h.kp (.of k)
/-- the top's state: where it stands -/
theorem KeptAt.top {C : Addr} {K : PySem.W.Frag} {H : Hp} {x sA : Addr} {cs : List Int} {ks : List KS} {k : KS} (h : KeptAt C K H x sA cs (ks ++ [k])) :
    ∃ dx cA us t pA, H x = some (.ins C dx (kf cA sA)) ∧ SqT K H cA (cs.map V.int) ∧ H sA = some (.lst (us.map V.ref ++ [.ref t])) ∧ Sts K H us ks ∧ SqT K H t [.ref pA, .int k.rd, .int k.ln] ∧ Purse K H pA k.r k.ss := by
  obtain ⟨⟨dx, cA, h1, h2⟩, ts, h3, h4⟩ := h
  obtain ⟨us, t, pA, rfl, h5, h6, h7⟩ := h4.last
  rw [List.map_append] at h3
  exact ⟨dx, cA, us, t, pA, h1, h2, h3, h5, h6, h7⟩
/-- one state more -/
theorem KeptAt.push {C : Addr} {K : PySem.W.Frag} {H H1 : Hp} {x sA t : Addr} {cs : List Int} {ks : List KS} {k : KS} {pA : Addr} {ts : List Addr} (h : KeptAt C K H x sA cs ks) (s : Same H H1) (e : H1 sA = some (.lst (ts.map V.ref))) (hS : Sts K H1 ts ks)
    (ht : SqT K H1 t [.ref pA, .int k.rd, .int k.ln]) (hp : Purse K H1 pA k.r k.ss) : KeptAt C K (upd H1 sA (.lst (ts.map V.ref ++ [.ref t]))) x sA cs (ks ++ [k]) := by
  obtain ⟨⟨dx, cA, h1, h2⟩, _⟩ := h
  have h1' := s _ _ h1
  refine ⟨⟨dx, cA, ?_, sqT_updL (Same.seqT s h2) e⟩, ts ++ [t], ?_, ?_⟩
  · rw [upd_ne (ne_of h1' e (fun z => nomatch z))]
    exact h1'
  · rw [upd_same, List.map_append]
    rfl
  · exact (hS.upd e).app (.cons (sqT_updL ht e) (hp.upd e) .nil)
/-! ### the end -/
def MethL (K : PySem.W.Frag) (C : Addr) : List (Str × Str × Stmt) → Prop
  | [] => True
  | (m, q, st) :: r => (∃ f fd, Fun K m q st f fd ∧ Meth K C m f) ∧ MethL K C r
theorem methL_cons {K : PySem.W.Frag} {C : Addr} {m q : Str} {st : Stmt} {r : List (Str × Str × Stmt)} {f : Addr} {od an : Option Addr} {sl : Array (Option Value)} {oc kV dc pm cd ct : Value}
    (a : PySem.W.findIn K (.ref C) m = some (some (.ref f))) (i : PySem.W.isFn K (.ref f) = true) (l1 : K.lookup f = some ⟨oc, od, .func (PySem.W.fnOf m q (defArgs st) (defBody st) (defScope st) .none kV dc pm an cd ct), sl⟩) (c1 : PySem.W.codeIn K cd q = true) (k1 : PySem.W.keepIn K (.ref f) = true) (h : MethL K C r) : MethL K C ((m, q, st) :: r) :=
  ⟨⟨f, _, fun_mk (st := st) l1 c1 k1, ⟨a, i, k1⟩⟩, h⟩
def KeptAll (K : PySem.W.Frag) (mg : Str → Option Value) (ms : List (Str × Str × Stmt)) : Prop := ∃ C, KeptT K mg C ∧ PySem.W.makesIn K C = true ∧ PySem.W.keepIn K (.ref C) = true ∧ MethL K C ms
def KeptAllX {K : PySem.W.Frag} {h : Heap} (_ : K.In h) (mg : Str → Option Value) (ms : List (Str × Str × Stmt)) : Prop := KeptAll K mg ms
theorem keptAll_mk {K : PySem.W.Frag} {h : Heap} {mg : Str → Option Value} {C : Addr} {ms : List (Str × Str × Stmt)} (X : K.In h) (G : h.Ns mainGlobals mg) (aC : PySem.W.nsIn K mainGlobals "Kept" = some (some (.ref C)))
    (pg : PySem.W.plainGet K C Str.empty = true) (hd : PySem.W.hasDictIn K C = true) (po : PySem.W.plainOver K C = true) (sa : PySem.W.findIn K (.ref C) "__setattr__" = some (some (.builtin "object.__setattr__"))) (mk : PySem.W.makesIn K C = true) (kc : PySem.W.keepIn K (.ref C) = true)
    (nC : PySem.W.findIn K (.ref C) "cards" = some none) (nS : PySem.W.findIn K (.ref C) "states" = some none) (ml : MethL K C ms) : KeptAllX X mg ms :=
  ⟨C, ⟨⟨pg, hd, po, sa⟩, nC, nS, PySem.W.mg_of X G aC⟩, mk, kc, ml⟩
theorem mdef_mk {P : Program} {w : World} {K : PySem.W.Frag} {mg : Str → Option Value} {base : Heap} {C : Addr} {m q : Str} {st : Stmt} {k : Nat} {ps : List Str} {sp : Sp} (F : ∃ f fd, Fun K m q st f fd ∧ Meth K C m f) (ok : ∀ f fd, Fun K m q st f fd → FnOk P w K mg base CX0 k f fd ps sp)
    (h : ∀ (kV doc pm : Value) (an : Option Addr) (cdv ct : Value) (us : List Value), us.length = ps.length → bindArgs (PySem.W.fnOf m q (defArgs st) (defBody st) (defScope st) .none kV doc pm an cdv ct) ⟨us, []⟩ = pure (ps.zip us)) : MDef P w K mg base C m k ps sp := by
  obtain ⟨f, fd, F, m⟩ := F
  exact ⟨f, fd, ok f fd F, m, F.binds h⟩
theorem kmk_mk {P : Program} {w : World} {K : PySem.W.Frag} {mg : Str → Option Value} {base : Heap} {C : Addr} {q : Str} {st : Stmt} {k : Nat} {ps : List Str} {sp : Sp} (mk : PySem.W.makesIn K C = true) (kc : PySem.W.keepIn K (.ref C) = true) (F : ∃ f fd, Fun K "__init__" q st f fd ∧ Meth K C "__init__" f) (ok : ∀ f fd, Fun K "__init__" q st f fd → FnOk P w K mg base CX0 k f fd ps sp)
    (h : ∀ (kV doc pm : Value) (an : Option Addr) (cdv ct : Value) (us : List Value), us.length = ps.length → bindArgs (PySem.W.fnOf "__init__" q (defArgs st) (defBody st) (defScope st) .none kV doc pm an cdv ct) ⟨us, []⟩ = pure (ps.zip us)) : KMk P w K mg base C k ps sp := by
  obtain ⟨f, fd, F, m⟩ := F
  exact ⟨f, fd, ⟨mk, m.at_, m.fn, kc⟩, ok f fd F, F.binds h⟩
end FR
namespace FR
open PySem PySem.Spec PyProof.Rows L2
theorem smallM {n : Nat} (h : n ≤ 1000000) : n < sizeLine := Nat.lt_of_le_of_lt h (by decide)
end FR
namespace FR
open PySem PySem.Spec PyProof.Rows L2
/-- a while whose measure the invariant tells -/
theorem while_m {c : TT} {tb : TS} {D : Ends} {σ : L2.St} {H : Hp} (Pv : Nat → L2.St → Hp → Prop) (m0 : Nat) (h0 : Pv m0 σ H)
    (hs : ∀ m σ H, Pv m σ H → c σ H fun b H1 => if b = true then tb { D with nx := fun σ' H' => ∃ m', m' < m ∧ Pv m' σ' H', ct := fun σ' H' => ∃ m', m' < m ∧ Pv m' σ' H', bk := D.nx } σ H1 else D.nx σ H1)
    (mono : ∀ σ H Q Q', (∀ b H1, Q b H1 → Q' b H1) → c σ H Q → c σ H Q') : tWhile c tb D σ H := by
  refine ⟨Pv, ⟨m0, h0⟩, ?_⟩
  intro m σ H p
  refine mono σ H _ _ (fun b H1 q => ?_) (hs m σ H p)
  cases b with
  | true => exact ⟨_, fun σ' H' h => h, q⟩
  | false => exact q
theorem But.sqT {K : PySem.W.Frag} {sA a : Addr} {H H' : Hp} {xs : List V} (b : But sA H H') (n : a ≠ sA) (h : SqT K H a xs) : SqT K H' a xs := by
  rcases h with (h | ⟨o, h⟩) | h
  · exact .inl (.inl (b _ _ h n))
  · exact .inl (.inr ⟨o, b _ _ h n⟩)
  · exact .inr h
end FR
namespace FR
open PySem PySem.Spec PyProof.Rows L2
theorem viaP (R : Hp → Prop) {G : Hp → Prop} {P : Prop} (main : (∀ H', R H' → G H') → P) (rest : ∀ H', R H' → G H') : P := main rest
theorem same_made {H : Hp} {x dx C : Addr} (nx : H x = none) (nd : H dx = none) : Same H (upd (upd H dx (.own x)) x (.ins C dx [])) := fun b o e => by
  rw [upd_ne (ne_of_none e nx), upd_ne (ne_of_none e nd)]
  exact e
theorem KeptAt.but {C : Addr} {K : PySem.W.Frag} {H H' : Hp} {x sA sB : Addr} {cs : List Int} {ks : List KS} {ys : List V} (h : KeptAt C K H x sA cs ks) (b : But sB H H') (n : sA ≠ sB) (e : H sB = some (.lst ys)) : KeptAt C K H' x sA cs ks := by
  have tp : ∀ {a : Addr} {xs : List V}, SqT K H a xs → SqT K H' a xs := fun {a xs} h => by
    rcases h with (h | ⟨ob, h⟩) | h
    · exact .inl (.inl (b _ _ h (ne_of h e (fun z => nomatch z))))
    · exact .inl (.inr ⟨ob, b _ _ h (ne_of h e (fun z => nomatch z))⟩)
    · exact .inr h
  obtain ⟨⟨dx, cA, h1, h2⟩, ts, h3, h4⟩ := h
  refine ⟨⟨dx, cA, b _ _ h1 (ne_of h1 e (fun z => nomatch z)), tp h2⟩, ts, b _ _ h3 n, ?_⟩
  clear h3
  induction h4 with
  | nil => exact .nil
  | cons g1 g2 _ ih =>
    obtain ⟨z, g3, g4⟩ := g2
    exact .cons (tp g1) ⟨z, tp g3, tp g4⟩ ih
theorem KeptAt.lst {C : Addr} {K : PySem.W.Frag} {H : Hp} {x sA : Addr} {cs : List Int} {ks : List KS} (h : KeptAt C K H x sA cs ks) : ∃ ys, H sA = some (.lst ys) := by
  obtain ⟨_, ts, h3, _⟩ := h
  exact ⟨_, h3⟩
end FR
set_option maxHeartbeats 2000000
namespace FR
open PySem PySem.Spec PyProof.Rows L2
/-! ### raise X(e), e of any form -/
theorem pmk_any {X : Cx} {C : Addr} {bmB : List Value} {B newId initId : String} {x : Str} {e : Expr} {ta : TE} {p pos : Pos} (F : ExcBaseFacts B newId initId bmB) (q : PySem.W.excIn X.K C bmB newId = true) (gC : X.mg x = some (.ref C)) (kC : PySem.W.keepIn X.K (.ref C) = true) (r : Raises X (.ref C)) (hg : Gl X x)
    (he : PE X e ta) (hs : starEach [e] X.env = (false, eval e X.env) :: starEach [] X.env := by rfl) (hdb : (x == ("__debug__" : Str)) = false := by decide) :
    L2N.PMk X (.Call (.Name x p) [e] [] pos) (fun σ H Q => ta σ H fun _ H1 => Q (.ref C) none H1) := by
  intro pins s σ H Q I h
  refine wpAny_Call_Name_kw (ld_glob I hg gC ?_ hdb)
  refine PySem.W.callWith_K (h₀ := X.base) I.ok.mod.kin kC ?_ hs (by rfl)
  rw [hs]
  show wpAny _ _ (spliced ((false, eval e X.env) :: backTo pos (starEach [] X.env))) _ _ s
  refine Calls.spliced_cons (thn (he.run pins s σ H _ I h) fun u s1 ⟨v, H1, I1, r1, q1⟩ => ?_)
  refine Calls.spliced_nil ⟨I1.kIn, ?_⟩
  show wpAny _ _ (call (.ref C) [u]) _ _ _
  obtain ⟨bm, N, nm, qn, bs, hdct, sn, sub, ab, col, dd, k0, k1, k2, k3, k5, mN, hC, hN, hni, T⟩ := exc_obj I1.kIn q
  refine wpAny_call_exc_subT F T hC hN hni (fun h' e hm => ?_) (by show 1 ≤ sizeLine; rw [sizeLine_eq]; omega)
  exact L2N.mk_of I1 hm r q1 (I1.hok.gone hm.new)
theorem ps_raiseF {X : Cx} {x : Str} {C : Addr} {W : WX} {e : Expr} {te : TE} {p p3 p4 : Pos} (T : ExcT X.K X.mg x C) (tk : L2N.Takes X W) (he : PE X e te) (hg : Gl X x := by rfl) (hc : X.calm = true := by rfl) (hs : starEach [e] X.env = (false, eval e X.env) :: starEach [] X.env := by rfl) (hdb : (x == ("__debug__" : Str)) = false := by decide) :
    PS X (.Raise (some (.Call (.Name x p) [e] [] p3)) none p4) (fun _ σ H => te σ H fun _ H1 => W (.ref C) none σ H1) :=
  L2N.ps_raise hc tk (pmk_any PySem.F.excBase_ValueError T.ex T.g T.kp (raises_own T.sb T.ty) hg he hs hdb)
/-! ### a class whose making may raise -/
structure KMkX (P : Program) (w : World) (K : PySem.W.Frag) (mg : Str → Option Value) (base : Heap) (C : Addr) (k : Nat) (ps : List Str) (sp : Sp) : Prop where
  ex : ∃ f fd, Mk K C f ∧ FnOk P w K mg base (L2N.CX P w) k f fd ps sp ∧ Binds K fd ps []
theorem pe_mkdefX {X : Cx} {k j : Nat} {ps : List Str} {sp : Sp} {C : Addr} {p pos : Pos} {e : Expr} {es : List Expr} {t : TA} {E : XK} (T : KeptT X.K X.mg C) (D : KMkX X.prog X.w X.K X.mg X.base C k ps sp) (hr : Room j X.A) (tk : L2N.Takes X (fun cls d _ H => E cls d H)) (ha : PA X (e :: es) t) (hg : Gl X "Kept" := by rfl) (hl : k + 1 ≤ j := by decide)
    (he : starEach (e :: es) X.env = (false, eval e X.env) :: starEach es X.env := by rfl) (hpl : (backTo pos (starEach es X.env)).any (·.1) = false := by rfl) :
    PE X (.Call (.Name "Kept" p) (e :: es) [] pos) (tMake C sp [] E t) := by
  obtain ⟨f, fd, M, F, b⟩ := D.ex
  exact pe_make M F (hr.mono hl) hg T.g b .nil (L2N.passes_call tk fun _ _ _ _ h => h) ha (by decide) he hpl
theorem kmkX_mk {P : Program} {w : World} {K : PySem.W.Frag} {mg : Str → Option Value} {base : Heap} {C : Addr} {q : Str} {st : Stmt} {k : Nat} {ps : List Str} {sp : Sp} (mk : PySem.W.makesIn K C = true) (kc : PySem.W.keepIn K (.ref C) = true) (F : ∃ f fd, Fun K "__init__" q st f fd ∧ Meth K C "__init__" f) (ok : ∀ f fd, Fun K "__init__" q st f fd → FnOk P w K mg base (L2N.CX P w) k f fd ps sp)
    (h : ∀ (kV doc pm : Value) (an : Option Addr) (cdv ct : Value) (us : List Value), us.length = ps.length → bindArgs (PySem.W.fnOf "__init__" q (defArgs st) (defBody st) (defScope st) .none kV doc pm an cdv ct) ⟨us, []⟩ = pure (ps.zip us)) : KMkX P w K mg base C k ps sp := by
  obtain ⟨f, fd, F, m⟩ := F
  exact ⟨f, fd, ⟨mk, m.at_, m.fn, kc⟩, ok f fd F, F.binds h⟩
theorem HeldX.mono {P : Program} {w : World} {K : PySem.W.Frag} {mg : Str → Option Value} {base : Heap} {j k : Nat} {f : Addr} {sp : Sp} (h : HeldX P w K mg base j f sp) (l : j ≤ k) : HeldX P w K mg base k f sp := by
  obtain ⟨fd, ps, F, kp, b⟩ := h
  exact ⟨fd, ps, F.mono l, kp, b⟩
/-! ### refusals -/
/-- one refusal is due -/
def RefE (mg : Str → Option Value) (H : Hp) (E : XK) (n : Str) : Prop := ∀ H' C, Same H H' → mg n = some (.ref C) → E (.ref C) none H'
theorem RefE.same {mg : Str → Option Value} {H H1 : Hp} {E : XK} {n : Str} (h : RefE mg H E n) (s : Same H H1) : RefE mg H1 E n := fun H' C s' g => h H' C (s.trans s') g
theorem RefE.mono {mg : Str → Option Value} {H : Hp} {E E' : XK} {n : Str} (h : RefE mg H E n) (i : ∀ c d H', E c d H' → E' c d H') : RefE mg H E' n := fun H' C s g => i _ _ _ (h H' C s g)
/-- cards that are none -/
def NoC (K : PySem.W.Frag) (H : Hp) (x : V) : Prop := ∃ d, Dp K H x d ∧ cardsD d = false
/-- cards that are such -/
def IsC (K : PySem.W.Frag) (H : Hp) (x : V) (cs : List Int) : Prop := ∃ cA, x = .ref cA ∧ SqT K H cA (cs.map V.int) ∧ Cards cs
theorem NoC.same {K : PySem.W.Frag} {H H' : Hp} {x : V} (h : NoC K H x) (s : Same H H') : NoC K H' x := by
  obtain ⟨d, h1, h2⟩ := h
  exact ⟨d, Same.dp s h1, h2⟩
theorem IsC.same {K : PySem.W.Frag} {H H' : Hp} {x : V} {cs : List Int} (h : IsC K H x cs) (s : Same H H') : IsC K H' x cs := by
  obtain ⟨cA, h0, h1, h2⟩ := h
  exact ⟨cA, h0, Same.seqT s h1, h2⟩
/-- no such thing for these cards -/
def NoT (bad : Nat → PyData → Bool) (K : PySem.W.Frag) (H : Hp) (cs : List Int) (y : V) : Prop := ∃ d, Dp K H y d ∧ bad cs.length d = false
theorem NoT.same {bad : Nat → PyData → Bool} {K : PySem.W.Frag} {H H' : Hp} {cs : List Int} {y : V} (h : NoT bad K H cs y) (s : Same H H') : NoT bad K H' cs y := by
  obtain ⟨d, h1, h2⟩ := h
  exact ⟨d, Same.dp s h1, h2⟩
/-- a door of two: refused by its cards, or by its second -/
def door2 (bad : Nat → PyData → Bool) (n : Str) (mg : Str → Option Value) (K : PySem.W.Frag) : Sp := fun vs H _ E => ∃ x y, vs = [x, y] ∧ ((NoC K H x ∧ RefE mg H E "NoCards") ∨ ∃ cs, IsC K H x cs ∧ NoT bad K H cs y ∧ RefE mg H E n)
theorem mono_door2 {bad : Nat → PyData → Bool} {n : Str} {mg : Str → Option Value} {K : PySem.W.Frag} : MonoSp (door2 bad n mg K) := by
  rintro vs H Q Q' E E' ⟨x, y, e, h⟩ _ hx
  rcases h with ⟨h1, h2⟩ | ⟨cs, h1, h2, h3⟩
  · exact ⟨x, y, e, .inl ⟨h1, h2.mono hx⟩⟩
  · exact ⟨x, y, e, .inr ⟨cs, h1, h2, h3.mono hx⟩⟩
/-- a door of three -/
def door3 (bad : Nat → PyData → Bool) (n : Str) (mg : Str → Option Value) (K : PySem.W.Frag) : Sp := fun vs H _ E => ∃ x y z, vs = [x, y, z] ∧ ((NoC K H x ∧ RefE mg H E "NoCards") ∨ ∃ cs, IsC K H x cs ∧ NoT bad K H cs y ∧ RefE mg H E n)
theorem mono_door3 {bad : Nat → PyData → Bool} {n : Str} {mg : Str → Option Value} {K : PySem.W.Frag} : MonoSp (door3 bad n mg K) := by
  rintro vs H Q Q' E E' ⟨x, y, z, e, h⟩ _ hx
  rcases h with ⟨h1, h2⟩ | ⟨cs, h1, h2, h3⟩
  · exact ⟨x, y, z, e, .inl ⟨h1, h2.mono hx⟩⟩
  · exact ⟨x, y, z, e, .inr ⟨cs, h1, h2, h3.mono hx⟩⟩
end FR
namespace FR
open PySem PySem.Spec PyProof.Rows L2
/-- no number -/
def NoN (K : PySem.W.Frag) (H : Hp) (z : V) : Prop := ∃ d, Dp K H z d ∧ withinD 0 1000000000000000000 d = false
/-- a door of three, the third a number: refused by any of them, or answered -/
def door3n (bad : Nat → PyData → Bool) (n : Str) (ok : Hp → List Int → V → Int → Prop) (res : V → Prop) (mg : Str → Option Value) (K : PySem.W.Frag) : Sp := fun vs H Q E => ∃ x y z, vs = [x, y, z] ∧
  ((NoC K H x ∧ RefE mg H E "NoCards") ∨ (∃ cs, IsC K H x cs ∧ NoT bad K H cs y ∧ RefE mg H E n) ∨ ∃ cs, IsC K H x cs ∧ (∃ d, Dp K H y d ∧ bad cs.length d = true) ∧
    ((NoN K H z ∧ RefE mg H E "NoNumber") ∨ ∃ k, z = .int k ∧ 0 ≤ k ∧ k ≤ 1000000000000000000 ∧ ok H cs y k ∧ ∀ v H', Same H H' → res v → Q v H'))
theorem mono_door3n {bad : Nat → PyData → Bool} {n : Str} {ok : Hp → List Int → V → Int → Prop} {res : V → Prop} {mg : Str → Option Value} {K : PySem.W.Frag} : MonoSp (door3n bad n ok res mg K) := by
  rintro vs H Q Q' E E' ⟨x, y, z, e, h⟩ hq hx
  rcases h with ⟨h1, h2⟩ | ⟨cs, h1, h2, h3⟩ | ⟨cs, h1, h2, h3⟩
  · exact ⟨x, y, z, e, .inl ⟨h1, h2.mono hx⟩⟩
  · exact ⟨x, y, z, e, .inr (.inl ⟨cs, h1, h2, h3.mono hx⟩)⟩
  · rcases h3 with ⟨h4, h5⟩ | ⟨k, e1, k0, k1, h4, h5⟩
    · exact ⟨x, y, z, e, .inr (.inr ⟨cs, h1, h2, .inl ⟨h4, h5.mono hx⟩⟩)⟩
    · exact ⟨x, y, z, e, .inr (.inr ⟨cs, h1, h2, .inr ⟨k, e1, k0, k1, h4, fun v H' s r => hq _ _ (h5 v H' s r)⟩⟩)⟩
def okS (K : PySem.W.Frag) : Hp → List Int → V → Int → Prop := fun H cs y _ => ∃ sA ss, y = .ref sA ∧ SqT K H sA (ss.map V.int) ∧ Stamps cs.length ss
def okP (K : PySem.W.Frag) : Hp → List Int → V → Int → Prop := fun H cs y _ => ∃ pA r ss, y = .ref pA ∧ Purse K H pA r ss ∧ Stamps cs.length ss ∧ 0 ≤ r ∧ r ≤ 1000000000000000000
def isI (v : V) : Prop := ∃ n, v = .int n
def anyV (_ : V) : Prop := True
end FR
namespace FR
open PySem PySem.Spec PyProof.Rows L2 LamX
/-! ### three that make lambdas -/
def Apart (a b c : Addr) : Prop := a ≠ b ∧ a ≠ c ∧ b ≠ c
abbrev T_all (a b c : Addr) : List (Addr × Str) := [(a, Str.ofString "_law_by_cards.<locals>." ++ "<lambda>"), (b, Str.ofString "_law_by_purse.<locals>." ++ "<lambda>"), (c, Str.ofString "law.<locals>." ++ "<lambda>")]
theorem one_0 {a b c : Addr} (h : Apart a b c) : ∀ p ∈ T_all a b c, p.1 = a → p.2 = Str.ofString "_law_by_cards.<locals>." ++ "<lambda>" := by
  intro p hp e
  rcases List.mem_cons.mp hp with rfl | hp
  · rfl
  rcases List.mem_cons.mp hp with rfl | hp
  · exact absurd e.symm h.1
  rcases List.mem_cons.mp hp with rfl | hp
  · exact absurd e.symm h.2.1
  · exact nomatch hp
theorem one_1 {a b c : Addr} (h : Apart a b c) : ∀ p ∈ T_all a b c, p.1 = b → p.2 = Str.ofString "_law_by_purse.<locals>." ++ "<lambda>" := by
  intro p hp e
  rcases List.mem_cons.mp hp with rfl | hp
  · exact absurd e h.1
  rcases List.mem_cons.mp hp with rfl | hp
  · rfl
  rcases List.mem_cons.mp hp with rfl | hp
  · exact absurd e.symm h.2.2
  · exact nomatch hp
theorem one_2 {a b c : Addr} (h : Apart a b c) : ∀ p ∈ T_all a b c, p.1 = c → p.2 = Str.ofString "law.<locals>." ++ "<lambda>" := by
  intro p hp e
  rcases List.mem_cons.mp hp with rfl | hp
  · exact absurd e h.2.1
  rcases List.mem_cons.mp hp with rfl | hp
  · exact absurd e h.2.2
  rcases List.mem_cons.mp hp with rfl | hp
  · rfl
  · exact nomatch hp
theorem TabAt.def {P : Program} {w : World} {K : PySem.W.Frag} {mg : Str → Option Value} {base h : Heap} {x : Str} {st : Stmt} {c P0 : Addr} {k : Nat} {ps : List Str} {sp : Sp} (F : TabAt K mg h x st c P0) (ok : ∀ f fd, Fun K x x st f fd → fd.code = .ref c → FnOk P w K mg base CX0 k f fd ps sp)
    (hb : ∀ (kV doc pm : Value) (an : Option Addr) (cdv ct : Value) (us : List Value), us.length = ps.length → bindArgs (PySem.W.fnOf x x (defArgs st) (defBody st) (defScope st) .none kV doc pm an cdv ct) ⟨us, []⟩ = pure (ps.zip us)) : Def P w K mg base x k ps sp := by
  obtain ⟨f, fd, F, m, hc⟩ := F.fn
  exact ⟨f, fd, ok f fd F hc, m, F.kp, F.binds hb⟩
/-! ### words of a refusal -/
theorem kinsh_0 : SeqAt.shaped (.list [.str "NoCards", .bool true]) = true := nocards_shaped
theorem kinsh_1 : SeqAt.shaped (.list [.str "NoPurse", .bool true]) = true := by
  unfold SeqAt.shaped
  rw [PyData.canLay0, PyData.canLayAll0, PyData.canLayAll0, PyData.canLayAll0, PyData.depth, PyData.depthAll, PyData.depthAll, PyData.depthAll, PyData.canLay0, PyData.canLay0, PyData.depth, PyData.depth]
  decide +kernel
theorem kinsh_2 : SeqAt.shaped (.list [.str "NoStamps", .bool true]) = true := by
  unfold SeqAt.shaped
  rw [PyData.canLay0, PyData.canLayAll0, PyData.canLayAll0, PyData.canLayAll0, PyData.depth, PyData.depthAll, PyData.depthAll, PyData.depthAll, PyData.canLay0, PyData.canLay0, PyData.depth, PyData.depth]
  decide +kernel
theorem kinsh_4 : SeqAt.shaped (.list [.str "NoNumber", .bool true]) = true := by
  unfold SeqAt.shaped
  rw [PyData.canLay0, PyData.canLayAll0, PyData.canLayAll0, PyData.canLayAll0, PyData.depth, PyData.depthAll, PyData.depthAll, PyData.depthAll, PyData.canLay0, PyData.canLay0, PyData.depth, PyData.depth]
  decide +kernel
theorem kinsh_5 : SeqAt.shaped (.list [.str "NoPurses", .bool true]) = true := by
  unfold SeqAt.shaped
  rw [PyData.canLay0, PyData.canLayAll0, PyData.canLayAll0, PyData.canLayAll0, PyData.depth, PyData.depthAll, PyData.depthAll, PyData.depthAll, PyData.canLay0, PyData.canLay0, PyData.depth, PyData.depth]
  decide +kernel
theorem sh_eqv {d : PyData} (h : SeqAt.shaped d = true) : PyData.eqv d d = true := SeqAt.eqv_refl _ (by
  have := h
  unfold SeqAt.shaped at this
  exact (Bool.and_eq_true_iff.mp this).1)
/-! ### all but the tables stays -/
theorem NoC.ext {K : PySem.W.Frag} {H H' : Hp} {x : V} (h : NoC K H x) (s : ExtN H H') : NoC K H' x := by
  obtain ⟨d, h1, h2⟩ := h
  exact ⟨d, ext_dp s h1, h2⟩
theorem IsC.ext {K : PySem.W.Frag} {H H' : Hp} {x : V} {cs : List Int} (h : IsC K H x cs) (s : ExtN H H') : IsC K H' x cs := by
  obtain ⟨cA, h0, h1, h2⟩ := h
  exact ⟨cA, h0, ext_seqT s h1, h2⟩
theorem NoT.ext {bad : Nat → PyData → Bool} {K : PySem.W.Frag} {H H' : Hp} {cs : List Int} {y : V} (h : NoT bad K H cs y) (s : ExtN H H') : NoT bad K H' cs y := by
  obtain ⟨d, h1, h2⟩ := h
  exact ⟨d, ext_dp s h1, h2⟩
theorem NoN.ext {K : PySem.W.Frag} {H H' : Hp} {z : V} (h : NoN K H z) (s : ExtN H H') : NoN K H' z := by
  obtain ⟨d, h1, h2⟩ := h
  exact ⟨d, ext_dp s h1, h2⟩
/-! ### the lambda that calls its first -/
def sp_lamA (P : Program) (w : World) (K : PySem.W.Frag) (mg : Str → Option Value) (base : Heap) : Sp := fun vs H Q E => ∃ f x y sp, vs = [.ref f, x, y] ∧ HeldX P w K mg base 11 f sp ∧ MonoSp sp ∧ sp [x, y] H Q E
theorem mono_lamA {P : Program} {w : World} {K : PySem.W.Frag} {mg : Str → Option Value} {base : Heap} : MonoSp (sp_lamA P w K mg base) := by
  rintro vs H Q Q' E E' ⟨f, x, y, sp, e, h, m, q⟩ hq hx
  exact ⟨f, x, y, sp, e, h, m, m _ _ _ _ _ _ q hq hx⟩
/-- what each door of two does with no cards -/
def Dr2 (P : Program) (w : World) (K : PySem.W.Frag) (mg : Str → Option Value) (base : Heap) (n : Str) (x y : V) (G : Hp → Prop) (v : V) : Prop := ∃ f sp, v = .ref f ∧ HeldX P w K mg base 11 f sp ∧ MonoSp sp ∧ ∀ H Q E, G H → RefE mg H E n → sp [x, y] H Q E
def Dr3 (P : Program) (w : World) (K : PySem.W.Frag) (mg : Str → Option Value) (base : Heap) (n : Str) (x y z : V) (G : Hp → Prop) (v : V) : Prop := ∃ f sp, v = .ref f ∧ HeldX P w K mg base 12 f sp ∧ MonoSp sp ∧ ∀ H Q E, G H → RefE mg H E n → sp [x, y, z] H Q E
end FR
namespace FR
open PySem PySem.Spec PyProof.Rows L2 LamX
theorem tabAt_one {K : PySem.W.Frag} {h : Heap} {mg : Str → Option Value} {x : Str} {st : Stmt} {f c P : Addr} {od od2 an : Option Addr} {sl sl2 : Array (Option Value)} {oc oc2 kV dc pm ct : Value} {vs : Array Value} {ts : List Addr} (X : K.In h) (G : h.Ns mainGlobals mg)
    (hT : ∀ P ∈ ts, h.get? P = some (PySem.W.tabObj #[]))
    (a1 : PySem.W.nsIn K mainGlobals x = some (some (.ref f))) (l1 : K.lookup f = some ⟨oc, od, .func (PySem.W.fnOf x x (defArgs st) (defBody st) (defScope st) .none kV dc pm an (.ref c) ct), sl⟩) (c1 : PySem.W.codeIn K (.ref c) x = true) (k1 : PySem.W.keepIn K (.ref f) = true)
    (lc : K.lookup c = some ⟨oc2, od2, .fields vs, sl2⟩) (vP : vs[11]? = some (.ref P)) (hc : PySem.W.codeHdIn K c P = true) (hn : K.lookup P = none) (mem : P ∈ ts) : TabAt K mg h x st c P :=
  ⟨⟨f, _, fun_mk (st := st) l1 c1 k1, PySem.W.mg_of X G a1, rfl⟩, hT P mem, hn, PySem.W.codeHd_of_K X hc⟩
def TabAt3X {K : PySem.W.Frag} {h : Heap} (_ : K.In h) (mg : Str → Option Value) (x1 x2 x3 : Str) (s1 s2 s3 : Stmt) : Prop := ∃ c1 P1 c2 P2 c3 P3, TabAt K mg h x1 s1 c1 P1 ∧ TabAt K mg h x2 s2 c2 P2 ∧ TabAt K mg h x3 s3 c3 P3 ∧ Apart P1 P2 P3
theorem tabAt3_mk {K : PySem.W.Frag} {h : Heap} (X : K.In h) {mg : Str → Option Value} {x1 x2 x3 : Str} {s1 s2 s3 : Stmt} {c1 P1 c2 P2 c3 P3 : Addr} (a : TabAt K mg h x1 s1 c1 P1) (b : TabAt K mg h x2 s2 c2 P2) (c : TabAt K mg h x3 s3 c3 P3) (d1 : P1 ≠ P2) (d2 : P1 ≠ P3) (d3 : P2 ≠ P3) : TabAt3X X mg x1 x2 x3 s1 s2 s3 := ⟨c1, P1, c2, P2, c3, P3, a, b, c, d1, d2, d3⟩
end FR
namespace FR
open PySem PySem.Spec PyProof.Rows L2
def topS (i : Nat) : Stmt := PySem.Challenge.pw_freerides_k14_who_is_refused.main.body.getD i (.Pass ⟨0, 0, 0, 0⟩)
/-! ### is_within -/
abbrev s_p_is_within : Stmt := topS 22
theorem sc_p_is_within : FnScope ["thing", "least", "most"] ["thing", "least", "most"] (defScope s_p_is_within) := ⟨rfl, rfl, rfl, by decide +kernel, rfl, by decide +kernel, by decide +kernel⟩
def sp_p_is_within (K : PySem.W.Frag) : Sp := fun vs H Q E => ∃ (x : V) (d : PyData) (lo hi : Int), vs = [x, .int lo, .int hi] ∧ Dp K H x d ∧ Q (.bl (withinD lo hi d)) H
/-! ### are_cards -/
abbrev s_p_are_cards : Stmt := topS 23
theorem sc_p_are_cards : FnScope ["thing", "full"] ["thing"] (defScope s_p_are_cards) := ⟨rfl, rfl, rfl, by decide +kernel, rfl, by decide +kernel, by decide +kernel⟩
def sp_p_are_cards (K : PySem.W.Frag) : Sp := fun vs H Q E => ∃ (x : V) (d : PyData), vs = [x] ∧ Dp K H x d ∧ ∀ H', Same H H' → Q (.bl (cardsD d)) H'
/-! ### refuse_no_cards -/
abbrev s_p_refuse_no_cards : Stmt := topS 30
theorem sc_p_refuse_no_cards : FnScope ["thing"] ["thing"] (defScope s_p_refuse_no_cards) := ⟨rfl, rfl, rfl, by decide +kernel, rfl, by decide +kernel, by decide +kernel⟩
def sp_p_refuse_no_cards (mg : Str → Option Value) (K : PySem.W.Frag) : Sp := fun vs H Q E => ∃ (x : V) (d : PyData), vs = [x] ∧ Dp K H x d ∧ (cardsD d = true → ∀ H', Same H H' → Q .non H') ∧ (cardsD d = false → ∀ H' C, Same H H' → mg "NoCards" = some (.ref C) → E (.ref C) none H')
/-! ### are_stamps -/
abbrev s_p_are_stamps : Stmt := topS 24
theorem sc_p_are_stamps : FnScope ["cards", "thing", "many"] ["cards", "thing"] (defScope s_p_are_stamps) := ⟨rfl, rfl, rfl, by decide +kernel, rfl, by decide +kernel, by decide +kernel⟩
def sp_p_are_stamps (K : PySem.W.Frag) : Sp := fun vs H Q E => ∃ (cA : Addr) (cs : List V) (x : V) (d : PyData), vs = [.ref cA, x] ∧ SqT K H cA cs ∧ cs.length ≤ 3 ∧ Dp K H x d ∧ ∀ H', Same H H' → Q (.bl (stampsD cs.length d)) H'
/-! ### refuse_no_stamps -/
abbrev s_p_refuse_no_stamps : Stmt := topS 32
theorem sc_p_refuse_no_stamps : FnScope ["cards", "thing"] ["cards", "thing"] (defScope s_p_refuse_no_stamps) := ⟨rfl, rfl, rfl, by decide +kernel, rfl, by decide +kernel, by decide +kernel⟩
def sp_p_refuse_no_stamps (mg : Str → Option Value) (K : PySem.W.Frag) : Sp := fun vs H Q E => ∃ (cA : Addr) (cs : List V) (x : V) (d : PyData), vs = [.ref cA, x] ∧ SqT K H cA cs ∧ cs.length ≤ 3 ∧ Dp K H x d ∧ (stampsD cs.length d = true → ∀ H', Same H H' → Q .non H') ∧ (stampsD cs.length d = false → RefE mg H E "NoStamps")
/-! ### period_of -/
abbrev s_p_period_of : Stmt := topS 40
theorem sc_p_period_of : FnScope ["cards", "period", "full", "step"] ["cards"] (defScope s_p_period_of) := ⟨rfl, rfl, rfl, by decide +kernel, rfl, by decide +kernel, by decide +kernel⟩
def sp_p_period_of (K : PySem.W.Frag) : Sp := fun vs H Q E => ∃ (cA : Addr) (cs : List Int), vs = [.ref cA] ∧ SqT K H cA (cs.map V.int) ∧ Cards cs ∧ Q (.int (perOf cs)) H
/-! ### period_pays -/
abbrev s_p_period_pays : Stmt := topS 42
theorem sc_p_period_pays : FnScope ["cards", "period", "full"] ["cards"] (defScope s_p_period_pays) := ⟨rfl, rfl, rfl, by decide +kernel, rfl, by decide +kernel, by decide +kernel⟩
def sp_p_period_pays (K : PySem.W.Frag) : Sp := fun vs H Q E => ∃ (cA : Addr) (cs : List Int), vs = [.ref cA] ∧ SqT K H cA (cs.map V.int) ∧ Cards cs ∧ ∀ b H', Same H H' → (b = true ↔ perOf cs ≤ pq (perOf cs) cs) → Q (.bl b) H'
/-! ### full_cards -/
abbrev s_p_full_cards : Stmt := topS 41
theorem sc_p_full_cards : FnScope ["cards", "stamps", "ridden", "full", "many"] ["cards", "stamps", "ridden"] (defScope s_p_full_cards) := ⟨rfl, rfl, rfl, by decide +kernel, rfl, by decide +kernel, by decide +kernel⟩
def sp_p_full_cards (K : PySem.W.Frag) : Sp := fun vs H Q E => ∃ (cA sA : Addr) (cs ss : List Int) (n : Int), vs = [.ref cA, .ref sA, .int n] ∧ SqT K H cA (cs.map V.int) ∧ SqT K H sA (ss.map V.int) ∧ cs.length = ss.length ∧ Cards cs ∧ ∀ H', Same H H' → Q (.int (fc cs ss n)) H'
/-! ### rides_wanted -/
abbrev s_p_rides_wanted : Stmt := topS 44
theorem sc_p_rides_wanted : FnScope ["cards", "stamps", "first", "end", "wanted", "ridden"] ["cards", "stamps", "first", "end"] (defScope s_p_rides_wanted) := ⟨rfl, rfl, rfl, by decide +kernel, rfl, by decide +kernel, by decide +kernel⟩
def sp_p_rides_wanted (K : PySem.W.Frag) : Sp := fun vs H Q E => ∃ (cA sA : Addr) (cs ss : List Int) (lo hi : Int), vs = [.ref cA, .ref sA, .int lo, .int hi] ∧ SqT K H cA (cs.map V.int) ∧ SqT K H sA (ss.map V.int) ∧ cs.length = ss.length ∧ Cards cs ∧ 0 ≤ lo ∧ lo ≤ hi ∧ hi ≤ 1000000000000000000 ∧ ∀ v H', Same H H' → Want cs ss lo hi v → Q (.int v) H'
/-! ### least_endless -/
abbrev s_p_least_endless : Stmt := topS 47
theorem sc_p_least_endless : FnScope ["cards", "stamps"] ["cards", "stamps"] (defScope s_p_least_endless) := ⟨rfl, rfl, rfl, by decide +kernel, rfl, by decide +kernel, by decide +kernel⟩
def sp_p_least_endless (mg : Str → Option Value) (K : PySem.W.Frag) : Sp := fun vs H Q E => door2 stampsD "NoStamps" mg K vs H Q E
/-! ### _law_draws -/
abbrev s_l_draws : Stmt := topS 66
theorem sc_l_draws : FnScope ["cell", "many", "size", "found", "rest", "stirred", "k"] ["cell", "many", "size"] (defScope s_l_draws) := ⟨rfl, rfl, rfl, by decide +kernel, rfl, by decide +kernel, by decide +kernel⟩
def sp_l_draws (K : PySem.W.Frag) : Sp := fun vs H Q E => ∃ (cell : Int), vs = [.int cell, .int 400, .int 1000] ∧ ∀ (p : Addr) (ds : List Int) (H' : Hp), Kp H H' → H p = none → H' p = some (.lst (ds.map V.int)) → ds.length = 400 → (∀ x ∈ ds, (0 : Int) ≤ x ∧ x < 1000) → Q (.ref p) H'
/-! ### _law_cell_at -/
abbrev s_l_cell_at : Stmt := topS 65
theorem sc_l_cell_at : FnScope ["script", "k"] ["script", "k"] (defScope s_l_cell_at) := ⟨rfl, rfl, rfl, by decide +kernel, rfl, by decide +kernel, by decide +kernel⟩
def sp_l_cell_at (K : PySem.W.Frag) : Sp := fun vs H Q E => ∃ (a : Addr) (ns : List Int) (k : Int), vs = [.ref a, .int k] ∧ SqL K H a (ns.map V.int) ∧ 0 ≤ k ∧ ∀ v, Q (.int v) H
/-! ### _law_bag -/
abbrev s_l_bag : Stmt := topS 67
theorem sc_l_bag : FnScope ["script", "k"] ["script", "k"] (defScope s_l_bag) := ⟨rfl, rfl, rfl, by decide +kernel, rfl, by decide +kernel, by decide +kernel⟩
def sp_l_bag (K : PySem.W.Frag) : Sp := fun vs H Q E => ∃ (a : Addr) (ns : List Int) (k : Int), vs = [.ref a, .int k] ∧ SqL K H a (ns.map V.int) ∧ 0 ≤ k ∧ ∀ (p : Addr) (H' : Hp), Kp H H' → Bag H' p → H p = none → Q (.ref p) H'
/-! ### _law_bags -/
abbrev s_l_bags : Stmt := topS 68
theorem sc_l_bags : FnScope ["script", "limit", "k"] ["script", "limit"] (defScope s_l_bags) := ⟨rfl, rfl, rfl, by decide +kernel, rfl, by decide +kernel, by decide +kernel⟩
def sp_l_bags (K : PySem.W.Frag) : Sp := fun vs H Q E => ∃ (a : Addr) (ns : List Int) (m : Int), vs = [.ref a, .int m] ∧ SqL K H a (ns.map V.int) ∧ ns.length ≤ 63 ∧ 0 < m ∧ m ≤ 1000 ∧ ∀ (p : Addr) (bs : List Addr) (H' : Hp), Kp H H' → H p = none → H' p = some (.lst (bs.map V.ref)) → bs.length ≤ 1000 → (∀ b ∈ bs, Bag H' b) → Q (.ref p) H'
/-! ### _law_take -/
abbrev s_l_take : Stmt := topS 69
theorem sc_l_take : FnScope ["bag", "many"] ["bag", "many"] (defScope s_l_take) := ⟨rfl, rfl, rfl, by decide +kernel, rfl, by decide +kernel, by decide +kernel⟩
def sp_l_take (K : PySem.W.Frag) : Sp := fun vs H Q E => ∃ (b : Addr) (m : Int), vs = [.ref b, .int m] ∧ Bag H b ∧ 0 < m ∧ ∀ (r : Int) (H' : Hp), 0 ≤ r → r < m → Kp H H' → Q (.int r) H'
/-! ### _law_kinds -/
abbrev s_l_kinds : Stmt := topS 71
theorem sc_l_kinds : FnScope ["bag", "far", "found", "turn"] ["bag", "far"] (defScope s_l_kinds) := ⟨rfl, rfl, rfl, by decide +kernel, rfl, by decide +kernel, by decide +kernel⟩
def sp_l_kinds (K : PySem.W.Frag) : Sp := fun vs H Q E => ∃ (b : Addr) (fr : Int), vs = [.ref b, .int fr] ∧ Bag H b ∧ 2 ≤ fr ∧ ∀ (p : Addr) (cs : List Int) (H' : Hp), Kp H H' → H' p = some (.tup (cs.map V.int)) → 1 ≤ cs.length → cs.length ≤ 3 → (∀ c ∈ cs, 2 ≤ c ∧ c ≤ fr) → Q (.ref p) H'
/-! ### _law_far_draw -/
abbrev s_l_far_draw : Stmt := topS 70
theorem sc_l_far_draw : FnScope ["bag", "many", "found", "much"] ["bag", "many"] (defScope s_l_far_draw) := ⟨rfl, rfl, rfl, by decide +kernel, rfl, by decide +kernel, by decide +kernel⟩
def sp_l_far_draw (K : PySem.W.Frag) : Sp := fun vs H Q E => ∃ (b : Addr) (m : Int), vs = [.ref b, .int m] ∧ Bag H b ∧ 0 < m ∧ ∀ (r : Int) (H' : Hp), 0 ≤ r → r < m → Kp H H' → Q (.int r) H'
/-! ### _law_stamps_for -/
abbrev s_l_stamps_for : Stmt := topS 72
theorem sc_l_stamps_for : FnScope ["bag", "kinds", "far", "one"] ["bag", "kinds", "far"] (defScope s_l_stamps_for) := ⟨rfl, rfl, rfl, by decide +kernel, rfl, by decide +kernel, by decide +kernel⟩
def sp_l_stamps_for (K : PySem.W.Frag) : Sp := fun vs H Q E => ∃ (b kA : Addr) (cs : List Int) (fr : Int), vs = [.ref b, .ref kA, .int fr] ∧ Bag H b ∧ SqT K H kA (cs.map V.int) ∧ cs.length ≤ 3 ∧ 0 ≤ fr ∧ ∀ (p : Addr) (ss : List Int) (H' : Hp), Kp H H' → H' p = some (.tup (ss.map V.int)) → ss.length = cs.length → (∀ x ∈ ss, 0 ≤ x ∧ x ≤ fr) → Q (.ref p) H'
/-! ### _law_had -/
abbrev s_l_had : Stmt := topS 73
theorem sc_l_had : FnScope ["bag", "kinds", "far"] ["bag", "kinds", "far"] (defScope s_l_had) := ⟨rfl, rfl, rfl, by decide +kernel, rfl, by decide +kernel, by decide +kernel⟩
def sp_l_had (K : PySem.W.Frag) : Sp := fun vs H Q E => ∃ (b kA : Addr) (cs : List Int) (fr : Int), vs = [.ref b, .ref kA, .int fr] ∧ Bag H b ∧ SqT K H kA (cs.map V.int) ∧ cs.length ≤ 3 ∧ 0 ≤ fr ∧ ∀ (p sA : Addr) (r : Int) (ss : List Int) (H' : Hp), Kp H H' → H' p = some (.tup [.int r, .ref sA]) → H' sA = some (.tup (ss.map V.int)) → 0 ≤ r → r ≤ fr → ss.length = cs.length → (∀ x ∈ ss, 0 ≤ x ∧ x ≤ fr) → Q (.ref p) H'
/-! ### purse_fits -/
abbrev s_p_purse_fits : Stmt := topS 25
theorem sc_p_purse_fits : FnScope ["cards", "thing", "rides", "stamps"] ["cards", "thing"] (defScope s_p_purse_fits) := ⟨rfl, rfl, rfl, by decide +kernel, rfl, by decide +kernel, by decide +kernel⟩
def sp_p_purse_fits (K : PySem.W.Frag) : Sp := fun vs H Q E => ∃ (cA : Addr) (cs : List V) (x : V) (d : PyData), vs = [.ref cA, x] ∧ SqT K H cA cs ∧ cs.length ≤ 3 ∧ Dp K H x d ∧ ∀ H', Same H H' → Q (.bl (purseD cs.length d)) H'
/-! ### refuse_no_purse -/
abbrev s_p_refuse_no_purse : Stmt := topS 31
theorem sc_p_refuse_no_purse : FnScope ["cards", "thing"] ["cards", "thing"] (defScope s_p_refuse_no_purse) := ⟨rfl, rfl, rfl, by decide +kernel, rfl, by decide +kernel, by decide +kernel⟩
def sp_p_refuse_no_purse (mg : Str → Option Value) (K : PySem.W.Frag) : Sp := fun vs H Q E => ∃ (cA : Addr) (cs : List V) (x : V) (d : PyData), vs = [.ref cA, x] ∧ SqT K H cA cs ∧ cs.length ≤ 3 ∧ Dp K H x d ∧ (purseD cs.length d = true → ∀ H', Same H H' → Q .non H') ∧ (purseD cs.length d = false → RefE mg H E "NoPurse")
/-! ### Kept.__init__ -/
abbrev s_m_init : Stmt := inClass (topS 63) 0
theorem sc_m_init : FnScope ["self", "cards", "purse"] ["self", "cards", "purse"] (defScope s_m_init) := ⟨rfl, rfl, rfl, by decide +kernel, rfl, by decide +kernel, by decide +kernel⟩
def sp_m_init (mg : Str → Option Value) (K : PySem.W.Frag) : Sp := fun vs H Q E => ∃ s0 x y, vs = [s0, x, y] ∧ ((NoC K H x ∧ RefE mg H E "NoCards") ∨ ∃ cs, IsC K H x cs ∧ NoT purseD K H cs y ∧ RefE mg H E "NoPurse")
/-! ### most_by_shares -/
abbrev s_p_most_by_shares : Stmt := topS 51
theorem sc_p_most_by_shares : FnScope ["cards", "purse", "rides", "stamps", "period", "shares", "worth", "full", "many", "share"] ["cards", "purse"] (defScope s_p_most_by_shares) := ⟨rfl, rfl, rfl, by decide +kernel, rfl, by decide +kernel, by decide +kernel⟩
def sp_p_most_by_shares (K : PySem.W.Frag) : Sp := fun vs H Q E => ∃ (cA pA : Addr) (cs : List Int) (r : Int) (ss : List Int), vs = [.ref cA, .ref pA] ∧ SqT K H cA (cs.map V.int) ∧ Purse K H pA r ss ∧ Cards cs ∧ Stamps cs.length ss ∧ 0 ≤ r ∧ r ≤ 1000000000000000000 ∧ pq (perOf cs) cs < perOf cs ∧ ∀ H', Same H H' → Q (.int (byShares cs r ss)) H'
/-! ### pays_back -/
abbrev s_p_pays_back : Stmt := topS 50
theorem sc_p_pays_back : FnScope ["cards", "purse", "number", "rides", "stamps"] ["cards", "purse", "number"] (defScope s_p_pays_back) := ⟨rfl, rfl, rfl, by decide +kernel, rfl, by decide +kernel, by decide +kernel⟩
def sp_p_pays_back (K : PySem.W.Frag) : Sp := fun vs H Q E => ∃ (cA pA : Addr) (cs : List Int) (r : Int) (ss : List Int) (n : Int), vs = [.ref cA, .ref pA, .int n] ∧ SqT K H cA (cs.map V.int) ∧ Purse K H pA r ss ∧ Cards cs ∧ cs.length = ss.length ∧ ∀ H', Same H H' → Q (.bl (decide (n ≤ r + fc cs ss n))) H'
/-! ### greatest -/
abbrev s_p_greatest : Stmt := topS 52
theorem sc_p_greatest : FnScope ["cards", "purse", "number"] ["cards", "purse"] (defScope s_p_greatest) := ⟨rfl, rfl, rfl, by decide +kernel, rfl, by decide +kernel, by decide +kernel⟩
def sp_p_greatest (mg : Str → Option Value) (K : PySem.W.Frag) : Sp := fun vs H Q E => door2 purseD "NoPurse" mg K vs H Q E
/-! ### rides_in_all -/
abbrev s_p_rides_in_all : Stmt := topS 43
theorem sc_p_rides_in_all : FnScope ["cards", "purse", "rides", "stamps", "pays", "period", "had", "paid"] ["cards", "purse"] (defScope s_p_rides_in_all) := ⟨rfl, rfl, rfl, by decide +kernel, rfl, by decide +kernel, by decide +kernel⟩
def sp_p_rides_in_all (K : PySem.W.Frag) : Sp := fun vs H Q E => ∃ (cA pA : Addr) (cs : List Int) (r : Int) (ss : List Int), vs = [.ref cA, .ref pA] ∧ SqT K H cA (cs.map V.int) ∧ Purse K H pA r ss ∧ Cards cs ∧ (ss.length = cs.length ∧ ∀ x ∈ ss, (0 : Int) ≤ x) ∧ 0 ≤ r ∧ ∀ v H', Same H H' → ToldV cs r ss v → Q v H'
/-! ### left -/
abbrev s_p_left : Stmt := topS 46
theorem sc_p_left : FnScope ["cards", "purse", "had", "full", "many"] ["cards", "purse"] (defScope s_p_left) := ⟨rfl, rfl, rfl, by decide +kernel, rfl, by decide +kernel, by decide +kernel⟩
def sp_p_left (mg : Str → Option Value) (K : PySem.W.Frag) : Sp := fun vs H Q E => door2 purseD "NoPurse" mg K vs H Q E
/-! ### all_rides -/
abbrev s_p_all_rides : Stmt := topS 45
theorem sc_p_all_rides : FnScope ["cards", "purse"] ["cards", "purse"] (defScope s_p_all_rides) := ⟨rfl, rfl, rfl, by decide +kernel, rfl, by decide +kernel, by decide +kernel⟩
def sp_p_all_rides (mg : Str → Option Value) (K : PySem.W.Frag) : Sp := fun vs H Q E => door2 purseD "NoPurse" mg K vs H Q E
/-! ### _law_refused -/
abbrev s_l_refused : Stmt := topS 74
theorem sc_l_refused : FnScope ["call", "one", "two", "three", "kin", "e", "words", "word", "there"] ["call", "one", "two", "three"] (defScope s_l_refused) := ⟨rfl, rfl, rfl, by decide +kernel, rfl, by decide +kernel, by decide +kernel⟩
def sp_l_refused (P : Program) (w : World) (K : PySem.W.Frag) (mg : Str → Option Value) (base : Heap) : Sp := fun vs H Q E => ∃ (f : Addr) (x y z : V) (sp : Sp) (C : Nat → Addr) (tf rd : Addr), vs = [.ref f, x, y, z] ∧ Kin K mg C tf rd ∧ HeldH P w K mg base 12 f sp H ∧ MonoSp sp ∧ ∀ H1, Same H H1 → sp [x, y, z] H1 (fun _ H' => Same H1 H' ∧ ∀ p H'', Same H' H'' → H'' p = some (.lst []) → Q (.ref p) H'') (fun cls d H' => Same H1 H' ∧ ∃ i, cls = .ref (C i) ∧ d = none ∧ KinOf K C tf rd i ∧ ∀ p H'', Same H' H'' → H'' p = some (.lst [.str (kinN i), .bl true]) → Q (.ref p) H'')
/-! ### is_kind -/
abbrev s_p_is_kind : Stmt := topS 27
theorem sc_p_is_kind : FnScope ["cards", "thing"] ["cards", "thing"] (defScope s_p_is_kind) := ⟨rfl, rfl, rfl, by decide +kernel, rfl, by decide +kernel, by decide +kernel⟩
def sp_p_is_kind (K : PySem.W.Frag) : Sp := fun vs H Q E => ∃ (cA : Addr) (cs : List V) (x : V) (d : PyData), vs = [.ref cA, x] ∧ SqT K H cA cs ∧ Dp K H x d ∧ Q (.bl (withinD 0 ((cs.length : Int) - 1) d)) H
/-! ### is_deed -/
abbrev s_p_is_deed : Stmt := topS 28
theorem sc_p_is_deed : FnScope ["cards", "thing"] ["cards", "thing"] (defScope s_p_is_deed) := ⟨rfl, rfl, rfl, by decide +kernel, rfl, by decide +kernel, by decide +kernel⟩
def sp_p_is_deed (K : PySem.W.Frag) : Sp := fun vs H Q E => ∃ (cA : Addr) (cs : List V) (x : V) (d : PyData), vs = [.ref cA, x] ∧ SqT K H cA cs ∧ Dp K H x d ∧ Q (.bl (deedD (cs.length : Int) d)) H
/-! ### is_row -/
abbrev s_p_is_row : Stmt := topS 29
theorem sc_p_is_row : FnScope ["cards", "thing", "deed"] ["cards", "thing"] (defScope s_p_is_row) := ⟨rfl, rfl, rfl, by decide +kernel, rfl, by decide +kernel, by decide +kernel⟩
def sp_p_is_row (K : PySem.W.Frag) : Sp := fun vs H Q E => ∃ (cA : Addr) (cs : List V) (x : V) (d : PyData), vs = [.ref cA, x] ∧ SqT K H cA cs ∧ Dp K H x d ∧ ∀ H', Same H H' → Q (.bl (rowD (cs.length : Int) d)) H'
/-! ### refuse_no_row -/
abbrev s_p_refuse_no_row : Stmt := topS 33
theorem sc_p_refuse_no_row : FnScope ["cards", "thing"] ["cards", "thing"] (defScope s_p_refuse_no_row) := ⟨rfl, rfl, rfl, by decide +kernel, rfl, by decide +kernel, by decide +kernel⟩
def sp_p_refuse_no_row (mg : Str → Option Value) (K : PySem.W.Frag) : Sp := fun vs H Q E => ∃ (cA : Addr) (cs : List V) (x : V) (d : PyData), vs = [.ref cA, x] ∧ SqT K H cA cs ∧ Dp K H x d ∧ (rowD (cs.length : Int) d = true → ∀ H', Same H H' → Q .non H') ∧ (rowD (cs.length : Int) d = false → ∀ H' C, Same H H' → mg "NoRow" = some (.ref C) → E (.ref C) none H')
/-! ### after_ride -/
abbrev s_p_after_ride : Stmt := topS 35
theorem sc_p_after_ride : FnScope ["purse", "rides", "stamps", "many"] ["purse"] (defScope s_p_after_ride) := ⟨rfl, rfl, rfl, by decide +kernel, rfl, by decide +kernel, by decide +kernel⟩
def sp_p_after_ride (K : PySem.W.Frag) : Sp := fun vs H Q E => ∃ (pA : Addr) (x : Int) (zs : List Int), vs = [.ref pA] ∧ Purse K H pA x zs ∧ zs.length ≤ 3 ∧ (¬ 0 < x → Q .non H) ∧ (0 < x → ∀ p s' H', Same H H' → H' p = some (.tup [.int (x - 1), .ref s']) → H' s' = some (.tup ((zs.map (· + 1)).map V.int)) → Q (.ref p) H')
/-! ### after_giving -/
abbrev s_p_after_giving : Stmt := topS 36
theorem sc_p_after_giving : FnScope ["cards", "purse", "kind", "rides", "stamps", "fewer"] ["cards", "purse", "kind"] (defScope s_p_after_giving) := ⟨rfl, rfl, rfl, by decide +kernel, rfl, by decide +kernel, by decide +kernel⟩
def sp_p_after_giving (K : PySem.W.Frag) : Sp := fun vs H Q E => ∃ (cA pA : Addr) (cs : List Int) (x : Int) (zs : List Int) (i c z : Int), vs = [.ref cA, .ref pA, .int i] ∧ SqT K H cA (cs.map V.int) ∧ Purse K H pA x zs ∧ zs.length = cs.length ∧ cs.length ≤ 3 ∧ 0 ≤ i ∧ i < (cs.length : Int) ∧ cs[i.toNat]? = some c ∧ zs[i.toNat]? = some z ∧ (z < c → Q .non H) ∧ (c ≤ z → ∀ p s' H', Same H H' → H' p = some (.tup [.int (x + 1), .ref s']) → H' s' = some (.tup ((zs.set i.toNat (z - c)).map V.int)) → Q (.ref p) H')
/-! ### after_deed -/
abbrev s_p_after_deed : Stmt := topS 37
theorem sc_p_after_deed : FnScope ["cards", "purse", "deed"] ["cards", "purse", "deed"] (defScope s_p_after_deed) := ⟨rfl, rfl, rfl, by decide +kernel, rfl, by decide +kernel, by decide +kernel⟩
def sp_p_after_deed (K : PySem.W.Frag) : Sp := fun vs H Q E => ∃ (kA pA : Addr) (cs : List Int) (x : Int) (zs : List Int) (d : V), vs = [.ref kA, .ref pA, d] ∧ SqT K H kA (cs.map V.int) ∧ Purse K H pA x zs ∧ zs.length = cs.length ∧ cs.length ≤ 3 ∧ DeedV cs.length d ∧ (¬ Can cs x zs d → ∀ H', Same H H' → Q .non H') ∧ (Can cs x zs d → ∀ p s' H', Same H H' → H' p = some (.tup [.int (aftX x d), .ref s']) → H' s' = some (.tup ((aftS cs zs d).map V.int)) → Q (.ref p) H')
/-! ### behind -/
abbrev s_p_behind : Stmt := topS 38
theorem sc_p_behind : FnScope ["cards", "purse", "row", "deed"] ["cards", "purse", "row"] (defScope s_p_behind) := ⟨rfl, rfl, rfl, by decide +kernel, rfl, by decide +kernel, by decide +kernel⟩
def sp_p_behind (mg : Str → Option Value) (K : PySem.W.Frag) : Sp := fun vs H Q E => door3 purseD "NoPurse" mg K vs H Q E
/-! ### refuse_no_number -/
abbrev s_p_refuse_no_number : Stmt := topS 34
theorem sc_p_refuse_no_number : FnScope ["thing", "least"] ["thing", "least"] (defScope s_p_refuse_no_number) := ⟨rfl, rfl, rfl, by decide +kernel, rfl, by decide +kernel, by decide +kernel⟩
def sp_p_refuse_no_number (mg : Str → Option Value) (K : PySem.W.Frag) : Sp := fun vs H Q E => ∃ (x : V) (d : PyData) (lo : Int), vs = [x, .int lo] ∧ Dp K H x d ∧ lo = 0 ∧ (withinD lo 1000000000000000000 d = true → Q .non H) ∧ (withinD lo 1000000000000000000 d = false → RefE mg H E "NoNumber")
/-! ### least_rides -/
abbrev s_p_least_rides : Stmt := topS 48
theorem sc_p_least_rides : FnScope ["cards", "stamps", "number", "period"] ["cards", "stamps", "number"] (defScope s_p_least_rides) := ⟨rfl, rfl, rfl, by decide +kernel, rfl, by decide +kernel, by decide +kernel⟩
def sp_p_least_rides (mg : Str → Option Value) (K : PySem.W.Frag) : Sp := fun vs H Q E => door3n stampsD "NoStamps" (okS K) isI mg K vs H Q E
/-! ### least_loan -/
abbrev s_p_least_loan : Stmt := topS 54
theorem sc_p_least_loan : FnScope ["cards", "purse", "number", "rides", "stamps"] ["cards", "purse", "number"] (defScope s_p_least_loan) := ⟨rfl, rfl, rfl, by decide +kernel, rfl, by decide +kernel, by decide +kernel⟩
def sp_p_least_loan (mg : Str → Option Value) (K : PySem.W.Frag) : Sp := fun vs H Q E => door3n purseD "NoPurse" (okP K) anyV mg K vs H Q E
/-! ### can_have -/
abbrev s_p_can_have : Stmt := topS 53
theorem sc_p_can_have : FnScope ["cards", "purse", "number"] ["cards", "purse", "number"] (defScope s_p_can_have) := ⟨rfl, rfl, rfl, by decide +kernel, rfl, by decide +kernel, by decide +kernel⟩
def sp_p_can_have (mg : Str → Option Value) (K : PySem.W.Frag) : Sp := fun vs H Q E => door3n purseD "NoPurse" (okP K) anyV mg K vs H Q E
/-! ### _law_by_purse -/
abbrev s_l_by_purse : Stmt := topS 76
theorem sc_l_by_purse : FnScope ["kinds", "had", "bad", "door", "odd"] ["kinds", "had", "bad"] (defScope s_l_by_purse) := ⟨rfl, rfl, rfl, by decide +kernel, rfl, by decide +kernel, by decide +kernel⟩
def oddN (t : Addr) : List V := [.int (-1), .int (10 ^ (Int.toNat 18) + 1), .bl true, .non, .str "3", .ref t]
theorem oddN_no {K : PySem.W.Frag} {H : Hp} {t : Addr} {z : V} (h : z ∈ oddN t) (e : H t = some (.tup [.int 1])) : NoN K H z := by
  simp only [oddN, List.mem_cons, List.not_mem_nil, or_false] at h
  rcases h with rfl | rfl | rfl | rfl | rfl | rfl
  · exact ⟨_, .int _, by decide +kernel⟩
  · exact ⟨_, .int _, by decide +kernel⟩
  · exact ⟨_, .bl _, rfl⟩
  · exact ⟨_, .non, rfl⟩
  · exact ⟨_, .str _, rfl⟩
  · exact ⟨_, .tup (SqT.of e) (.cons (.int 1) .nil), rfl⟩

def sp_l_by_purse (K : PySem.W.Frag) (P_l_by_cards P_l_by_purse P_l_law : Addr) : Sp := fun vs H Q E => ∃ kx pA y cs r ss, vs = [kx, .ref pA, y] ∧ IsC K H kx cs ∧ Purse K H pA r ss ∧ Stamps cs.length ss ∧ 0 ≤ r ∧ r ≤ 1000000000000000000 ∧ NoT purseD K H cs y ∧ LamX.Tabs (T_all P_l_by_cards P_l_by_purse P_l_law) H ∧ ∀ H', LamX.ExtN H H' → LamX.Tabs (T_all P_l_by_cards P_l_by_purse P_l_law) H' → Q (.bl true) H'
/-! ### are_purses -/
abbrev s_p_are_purses : Stmt := topS 57
theorem sc_p_are_purses : FnScope ["cards", "thing", "purse"] ["cards", "thing"] (defScope s_p_are_purses) := ⟨rfl, rfl, rfl, by decide +kernel, rfl, by decide +kernel, by decide +kernel⟩
def sp_p_are_purses (K : PySem.W.Frag) : Sp := fun vs H Q E => ∃ (cA : Addr) (cs : List V) (x : V) (d : PyData), vs = [.ref cA, x] ∧ SqT K H cA cs ∧ cs.length ≤ 3 ∧ Dp K H x d ∧ ∀ H', Same H H' → Q (.bl (pursesD cs.length d)) H'
/-! ### refuse_no_purses -/
abbrev s_p_refuse_no_purses : Stmt := topS 58
theorem sc_p_refuse_no_purses : FnScope ["cards", "thing"] ["cards", "thing"] (defScope s_p_refuse_no_purses) := ⟨rfl, rfl, rfl, by decide +kernel, rfl, by decide +kernel, by decide +kernel⟩
def sp_p_refuse_no_purses (mg : Str → Option Value) (K : PySem.W.Frag) : Sp := fun vs H Q E => ∃ (cA : Addr) (cs : List V) (x : V) (d : PyData), vs = [.ref cA, x] ∧ SqT K H cA cs ∧ cs.length ≤ 3 ∧ Dp K H x d ∧ (pursesD cs.length d = true → ∀ H', Same H H' → Q .non H') ∧ (pursesD cs.length d = false → RefE mg H E "NoPurses")
/-! ### put_together -/
abbrev s_p_put_together : Stmt := topS 59
theorem sc_p_put_together : FnScope ["cards", "purses", "rides", "stamps", "kind", "purse"] ["cards", "purses"] (defScope s_p_put_together) := ⟨rfl, rfl, rfl, by decide +kernel, rfl, by decide +kernel, by decide +kernel⟩
def sp_p_put_together (K : PySem.W.Frag) : Sp := fun vs H Q E => ∃ (cA fA : Addr) (cs : List Int) (as : List Addr) (ps : List (Int × List Int)), vs = [.ref cA, .ref fA] ∧ SqT K H cA (cs.map V.int) ∧ SqT K H fA (as.map V.ref) ∧ Pss K H as ps ∧ Cards cs ∧ Folk cs.length ps ∧ ∀ p s' H', Same H H' → H' p = some (.tup [.int (totR ps), .ref s']) → H' s' = some (.tup ((totS cs.length ps).map V.int)) → Q (.ref p) H'
/-! ### together -/
abbrev s_p_together : Stmt := topS 61
theorem sc_p_together : FnScope ["cards", "purses"] ["cards", "purses"] (defScope s_p_together) := ⟨rfl, rfl, rfl, by decide +kernel, rfl, by decide +kernel, by decide +kernel⟩
def sp_p_together (mg : Str → Option Value) (K : PySem.W.Frag) : Sp := fun vs H Q E => door2 pursesD "NoPurses" mg K vs H Q E
/-! ### apart -/
abbrev s_p_apart : Stmt := topS 60
theorem sc_p_apart : FnScope ["cards", "purses", "total", "purse", "had"] ["cards", "purses"] (defScope s_p_apart) := ⟨rfl, rfl, rfl, by decide +kernel, rfl, by decide +kernel, by decide +kernel⟩
def sp_p_apart (mg : Str → Option Value) (K : PySem.W.Frag) : Sp := fun vs H Q E => door2 pursesD "NoPurses" mg K vs H Q E
/-! ### is_purse -/
abbrev s_p_is_purse : Stmt := topS 26
theorem sc_p_is_purse : FnScope ["cards", "thing"] ["cards", "thing"] (defScope s_p_is_purse) := ⟨rfl, rfl, rfl, by decide +kernel, rfl, by decide +kernel, by decide +kernel⟩
def sp_p_is_purse (mg : Str → Option Value) (K : PySem.W.Frag) : Sp := fun vs H Q E => ∃ x y, vs = [x, y] ∧ NoC K H x ∧ RefE mg H E "NoCards"
/-! ### _law_by_cards -/
abbrev s_l_by_cards : Stmt := topS 75
theorem sc_l_by_cards : FnScope ["none", "door"] ["none"] (defScope s_l_by_cards) := ⟨rfl, rfl, rfl, by decide +kernel, rfl, by decide +kernel, by decide +kernel⟩
theorem mono_is_purse {mg : Str → Option Value} {K : PySem.W.Frag} : MonoSp (sp_p_is_purse mg K) := by
  rintro vs H Q Q' E E' ⟨x, y, e, h1, h2⟩ _ hx
  exact ⟨x, y, e, h1, h2.mono hx⟩
theorem refE_of {K : PySem.W.Frag} {mg : Str → Option Value} {C : Nat → Addr} {tf rd : Addr} {i : Nat} {H1 : Hp} {R : Addr → Hp → Prop} (KT : Kin K mg C tf rd) (KO : KinOf K C tf rd i) (q : ∀ p H'', Same H1 H'' → H'' p = some (.lst [.str (kinN i), .bl true]) → R p H'') :
    RefE mg H1 (fun cls d H' => Same H1 H' ∧ ∃ i, cls = .ref (C i) ∧ d = none ∧ KinOf K C tf rd i ∧ ∀ p H'', Same H' H'' → H'' p = some (.lst [.str (kinN i), .bl true]) → R p H'') (kinN i) := by
  intro H' C' s' gC
  have eC : C' = C i := by
    have := gC.symm.trans (KT.w i KO.lt)
    cases this
    rfl
  subst eC
  exact ⟨s', i, rfl, rfl, KO, fun p H'' s'' e => q p H'' (s'.trans s'') e⟩

def sp_l_by_cards (K : PySem.W.Frag) (P_l_by_cards P_l_by_purse P_l_law : Addr) : Sp := fun vs H Q E => ∃ x, vs = [x] ∧ NoC K H x ∧ LamX.Tabs (T_all P_l_by_cards P_l_by_purse P_l_law) H ∧ ∀ H', LamX.ExtN H H' → LamX.Tabs (T_all P_l_by_cards P_l_by_purse P_l_law) H' → Q (.bl true) H'
/-! ### law -/
abbrev s_l_law : Stmt := topS 77
theorem sc_l_law : FnScope ["script", "bag", "kinds", "had", "none", "bads", "bad", "stamps", "odd", "purses", "door"] ["script"] (defScope s_l_law) := ⟨rfl, rfl, rfl, by decide +kernel, rfl, by decide +kernel, by decide +kernel⟩
def noneL (t1 t2 t3 t4 t5 t6 : Addr) : List V := [.non, .ref t1, .ref t2, .ref t3, .ref t4, .ref t5, .ref t6, .int 7]
theorem noneL_no {K : PySem.W.Frag} {H : Hp} {t1 t2 t3 t4 t5 t6 : Addr} {z : V} (h : z ∈ noneL t1 t2 t3 t4 t5 t6) (e1 : H t1 = some (.tup [])) (e2 : H t2 = some (.tup [.int 1])) (e3 : H t3 = some (.tup [.int 21])) (e4 : H t4 = some (.lst [.int 2, .int 3])) (e5 : H t5 = some (.tup [.int 2, .int 2, .int 2, .int 2])) (e6 : H t6 = some (.tup [.int 2, .bl true])) : NoC K H z := by
  simp only [noneL, List.mem_cons, List.not_mem_nil, or_false] at h
  rcases h with rfl | rfl | rfl | rfl | rfl | rfl | rfl | rfl
  · exact ⟨_, .non, rfl⟩
  · exact ⟨_, .tup (SqT.of e1) .nil, rfl⟩
  · exact ⟨_, .tup (SqT.of e2) (.cons (.int 1) .nil), by decide +kernel⟩
  · exact ⟨_, .tup (SqT.of e3) (.cons (.int 21) .nil), by decide +kernel⟩
  · exact ⟨_, .lst (SqL.of e4) (.cons (.int 2) (.cons (.int 3) .nil)), rfl⟩
  · exact ⟨_, .tup (SqT.of e5) (.cons (.int 2) (.cons (.int 2) (.cons (.int 2) (.cons (.int 2) .nil)))), by decide +kernel⟩
  · exact ⟨_, .tup (SqT.of e6) (.cons (.int 2) (.cons (.bl true) .nil)), by decide +kernel⟩
  · exact ⟨_, .int 7, rfl⟩
theorem purseD_r {n : Nat} {r : Int} {s : PyData} (h : ¬ (0 ≤ r ∧ r ≤ 1000000000000000000)) : purseD n (.tuple [.int r, s]) = false := by
  show ((decide (0 ≤ r) && decide (r ≤ 1000000000000000000)) && stampsD n s) = false
  by_cases a : 0 ≤ r
  · rw [decide_eq_false (fun b => h ⟨a, b⟩), Bool.and_false, Bool.false_and]
  · rw [decide_eq_false a, Bool.false_and, Bool.false_and]
theorem purseD_s {n : Nat} {r s : PyData} (h : stampsD n s = false) : purseD n (.tuple [r, s]) = false := by
  show (withinD 0 1000000000000000000 r && stampsD n s) = false
  rw [h, Bool.and_false]
theorem stampsD_l {n : Nat} {ds : List PyData} (h : ds.length ≠ n) : stampsD n (.tuple ds) = false := by
  show (decide (ds.length = n) && ds.all (withinD 0 1000000000000000000)) = false
  rw [decide_eq_false h, Bool.false_and]
theorem stampsD_in {n : Nat} {ds : List PyData} {d : PyData} (h : d ∈ ds) (w : withinD 0 1000000000000000000 d = false) : stampsD n (.tuple ds) = false := by
  show (decide (ds.length = n) && ds.all (withinD 0 1000000000000000000)) = false
  rw [List.all_eq_false.mpr ⟨d, h, by rw [w]; exact Bool.false_ne_true⟩, Bool.and_false]
theorem pursesD_in {n : Nat} {ds : List PyData} {d : PyData} (h : d ∈ ds) (w : purseD n d = false) : pursesD n (.tuple ds) = false := by
  show (decide (1 ≤ ds.length) && decide (ds.length ≤ 8) && ds.all (purseD n)) = false
  rw [List.all_eq_false.mpr ⟨d, h, by rw [w]; exact Bool.false_ne_true⟩, Bool.and_false]
theorem purseD_ints {n : Nat} {ns : List Int} : purseD n (.tuple (ns.map PyData.int)) = false := by
  match ns with
  | [] => rfl
  | [_] => rfl
  | [a, b] => exact purseD_s (s := .int b) rfl
  | _ :: _ :: _ :: _ => rfl
def badL (b1 sA l1 u2 u3 u4 u5 : Addr) : List V := ([.non, .ref b1, .ref sA, .ref l1] : List V) ++ [.ref u2, .ref u3, .ref u4, .ref u5]
theorem badL_no {K : PySem.W.Frag} {H : Hp} {b1 sA l1 u1 u2 u3 u4 u5 qA : Addr} {r : Int} {cs ss : List Int} {z : V} (h : z ∈ badL b1 sA l1 u2 u3 u4 u5) (hl : ss.length = cs.length) (e1 : H b1 = some (.tup [])) (e2 : SqT K H sA (ss.map V.int)) (e3 : H l1 = some (.lst [.int r, .ref sA])) (e4 : H u1 = some (.lst (ss.map V.int))) (e5 : H u2 = some (.tup [.int r, .ref u1])) (e6 : H u3 = some (.tup [.int (-1), .ref sA])) (e7 : SqT K H qA (ss.map V.int ++ [.int 0])) (e8 : H u4 = some (.tup [.int r, .ref qA])) (e9 : H u5 = some (.tup [.int (10 ^ (Int.toNat 18) + 1), .ref sA])) : NoT purseD K H cs z := by
  have h : z ∈ ([.non, .ref b1, .ref sA, .ref l1, .ref u2, .ref u3, .ref u4, .ref u5] : List V) := h
  simp only [List.mem_cons, List.not_mem_nil, or_false] at h
  rcases h with rfl | rfl | rfl | rfl | rfl | rfl | rfl | rfl
  · exact ⟨_, .non, rfl⟩
  · exact ⟨_, .tup (SqT.of e1) .nil, rfl⟩
  · exact ⟨_, .tup e2 (dp_ints ss), purseD_ints⟩
  · exact ⟨_, .lst (SqL.of e3) (.cons (.int r) (.cons (.tup e2 (dp_ints ss)) .nil)), rfl⟩
  · exact ⟨_, .tup (SqT.of e5) (.cons (.int r) (.cons (.lst (SqL.of e4) (dp_ints ss)) .nil)), purseD_s rfl⟩
  · exact ⟨_, .tup (SqT.of e6) (.cons (.int (-1)) (.cons (.tup e2 (dp_ints ss)) .nil)), purseD_r (by omega)⟩
  · refine ⟨_, .tup (SqT.of e8) (.cons (.int r) (.cons (.tup e7 (dpa_app (dp_ints ss) (.cons (.int 0) .nil))) .nil)), purseD_s (stampsD_l ?_)⟩
    rw [List.length_append, List.length_map, hl]
    show cs.length + 1 ≠ cs.length
    omega
  · exact ⟨_, .tup (SqT.of e9) (.cons (.int _) (.cons (.tup e2 (dp_ints ss)) .nil)), purseD_r (by decide +kernel)⟩
theorem nbt {xs : List V} : ¬ BagSh (.tup xs) := fun ⟨_, _, z⟩ => nomatch z
theorem dpa_rep {K : PySem.W.Frag} {H : Hp} {x : V} {d : PyData} (h : Dp K H x d) : ∀ n : Nat, DpAll K H (List.replicate n [x]).flatten (List.replicate n d)
  | 0 => .nil
  | n + 1 => .cons h (dpa_rep h n)
def oddM : List V := [.int (-1), .int (10 ^ (Int.toNat 18) + 1), .bl true, .non, .str "3"]
theorem oddM_no {K : PySem.W.Frag} {H : Hp} {z : V} (h : z ∈ oddM) : NoN K H z := by
  simp only [oddM, List.mem_cons, List.not_mem_nil, or_false] at h
  rcases h with rfl | rfl | rfl | rfl | rfl
  · exact ⟨_, .int _, by decide +kernel⟩
  · exact ⟨_, .int _, by decide +kernel⟩
  · exact ⟨_, .bl _, rfl⟩
  · exact ⟨_, .non, rfl⟩
  · exact ⟨_, .str _, rfl⟩

def sp_l_law (K : PySem.W.Frag) (P_l_by_cards P_l_by_purse P_l_law : Addr) : Sp := fun vs H Q E => ∃ (a : Addr) (ns : List Int), vs = [.ref a] ∧ SqL K H a (ns.map V.int) ∧ ns.length ≤ 63 ∧ LamX.Tabs (T_all P_l_by_cards P_l_by_purse P_l_law) H ∧ ∀ H', Q (.bl true) H'
set_option maxHeartbeats 4000000 in
theorem ok_p_is_within {P : Program} {w : World} {K : PySem.W.Frag} {mg : Str → Option Value} {base : Heap} {f : Addr} {fd : FuncData} (F : Fun K "is_within" "is_within" s_p_is_within f fd) (b_isinstance : mg "isinstance" = none) (b_int : mg "int" = none) (b_bool : mg "bool" = none) :
    FnOk P w K mg base CX0 1 f fd ["thing", "least", "most"] (sp_p_is_within K) := by
  refine F.ok sc_p_is_within (fun vs H Q E h => ?_) (fun cdv A outer s H vs Q E hr h => ?_)
  · obtain ⟨x, d, lo, hi, rfl, hd, q⟩ := h
    rfl
  obtain ⟨x, d, lo, hi, rfl, hd, q⟩ := h
  refine ⟨_, (pss_cons (ps_if (PW.pt (pw_or (pt_val (pe_callB call_isi (by rfl) b_isinstance PyProof.Rows.boot_isinstance (pa_cons (pv 0) (pa_cons (pe_bltn (v := .ty "bool") rfl b_bool PyProof.Rows.boot_bool rfl) pa_nil)))) (pw_or1 (pt_not (pt_val (pe_callB call_isi (by rfl) b_isinstance PyProof.Rows.boot_isinstance (pa_cons (pv 0) (pa_cons (pe_bltn (v := .ty "int") rfl b_int PyProof.Rows.boot_int rfl) pa_nil)))))))) (pss_one (ps_ret pe_bl)) pss_nil)
        (pss_one (ps_ret (pe_chain op_le op_le (pv 1) (pv 0) (pv 2))))), ?_⟩
  cases hd with
  | non => exact ⟨_, rfl, _, _, _, _, false, rfl, .ty "bool", .base .non, kit_ty (by decide +kernel), _, rfl, _, rfl, _, _, _, _, false, rfl, .ty "int", .base .non, kit_ty (by decide +kernel), _, rfl, q⟩
  | bl b => exact ⟨_, rfl, _, _, _, _, true, rfl, .ty "bool", .base (.bl b), kit_ty (by decide +kernel), _, rfl, q⟩
  | str b => exact ⟨_, rfl, _, _, _, _, false, rfl, .ty "bool", .base (.str b), kit_ty (by decide +kernel), _, rfl, _, rfl, _, _, _, _, false, rfl, .ty "int", .base (.str b), kit_ty (by decide +kernel), _, rfl, q⟩
  | lst h _ => exact ⟨_, rfl, _, _, _, _, false, rfl, .ty "bool", tyL h, kit_ty (by decide +kernel), _, rfl, _, rfl, _, _, _, _, false, rfl, .ty "int", tyL h, kit_ty (by decide +kernel), _, rfl, q⟩
  | tup h _ => exact ⟨_, rfl, _, _, _, _, false, rfl, .ty "bool", tyT h, kit_ty (by decide +kernel), _, rfl, _, rfl, _, _, _, _, false, rfl, .ty "int", tyT h, kit_ty (by decide +kernel), _, rfl, q⟩
  | int i =>
    refine ⟨_, rfl, _, _, _, _, false, rfl, .ty "bool", .base (.int i), kit_ty (by decide +kernel), _, rfl, _, rfl, _, _, _, _, true, rfl, .ty "int", .base (.int i), kit_ty (by decide +kernel), _, rfl, ?_⟩
    refine ⟨_, rfl, _, rfl, _, _, rfl, rfl, _, rfl, ite2 (fun c => ?_) (fun c => ?_)⟩
    · refine ⟨_, rfl, _, _, rfl, rfl, ?_⟩
      have q' : Q (.bl (decide (lo ≤ i) && decide (i ≤ hi))) H := q
      rw [c] at q'
      exact q'
    · have c' : decide (lo ≤ i) = false := by
        cases h : decide (lo ≤ i) with
        | true => exact absurd h c
        | false => rfl
      have q' : Q (.bl (decide (lo ≤ i) && decide (i ≤ hi))) H := q
      rw [c'] at q'
      exact q'
set_option maxHeartbeats 4000000 in
theorem ok_p_are_cards {P : Program} {w : World} {K : PySem.W.Frag} {mg : Str → Option Value} {base : Heap} {f : Addr} {fd : FuncData} (F : Fun K "are_cards" "are_cards" s_p_are_cards f fd) (D_p_is_within : Def P w K mg base "is_within" 1 ["thing", "least", "most"] (sp_p_is_within K)) (b_len : mg "len" = none) (b_isinstance : mg "isinstance" = none) (b_tuple : mg "tuple" = none) (b_all : mg "all" = none) {t_MOST_KINDS : Tok} (g_MOST_KINDS : mg "MOST_KINDS" = some (.int 3 t_MOST_KINDS)) {t_MOST_FULL : Tok} (g_MOST_FULL : mg "MOST_FULL" = some (.int 20 t_MOST_FULL)) {t_LEAST_FULL : Tok} (g_LEAST_FULL : mg "LEAST_FULL" = some (.int 2 t_LEAST_FULL)) :
    FnOk P w K mg base CX0 2 f fd ["thing"] (sp_p_are_cards K) := by
  refine F.ok sc_p_are_cards (fun vs H Q E h => ?_) (fun cdv A outer s H vs Q E hr h => ?_)
  · obtain ⟨x, d, rfl, hd, q⟩ := h
    rfl
  obtain ⟨x, d, rfl, hd, q⟩ := h
  refine ⟨_, (pss_cons (ps_if (PW.pt (pw_or (pt_not (pt_val (pe_callB call_isi (by rfl) b_isinstance PyProof.Rows.boot_isinstance (pa_cons (pv 0) (pa_cons (pe_bltn (v := .ty "tuple") rfl b_tuple PyProof.Rows.boot_tuple rfl) pa_nil))))) (pw_or1 (pt_not (pt_chain op_le op_le pe_int (pe_callB call_len_seq (by rfl) b_len PySem.boot_len (pa_cons (pv 0) pa_nil)) (pe_glob (v := .int 3) rfl g_MOST_KINDS ⟨_, rfl⟩)))))) (pss_one (ps_ret pe_bl)) pss_nil)
        (pss_one (ps_ret (pe_callB (cr_all rfl) (by rfl) b_all PyProof.Rows.boot_all (pa_cons (pe_lc (own := [("full", 1)]) (g := gName 1) (tt := tYes) rfl sc_p_are_cards.nd (pi_tup (pv 0)) (blkOk_by (own := [("full", 1)]) (N := ["thing", "full"]) (sc := defScope s_p_are_cards) (by decide +kernel)) (fun _ _ _ _ _ => (pg_name (i := 1) sc_p_are_cards.nd rfl (Or.inl rfl))) (fun _ _ _ _ _ => pts_nil) (fun _ _ _ _ _ => (pe_def D_p_is_within hr (pa_cons (pv 1) (pa_cons (pe_glob (v := .int 2) rfl g_LEAST_FULL ⟨_, rfl⟩) (pa_cons (pe_glob (v := .int 20) rfl g_MOST_FULL ⟨_, rfl⟩) pa_nil)))))) pa_nil))))), ?_⟩
  cases hd with
  | non => exact ⟨_, rfl, _, _, _, _, false, rfl, .ty "tuple", .base .non, kit_ty (by decide +kernel), _, rfl, q _ (.refl H)⟩
  | bl b => exact ⟨_, rfl, _, _, _, _, false, rfl, .ty "tuple", .base (.bl b), kit_ty (by decide +kernel), _, rfl, q _ (.refl H)⟩
  | str b => exact ⟨_, rfl, _, _, _, _, false, rfl, .ty "tuple", .base (.str b), kit_ty (by decide +kernel), _, rfl, q _ (.refl H)⟩
  | int b => exact ⟨_, rfl, _, _, _, _, false, rfl, .ty "tuple", .base (.int b), kit_ty (by decide +kernel), _, rfl, q _ (.refl H)⟩
  | lst h _ => exact ⟨_, rfl, _, _, _, _, false, rfl, .ty "tuple", tyL h, kit_ty (by decide +kernel), _, rfl, q _ (.refl H)⟩
  | @tup a xs ds h hx =>
    have hl := dp_len hx
    refine ⟨_, rfl, _, _, _, _, true, rfl, .ty "tuple", tyT h, kit_ty (by decide +kernel), _, rfl, ?_⟩
    refine ⟨_, rfl, a, _, rfl, .inr h, _, _, rfl, rfl, _, rfl, ite2 (fun c => ?_) (fun c => ?_)⟩
    · have c' : 1 ≤ ds.length := by
        have := of_decide_eq_true c
        omega
      refine ⟨_, _, rfl, rfl, _, rfl, ?_⟩
      by_cases c2 : ds.length ≤ 3
      · have e2 : decide ((xs.length : Int) ≤ 3) = true := decide_eq_true (by omega)
        rw [e2]
        refine ⟨_, rfl, a, rfl, ⟨_, h⟩, fun D nD => ?_⟩
        refine lc_tup (K := K) (a := a) (xs := xs) (fun i H' => Same H H' ∧ H' D = some (.lst (((ds.take i).map (withinD 2 20)).map V.bl))) ?_ ?_ ?_ ?_
        · exact ⟨same_new (.refl H) nD, upd_same⟩
        · rintro i H' hi ⟨sm, e⟩
          exact Same.seqT sm h
        · rintro i y H' hi ⟨sm, e⟩
          obtain ⟨d, hd1, hd2⟩ := dp_get hx hi
          have hi' : i < xs.length := (List.getElem?_eq_some_iff.mp hi).1
          refine ⟨rfl, _, rfl, y, d, _, _, rfl, Same.dp sm hd2, _, e, ?_, same_fresh sm nD, ?_⟩
          · rw [List.length_map, List.length_map, List.length_take]
            exact small1000 (by omega)
          · rw [upd_same, take_map _ hd1, List.map_append]
            rfl
        · rintro H' ⟨sm, e⟩
          rw [hl, List.take_length] at e
          refine ⟨D, _, rfl, SqL.of e, ?_⟩
          have q' := q H' sm
          have ec : cardsD (.tuple ds) = (ds.map (withinD 2 20)).all id := by
            show (decide (1 ≤ ds.length) && decide (ds.length ≤ 3) && ds.all (withinD 2 20)) = _
            rw [decide_eq_true c', decide_eq_true c2, List.all_map]
            rfl
          rw [ec] at q'
          exact q'
      · have e2 : decide ((xs.length : Int) ≤ 3) = false := decide_eq_false (by omega)
        rw [e2]
        have q' := q H (.refl H)
        have ec : cardsD (.tuple ds) = false := by
          show (decide (1 ≤ ds.length) && decide (ds.length ≤ 3) && ds.all (withinD 2 20)) = _
          rw [decide_eq_false c2, Bool.and_false, Bool.false_and]
        rw [ec] at q'
        exact q'
    · have c' : ¬ 1 ≤ ds.length := fun z => c (decide_eq_true (by omega))
      refine ⟨_, rfl, ?_⟩
      have q' := q H (.refl H)
      have ec : cardsD (.tuple ds) = false := by
        show (decide (1 ≤ ds.length) && decide (ds.length ≤ 3) && ds.all (withinD 2 20)) = _
        rw [decide_eq_false c', Bool.false_and, Bool.false_and]
      rw [ec] at q'
      exact q'
set_option maxHeartbeats 4000000 in
theorem ok_p_refuse_no_cards {P : Program} {w : World} {K : PySem.W.Frag} {mg : Str → Option Value} {base : Heap} {f : Addr} {fd : FuncData} (F : Fun K "refuse_no_cards" "refuse_no_cards" s_p_refuse_no_cards f fd) (D_p_are_cards : Def P w K mg base "are_cards" 2 ["thing"] (sp_p_are_cards K)) {C_NoCards : Addr} (T_NoCards : ExcT K mg "NoCards" C_NoCards) :
    FnOk P w K mg base (L2N.CX P w) 3 f fd ["thing"] (sp_p_refuse_no_cards mg K) := by
  refine okN F sc_p_refuse_no_cards (fun vs H Q E h => ?_) (fun cdv A outer s H vs Q E hr h => ?_)
  · obtain ⟨x, d, rfl, hd, q1, q2⟩ := h
    rfl
  obtain ⟨x, d, rfl, hd, q1, q2⟩ := h
  refine ⟨_, (pss_one (ps_if (pt_not (pt_val (pe_def D_p_are_cards hr (pa_cons (pv 0) pa_nil)))) (pss_one (ps_raiseX T_NoCards (L2N.takes_of rfl rfl rfl rfl))) pss_nil)), ?_⟩
  refine ⟨_, rfl, x, d, rfl, hd, fun H' sm => ⟨_, rfl, ?_⟩⟩
  cases z : cardsD d with
  | true => exact q1 z H' sm
  | false => exact q2 z H' _ sm T_NoCards.g
set_option maxHeartbeats 4000000 in
theorem ok_p_are_stamps {P : Program} {w : World} {K : PySem.W.Frag} {mg : Str → Option Value} {base : Heap} {f : Addr} {fd : FuncData} (F : Fun K "are_stamps" "are_stamps" s_p_are_stamps f fd) (D_p_is_within : Def P w K mg base "is_within" 1 ["thing", "least", "most"] (sp_p_is_within K)) (b_len : mg "len" = none) (b_isinstance : mg "isinstance" = none) (b_tuple : mg "tuple" = none) (b_all : mg "all" = none) {t_MOST : Tok} (g_MOST : mg "MOST" = some (.int 1000000000000000000 t_MOST)) :
    FnOk P w K mg base CX0 2 f fd ["cards", "thing"] (sp_p_are_stamps K) := by
  refine F.ok sc_p_are_stamps (fun vs H Q E h => ?_) (fun cdv A outer s H vs Q E hr h => ?_)
  · obtain ⟨cA, cs, x, d, rfl, hC, h3, hd, q⟩ := h
    rfl
  obtain ⟨cA, cs, x, d, rfl, hC, h3, hd, q⟩ := h
  refine ⟨_, (pss_cons (ps_if (PW.pt (pw_or (pt_not (pt_val (pe_callB call_isi (by rfl) b_isinstance PyProof.Rows.boot_isinstance (pa_cons (pv 1) (pa_cons (pe_bltn (v := .ty "tuple") rfl b_tuple PyProof.Rows.boot_tuple rfl) pa_nil))))) (pw_or1 (pt_cmpR op_ne (pe_callB call_len_seq (by rfl) b_len PySem.boot_len (pa_cons (pv 1) pa_nil)) (pe_callB call_len_seq (by rfl) b_len PySem.boot_len (pa_cons (pv 0) pa_nil)) (nomark _))))) (pss_one (ps_ret pe_bl)) pss_nil)
        (pss_one (ps_ret (pe_callB (cr_all rfl) (by rfl) b_all PyProof.Rows.boot_all (pa_cons (pe_lc (own := [("many", 2)]) (g := gName 2) (tt := tYes) rfl sc_p_are_stamps.nd (pi_tup (pv 1)) (blkOk_by (own := [("many", 2)]) (N := ["cards", "thing", "many"]) (sc := defScope s_p_are_stamps) (by decide +kernel)) (fun _ _ _ _ _ => (pg_name (i := 2) sc_p_are_stamps.nd rfl (Or.inl rfl))) (fun _ _ _ _ _ => pts_nil) (fun _ _ _ _ _ => (pe_def D_p_is_within hr (pa_cons (pv 2) (pa_cons pe_int (pa_cons (pe_glob (v := .int 1000000000000000000) rfl g_MOST ⟨_, rfl⟩) pa_nil)))))) pa_nil))))), ?_⟩
  cases hd with
  | non => exact ⟨_, rfl, _, _, _, _, false, rfl, .ty "tuple", .base .non, kit_ty (by decide +kernel), _, rfl, q _ (.refl H)⟩
  | bl b => exact ⟨_, rfl, _, _, _, _, false, rfl, .ty "tuple", .base (.bl b), kit_ty (by decide +kernel), _, rfl, q _ (.refl H)⟩
  | str b => exact ⟨_, rfl, _, _, _, _, false, rfl, .ty "tuple", .base (.str b), kit_ty (by decide +kernel), _, rfl, q _ (.refl H)⟩
  | int b => exact ⟨_, rfl, _, _, _, _, false, rfl, .ty "tuple", .base (.int b), kit_ty (by decide +kernel), _, rfl, q _ (.refl H)⟩
  | lst h _ => exact ⟨_, rfl, _, _, _, _, false, rfl, .ty "tuple", tyL h, kit_ty (by decide +kernel), _, rfl, q _ (.refl H)⟩
  | @tup a xs ds h hx =>
    have hl := dp_len hx
    refine ⟨_, rfl, _, _, _, _, true, rfl, .ty "tuple", tyT h, kit_ty (by decide +kernel), _, rfl, ?_⟩
    refine ⟨_, rfl, a, _, rfl, .inr h, _, rfl, cA, _, rfl, .inr hC, rfl, _, rfl, ?_⟩
    by_cases c2 : ds.length = cs.length
    · have e2 : decide (V.int (xs.length : Int) = V.int (cs.length : Int)) = true := decide_eq_true (by rw [hl, c2])
      rw [e2]
      refine ⟨_, rfl, a, rfl, ⟨_, h⟩, fun D nD => ?_⟩
      refine lc_tup (K := K) (a := a) (xs := xs) (fun i H' => Same H H' ∧ H' D = some (.lst (((ds.take i).map (withinD 0 1000000000000000000)).map V.bl))) ?_ ?_ ?_ ?_
      · exact ⟨same_new (.refl H) nD, upd_same⟩
      · rintro i H' hi ⟨sm, e⟩
        exact Same.seqT sm h
      · rintro i y H' hi ⟨sm, e⟩
        obtain ⟨d, hd1, hd2⟩ := dp_get hx hi
        have hi' : i < xs.length := (List.getElem?_eq_some_iff.mp hi).1
        refine ⟨rfl, _, rfl, y, d, _, _, rfl, Same.dp sm hd2, _, e, ?_, same_fresh sm nD, ?_⟩
        · rw [List.length_map, List.length_map, List.length_take]
          exact small1000 (by omega)
        · rw [upd_same, take_map _ hd1, List.map_append]
          rfl
      · rintro H' ⟨sm, e⟩
        rw [hl, List.take_length] at e
        refine ⟨D, _, rfl, SqL.of e, ?_⟩
        have q' := q H' sm
        have ec : stampsD cs.length (.tuple ds) = (ds.map (withinD 0 1000000000000000000)).all id := by
          show (decide (ds.length = cs.length) && ds.all (withinD 0 1000000000000000000)) = _
          rw [decide_eq_true c2, List.all_map]
          rfl
        rw [ec] at q'
        exact q'
    · have e2 : decide (V.int (xs.length : Int) = V.int (cs.length : Int)) = false := decide_eq_false (fun z => c2 (by have := V.int.inj z; omega))
      rw [e2]
      have q' := q H (.refl H)
      have ec : stampsD cs.length (.tuple ds) = false := by
        show (decide (ds.length = cs.length) && ds.all (withinD 0 1000000000000000000)) = _
        rw [decide_eq_false c2, Bool.false_and]
      rw [ec] at q'
      exact q'
set_option maxHeartbeats 4000000 in
theorem ok_p_refuse_no_stamps {P : Program} {w : World} {K : PySem.W.Frag} {mg : Str → Option Value} {base : Heap} {f : Addr} {fd : FuncData} (F : Fun K "refuse_no_stamps" "refuse_no_stamps" s_p_refuse_no_stamps f fd) (D_p_are_stamps : Def P w K mg base "are_stamps" 2 ["cards", "thing"] (sp_p_are_stamps K)) {C_NoStamps : Addr} (T_NoStamps : ExcT K mg "NoStamps" C_NoStamps) :
    FnOk P w K mg base (L2N.CX P w) 3 f fd ["cards", "thing"] (sp_p_refuse_no_stamps mg K) := by
  refine okN F sc_p_refuse_no_stamps (fun vs H Q E h => ?_) (fun cdv A outer s H vs Q E hr h => ?_)
  · obtain ⟨cA, cs, x, d, rfl, hC, h3, hd, q1, q2⟩ := h
    rfl
  obtain ⟨cA, cs, x, d, rfl, hC, h3, hd, q1, q2⟩ := h
  refine ⟨_, (pss_one (ps_if (pt_not (pt_val (pe_def D_p_are_stamps hr (pa_cons (pv 0) (pa_cons (pv 1) pa_nil))))) (pss_one (ps_raiseX T_NoStamps (L2N.takes_of rfl rfl rfl rfl))) pss_nil)), ?_⟩
  refine ⟨_, rfl, _, rfl, cA, cs, x, d, rfl, hC, h3, hd, fun H' sm => ⟨_, rfl, ?_⟩⟩
  cases z : stampsD cs.length d with
  | true => exact q1 z H' sm
  | false => exact q2 z H' _ sm T_NoStamps.g
set_option maxHeartbeats 4000000 in
theorem ok_p_period_of {P : Program} {w : World} {K : PySem.W.Frag} {mg : Str → Option Value} {base : Heap} {f : Addr} {fd : FuncData} (F : Fun K "period_of" "period_of" s_p_period_of f fd) :
    FnOk P w K mg base CX0 1 f fd ["cards"] (sp_p_period_of K) := by
  refine F.ok sc_p_period_of (fun vs H Q E h => ?_) (fun cdv A outer s H vs Q E hr h => ?_)
  · obtain ⟨cA, cs, rfl, hC, hK, q⟩ := h
    rfl
  obtain ⟨cA, cs, rfl, hC, hK, q⟩ := h
  refine ⟨_, (pss_cons (ps_set (i := 1) sc_p_period_of.nd rfl (Or.inl rfl) pe_int)
        (pss_cons (ps_for PassesOwn.never rfl (pi_tup (pv 0)) (pg_name (i := 2) sc_p_period_of.nd rfl (Or.inl rfl)) (pss_cons (ps_set (i := 3) sc_p_period_of.nd rfl (Or.inl rfl) (pv 1))
        (pss_one (ps_while PassesOwn.never (pt_cmpR op_ne (pe_op op_mod (pv 1) (pv 2)) pe_int (nomark _)) (pss_one (ps_aug (i := 1) sc_p_period_of.nd rfl (Or.inl rfl) (pv 3) ip_add))))))
        (pss_one (ps_ret (pv 1))))), ?_⟩
  refine ⟨_, rfl, cA, rfl, ⟨_, hC⟩, ?_⟩
  refine for_tup (K := K) (a := cA) (xs := cs.map V.int) (fun i σ H' => ∃ y2 y3, σ = [some (.ref cA), some (.int (perFrom 1 (cs.take i))), y2, y3] ∧ H' = H) ?_ ?_ ?_ ?_
  · exact ⟨_, _, rfl, rfl⟩
  · rintro i σ H' hi ⟨y2, y3, rfl, rfl⟩
    exact hC
  · rintro i x σ H' hi ⟨y2, y3, rfl, rfl⟩
    obtain ⟨c, hc, rfl⟩ := get_map hi
    have hm : c ∈ cs := List.mem_of_getElem? hc
    obtain ⟨c2, c20⟩ := hK.2.2 c hm
    have et : perFrom 1 (cs.take (i + 1)) = perGo 20 (perFrom 1 (cs.take i)) (perFrom 1 (cs.take i)) c := by
      unfold perFrom
      rw [List.take_add_one, hc, List.foldl_append]
      rfl
    have h1 := (perFrom_ok (cs.take i) 1 (fun z hz => hK.2.2 z (List.mem_of_mem_take hz)) (by omega)).1
    generalize perFrom 1 (cs.take i) = st at et h1 ⊢
    refine ⟨_, rfl, ?_⟩
    refine while_by (fun σ H'' => ∃ (n : Nat) (k p : Int), σ = [some (.ref cA), some (.int p), some (.int c), some (.int st)] ∧ H'' = H' ∧ p = st * k ∧ 1 ≤ k ∧ k ≤ c ∧ (n : Int) + k = 21 ∧ perGo n st p c = perGo 20 st st c) (fun (σ : L2.St) (_ : Hp) => match σ with | [_, some (V.int p), some (V.int c), some (V.int st)] => (st * c - p).toNat | _ => 0) ?_ ?_ ?_
    · exact ⟨20, 1, st, rfl, rfl, by omega, by omega, by omega, by omega, rfl⟩
    · rintro σ H'' ⟨n, k, p, rfl, rfl, hp, k1, kc, hn, hg⟩
      refine ⟨_, rfl, _, rfl, _, _, rfl, rfl, (by omega), rfl, _, rfl, ?_⟩
      obtain ⟨n', rfl⟩ : ∃ n', n = n' + 1 := ⟨n - 1, by omega⟩
      rw [perGo_succ] at hg
      by_cases z : p % c = 0
      · rw [if_pos z] at hg
        refine iteNS (c := V.int (p % c) = V.int 0) (by rw [z]) ?_
        refine ⟨some (.int c), some (.int st), ?_, rfl⟩
        rw [et, ← hg]
      · rw [if_neg z] at hg
        have hd : decide (V.int (p % c) = V.int 0) = false := decide_eq_false (fun e => z (V.int.inj e))
        refine ite2 (fun _ => ?_) (fun e => absurd (show (!decide (V.int (p % c) = V.int 0)) = true by rw [hd]; rfl) e)
        have kc' : k ≠ c := fun e => z (by rw [hp, e]; exact Int.mul_emod_left _ _)
        have e1 : st * (k + 1) = p + st := by rw [Int.mul_add, Int.mul_one, hp]
        have e2 : st * (k + 1) ≤ st * c := Int.mul_le_mul_of_nonneg_left (by omega) (by omega)
        refine ⟨_, rfl, _, rfl, _, _, rfl, rfl, ⟨n', k + 1, _, rfl, rfl, e1.symm, by omega, by omega, by omega, hg⟩, ?_⟩
        show (st * c - (p + st)).toNat < (st * c - p).toNat
        omega
    · rintro σ H'' Q1 Q2 hq ⟨v, e, v2, e', i, j, e1, e2, hj, hs, k, e3, h⟩
      exact ⟨v, e, v2, e', i, j, e1, e2, hj, hs, k, e3, hq _ _ h⟩
  · rintro σ H' ⟨y2, y3, rfl, rfl⟩
    rw [List.length_map, List.take_length]
    exact ⟨_, rfl, q⟩
set_option maxHeartbeats 4000000 in
theorem ok_p_period_pays {P : Program} {w : World} {K : PySem.W.Frag} {mg : Str → Option Value} {base : Heap} {f : Addr} {fd : FuncData} (F : Fun K "period_pays" "period_pays" s_p_period_pays f fd) (D_p_period_of : Def P w K mg base "period_of" 1 ["cards"] (sp_p_period_of K)) (b_sum : mg "sum" = none) :
    FnOk P w K mg base CX0 2 f fd ["cards"] (sp_p_period_pays K) := by
  refine F.ok sc_p_period_pays (fun vs H Q E h => ?_) (fun cdv A outer s H vs Q E hr h => ?_)
  · obtain ⟨cA, cs, rfl, hC, hK, q⟩ := h
    rfl
  obtain ⟨cA, cs, rfl, hC, hK, q⟩ := h
  refine ⟨_, (pss_cons (ps_set (i := 1) sc_p_period_pays.nd rfl (Or.inr rfl) (pe_def D_p_period_of hr (pa_cons (pv 0) pa_nil)))
        (pss_one (ps_ret (pe_cmpR op_ge (pe_callB (cr_sum rfl) (by rfl) b_sum PyProof.Rows.boot_sum (pa_cons (pe_lc (own := [("full", 2)]) (g := gName 2) (tt := tYes) rfl sc_p_period_pays.nd (pi_tup (pv 0)) (blkOk_by (own := [("full", 2)]) (N := ["cards", "period", "full"]) (sc := defScope s_p_period_pays) (by decide +kernel)) (fun _ _ _ _ _ => (pg_name (i := 2) sc_p_period_pays.nd rfl (Or.inl rfl))) (fun _ _ _ _ _ => pts_nil) (fun _ _ _ _ _ => (pe_op op_fdiv (pv 1) (pv 2)))) pa_nil)) (pv 1) (nomark _))))), ?_⟩
  refine ⟨_, rfl, cA, cs, rfl, hC, hK, ?_⟩
  refine ⟨_, rfl, cA, rfl, ⟨_, hC⟩, fun D nD => ?_⟩
  refine lc_tup (K := K) (a := cA) (xs := cs.map V.int) (fun i H' => Same H H' ∧ H' D = some (.lst (((cs.take i).map (fun c => perOf cs / c)).map V.int))) ?_ ?_ ?_ ?_
  · exact ⟨same_new (.refl H) nD, upd_same⟩
  · rintro i H' hi ⟨sm, e⟩
    exact Same.seqT sm hC
  · rintro i y H' hi ⟨sm, e⟩
    obtain ⟨c, hc, rfl⟩ := get_map hi
    obtain ⟨c2, c20⟩ := hK.2.2 c (List.mem_of_getElem? hc)
    have hi' : i < cs.length := (List.getElem?_eq_some_iff.mp hc).1
    have h3 := hK.2.1
    refine ⟨rfl, _, rfl, _, rfl, _, _, rfl, rfl, ⟨by omega, by omega⟩, _, e, ?_, same_fresh sm nD, ?_⟩
    · rw [List.length_map, List.length_map, List.length_take]
      exact small1000 (by omega)
    · rw [upd_same, take_map _ hc, List.map_append]
      rfl
  · rintro H' ⟨sm, e⟩
    rw [List.length_map, List.take_length] at e
    refine ⟨D, _, rfl, SqL.of e, _, rfl, _, _, rfl, rfl, ?_⟩
    refine q _ H' sm ?_
    rw [pq_sum, decide_eq_true_eq]
set_option maxHeartbeats 4000000 in
theorem ok_p_full_cards {P : Program} {w : World} {K : PySem.W.Frag} {mg : Str → Option Value} {base : Heap} {f : Addr} {fd : FuncData} (F : Fun K "full_cards" "full_cards" s_p_full_cards f fd) (b_sum : mg "sum" = none) (b_zip : mg "zip" = none) :
    FnOk P w K mg base CX0 1 f fd ["cards", "stamps", "ridden"] (sp_p_full_cards K) := by
  refine F.ok sc_p_full_cards (fun vs H Q E h => ?_) (fun cdv A outer s H vs Q E hr h => ?_)
  · obtain ⟨cA, sA, cs, ss, n, rfl, hC, hS, hl, hK, q⟩ := h
    rfl
  obtain ⟨cA, sA, cs, ss, n, rfl, hC, hS, hl, hK, q⟩ := h
  refine ⟨_, (pss_one (ps_ret (pe_callB (cr_sum rfl) (by rfl) b_sum PyProof.Rows.boot_sum (pa_cons (pe_lc (own := [("full", 3), ("many", 4)]) (g := gTup K 2 (gCons (gName 3) (gCons (gName 4) gNil))) (tt := tYes) rfl sc_p_full_cards.nd (RZ.pi_zipA rfl b_zip (pa_cons (pv 0) (pa_cons (pv 1) pa_nil))) (blkOk_by (own := [("full", 3), ("many", 4)]) (N := ["cards", "stamps", "ridden", "full", "many"]) (sc := defScope s_p_full_cards) (by decide +kernel)) (fun _ _ _ _ _ => (pg_tup rfl (pgs_cons (pg_name (i := 3) sc_p_full_cards.nd rfl (Or.inl rfl)) (pgs_cons (pg_name (i := 4) sc_p_full_cards.nd rfl (Or.inl rfl)) pgs_nil)))) (fun _ _ _ _ _ => pts_nil) (fun _ _ _ _ _ => (pe_op op_fdiv (pe_op op_add (pv 4) (pv 2)) (pv 3)))) pa_nil)))), ?_⟩
  refine ⟨_, rfl, _, rfl, cA, sA, _, _, rfl, .inr ⟨hC, hS, fun D nD => ?_⟩⟩
  refine lc_zipT (K := K) (a := cA) (b := sA) (xs := cs.map V.int) (ys := ss.map V.int) (by rw [List.length_map, List.length_map, hl]) (fun i H' => Same H H' ∧ H' D = some (.lst (((fcl cs ss n).take i).map V.int))) ?_ ?_ ?_ ?_
  · exact ⟨same_new (.refl H) nD, upd_same⟩
  · rintro i H' ⟨sm, e⟩
    exact ⟨Same.seqT sm hC, Same.seqT sm hS⟩
  · rintro i x y T H' hx hy ⟨sm, e⟩ nT
    obtain ⟨c, hc, rfl⟩ := get_map hx
    obtain ⟨s', hs, rfl⟩ := get_map hy
    obtain ⟨c2, c20⟩ := hK.2.2 c (List.mem_of_getElem? hc)
    have hi : i < cs.length := (List.getElem?_eq_some_iff.mp hc).1
    have h3 := hK.2.1
    have e' : (upd H' T (.tup [.int c, .int s'])) D = some (.lst (((fcl cs ss n).take i).map V.int)) := by
      rw [upd_ne (ne_of_none e nT)]
      exact e
    refine ⟨T, _, rfl, SqT.of upd_same, rfl, _, _, rfl, _, _, rfl, rfl, rfl, _, rfl, _, rfl, _, _, rfl, rfl, _, rfl, _, _, rfl, rfl, ⟨by omega, by omega⟩, _, e', ?_, same_fresh (same_new sm nT) nD, ?_⟩
    · rw [List.length_map, List.length_take]
      exact small1000 (by omega)
    · rw [upd_same, List.take_add_one, fcl_get hc hs, List.map_append]
      rfl
  · rintro H' ⟨sm, e⟩
    rw [List.length_map, List.take_of_length_le (by rw [fcl_len hl]; exact Nat.le_refl _)] at e
    refine ⟨D, _, rfl, SqL.of e, ?_⟩
    rw [fcl_sum]
    exact q H' sm
set_option maxHeartbeats 4000000 in
theorem ok_p_rides_wanted {P : Program} {w : World} {K : PySem.W.Frag} {mg : Str → Option Value} {base : Heap} {f : Addr} {fd : FuncData} (F : Fun K "rides_wanted" "rides_wanted" s_p_rides_wanted f fd) (D_p_full_cards : Def P w K mg base "full_cards" 1 ["cards", "stamps", "ridden"] (sp_p_full_cards K)) (b_range : mg "range" = none) (b_max : mg "max" = none) :
    FnOk P w K mg base CX0 2 f fd ["cards", "stamps", "first", "end"] (sp_p_rides_wanted K) := by
  refine F.ok sc_p_rides_wanted (fun vs H Q E h => ?_) (fun cdv A outer s H vs Q E hr h => ?_)
  · obtain ⟨cA, sA, cs, ss, lo, hi, rfl, hC, hS, hl, hK, h0, h1, h2, q⟩ := h
    rfl
  obtain ⟨cA, sA, cs, ss, lo, hi, rfl, hC, hS, hl, hK, h0, h1, h2, q⟩ := h
  refine ⟨_, (pss_cons (ps_set (i := 4) sc_p_rides_wanted.nd rfl (Or.inl rfl) pe_int)
        (pss_cons (ps_for PassesOwn.never rfl (pi_range2 rfl b_range (pa_cons (pv 2) (pa_cons (pv 3) pa_nil))) (pg_name (i := 5) sc_p_rides_wanted.nd rfl (Or.inl rfl)) (pss_one (ps_set (i := 4) sc_p_rides_wanted.nd rfl (Or.inl rfl) (pe_callB (call_max2 rfl) (by rfl) b_max PyProof.Rows.boot_max (pa_cons (pv 4) (pa_cons (pe_op op_sub (pe_op op_add (pv 5) pe_int) (pe_def D_p_full_cards hr (pa_cons (pv 0) (pa_cons (pv 1) (pa_cons (pv 5) pa_nil))))) pa_nil))))))
        (pss_one (ps_ret (pv 4))))), ?_⟩
  refine ⟨_, rfl, _, rfl, lo, hi, rfl, ⟨by omega, by omega, by omega, by omega⟩, ?_⟩
  refine for_range (lo := lo) (n := (hi - lo).toNat) (fun i σ H' => ∃ (v : Int) (y : Option V), σ = [some (.ref cA), some (.ref sA), some (.int lo), some (.int hi), some (.int v), y] ∧ Same H H' ∧ Want cs ss lo (lo + i) v) ?_ ?_ ?_
  · exact ⟨0, _, rfl, .refl H, by omega, fun m m0 m1 => by omega, .inl rfl⟩
  · rintro i σ H' hi' ⟨v, y, rfl, sm, hw⟩
    refine ⟨_, rfl, _, rfl, _, _, rfl, rfl, _, rfl, _, rfl, _, rfl, cA, sA, cs, ss, _, rfl, Same.seqT sm hC, Same.seqT sm hS, hl, hK, fun H2 s2 => ?_⟩
    refine ⟨_, _, rfl, rfl, _, _, rfl, _, _, rfl, sm.trans s2, ?_⟩
    have := want_step hw (by omega)
    rw [show lo + ((i + 1 : Nat) : Int) = lo + (i : Int) + 1 by omega]
    exact this
  · rintro σ H' ⟨v, y, rfl, sm, hw⟩
    rw [show lo + (((hi - lo).toNat : Nat) : Int) = hi by omega] at hw
    exact ⟨_, rfl, q v H' sm hw⟩
set_option maxHeartbeats 4000000 in
theorem ok_p_least_endless {P : Program} {w : World} {K : PySem.W.Frag} {mg : Str → Option Value} {base : Heap} {f : Addr} {fd : FuncData} (F : Fun K "least_endless" "least_endless" s_p_least_endless f fd) (D_p_refuse_no_cards : DefX P w K mg base "refuse_no_cards" 3 ["thing"] (sp_p_refuse_no_cards mg K)) (D_p_refuse_no_stamps : DefX P w K mg base "refuse_no_stamps" 3 ["cards", "thing"] (sp_p_refuse_no_stamps mg K)) (D_p_period_pays : Def P w K mg base "period_pays" 2 ["cards"] (sp_p_period_pays K)) (D_p_rides_wanted : Def P w K mg base "rides_wanted" 2 ["cards", "stamps", "first", "end"] (sp_p_rides_wanted K)) (D_p_period_of : Def P w K mg base "period_of" 1 ["cards"] (sp_p_period_of K)) :
    FnOk P w K mg base (L2N.CX P w) 4 f fd ["cards", "stamps"] (sp_p_least_endless mg K) := by
  refine okN F sc_p_least_endless (fun vs H Q E h => ?_) (fun cdv A outer s H vs Q E hr h => ?_)
  · obtain ⟨x, y, rfl, h⟩ := h
    rfl
  obtain ⟨x, y, rfl, h⟩ := h
  refine ⟨_, (pss_cons (ps_expr (pe_defX D_p_refuse_no_cards hr (L2N.takes_of rfl rfl rfl rfl) (pa_cons (pv 0) pa_nil)))
        (pss_cons (ps_expr (pe_defX D_p_refuse_no_stamps hr (L2N.takes_of rfl rfl rfl rfl) (pa_cons (pv 0) (pa_cons (pv 1) pa_nil))))
        (PSs.nox (pss_cons (ps_if (pt_not (pt_val (pe_def D_p_period_pays hr (pa_cons (pv 0) pa_nil)))) (pss_one (ps_ret pe_non)) pss_nil)
        (pss_one (ps_ret (pe_def D_p_rides_wanted hr (pa_cons (pv 0) (pa_cons (pv 1) (pa_cons pe_int (pa_cons (pe_def D_p_period_of hr (pa_cons (pv 0) pa_nil)) pa_nil))))))))))), ?_⟩
  rcases h with ⟨⟨d, hd, hc⟩, q⟩ | ⟨cs, ⟨cA, rfl, hC, hK⟩, ⟨d, hd, hb⟩, q⟩
  · exact ⟨_, rfl, x, d, rfl, hd, fun z => (by rw [hc] at z; cases z), fun _ H' C s g => q H' C s g⟩
  · refine ⟨_, rfl, _, _, rfl, .tup hC (dp_ints cs), fun _ H1 s1 => ?_, fun z => by rw [cardsD_ok hK] at z; cases z⟩
    refine ⟨_, rfl, _, rfl, cA, _, y, d, rfl, Same.seqT s1 hC, ?_, Same.dp s1 hd, fun z => ?_, fun _ => q.same s1⟩
    · rw [List.length_map]
      exact hK.2.1
    · rw [List.length_map, hb] at z
      cases z
set_option maxHeartbeats 4000000 in
theorem ok_l_draws {P : Program} {w : World} {K : PySem.W.Frag} {mg : Str → Option Value} {base : Heap} {f : Addr} {fd : FuncData} (F : Fun K "_law_draws" "_law_draws" s_l_draws f fd) (b_int : mg "int" = none) (b_range : mg "range" = none) :
    FnOk P w K mg base CX0 1 f fd ["cell", "many", "size"] (sp_l_draws K) := by
  refine F.ok sc_l_draws (fun vs H Q E h => ?_) (fun cdv A outer s H vs Q E hr h => ?_)
  · obtain ⟨cell, rfl, q⟩ := h
    rfl
  obtain ⟨cell, rfl, q⟩ := h
  refine ⟨_, (pss_cons (ps_set (i := 3) sc_l_draws.nd rfl (Or.inl rfl) (pe_lst pa_nil))
        (pss_cons (ps_set (i := 4) sc_l_draws.nd rfl (Or.inl rfl) (pe_op op_mul (pv 0) (pe_callTy call_int1 (by rfl) b_int PyProof.Rows.boot_int (pa_cons (pe_cmpR op_ge (pv 0) (pe_op op_pow pe_int pe_int) (nomark _)) pa_nil))))
        (pss_cons (ps_set (i := 5) sc_l_draws.nd rfl (Or.inl rfl) (pe_op op_mod (pv 0) pe_int))
        (pss_cons (ps_for PassesOwn.never rfl (pi_range1 rfl b_range (pa_cons (pe_op op_add (pv 1) pe_int) pa_nil)) (pg_name (i := 6) sc_l_draws.nd rfl (Or.inl rfl)) (pss_cons (ps_set (i := 5) sc_l_draws.nd rfl (Or.inl rfl) (pe_op op_mod (pe_op op_add (pe_op op_add (pe_op op_add (pe_op op_mul (pv 5) (pv 5)) (pe_op op_mul pe_int (pv 5))) (pv 6)) pe_int) pe_int))
        (pss_one (ps_if (PW.pt (pw_and (pt_cmpR op_gt (pv 6) pe_int (nomark _)) (pw_and1 (pt_cmpR op_gt (pv 4) pe_int (nomark _))))) (pss_cons (ps_expr (pe_bm PySem.F.plainAttrs_list PySem.F.slot_list_append PySem.F.type_list_append mt_append (pv 3) (pa_cons (pe_op op_mod (pv 4) (pv 2)) pa_nil)))
        (pss_one (ps_set (i := 4) sc_l_draws.nd rfl (Or.inl rfl) (pe_op op_fdiv (pv 4) (pv 2))))) (pss_one (ps_if (pt_cmpR op_gt (pv 6) pe_int (nomark _)) (pss_one (ps_expr (pe_bm PySem.F.plainAttrs_list PySem.F.slot_list_append PySem.F.type_list_append mt_append (pv 3) (pa_cons (pe_op op_mod (pe_op op_fdiv (pv 5) pe_int) (pv 2)) pa_nil)))) pss_nil))))))
        (pss_one (ps_ret (pv 3))))))), ?_⟩
  refine ⟨Nat.zero_le _, fun p np => ?_⟩
  refine ⟨_, rfl, _, rfl, _, _, rfl, rfl, ⟨by decide, by decide, by decide⟩, _, _, rfl, rfl, .inr ⟨_, rfl, _, _, rfl, rfl, .inr ?_, ?_⟩⟩
  · split <;> decide
  refine ⟨_, rfl, _, _, rfl, rfl, p0, ?_⟩
  refine ⟨_, rfl, _, _, rfl, rfl, _, rfl, by decide, by decide, ?_⟩
  refine for_range (lo := 0) (n := 403) (fun i σ H' => ∃ (r st : Int) (ds : List Int) (y : Option V), σ = [some (.int cell), some (.int 400), some (.int 1000), some (.ref p), some (.int r), some (.int st), y] ∧ Kp H H' ∧ H' p = some (.lst (ds.map V.int)) ∧ ds.length = i - 3 ∧ (∀ x ∈ ds, (0 : Int) ≤ x ∧ x < 1000) ∧ 0 ≤ st ∧ st < 2305843009213693951) ?_ ?_ ?_
  · exact ⟨_, _, [], _, rfl, .new (.refl H) np, upd_same, rfl, (fun x hx => nomatch hx), Int.emod_nonneg _ (by decide), Int.emod_lt_of_pos _ (by decide)⟩
  · rintro i σ H' hi ⟨r, st, ds, y, rfl, sm, e, hl, hd, h0, h1⟩
    refine ⟨_, rfl, _, rfl, _, _, rfl, rfl, .inl ⟨by omega, by omega⟩, _, rfl, _, _, rfl, rfl, .inl ⟨by decide, by decide⟩, _, _, rfl, rfl, _, rfl, _, _, rfl, rfl, _, _, rfl, rfl, _, _, rfl, rfl, p0, ?_⟩
    have hz : ∀ z : Int, 0 ≤ z % 2305843009213693951 ∧ z % 2305843009213693951 < 2305843009213693951 := fun z => ⟨Int.emod_nonneg _ (by decide), Int.emod_lt_of_pos _ (by decide)⟩
    have hx : ∀ z : Int, ∀ x ∈ ds ++ [z % 1000], (0 : Int) ≤ x ∧ x < 1000 := fun z x hx => by
      rcases List.mem_append.mp hx with g | g
      · exact hd x g
      · rw [List.mem_singleton.mp g]
        exact ⟨Int.emod_nonneg _ (by decide), Int.emod_lt_of_pos _ (by decide)⟩
    have hb : (ds.map V.int).length < sizeLine := by
      rw [List.length_map]
      exact small1000 (by omega)
    refine ⟨_, rfl, _, _, rfl, rfl, _, rfl, ite2 (fun c => ?_) (fun c => ?_)⟩
    · have c' := of_decide_eq_true c
      refine ⟨_, rfl, _, _, rfl, rfl, _, rfl, ite2 (fun c2 => ?_) (fun c2 => ?_)⟩
      · refine ⟨_, rfl, .inl ⟨rfl, _, SqL.of e⟩, _, rfl, _, rfl, _, _, rfl, rfl, p0, p, _, _, rfl, rfl, e, hb, ?_⟩
        refine ⟨_, rfl, _, rfl, _, _, rfl, rfl, ⟨by decide, by decide⟩, ?_⟩
        refine ⟨_, _, ds ++ [r % 1000], _, rfl, sm.fresh np, ?_, ?_, hx _, (hz _).1, (hz _).2⟩
        · rw [upd_same, List.map_append]
          rfl
        · rw [List.length_append, List.length_singleton]
          omega
      · refine ⟨_, rfl, _, _, rfl, rfl, _, rfl, ite2 (fun c3 => ?_) (fun c3 => absurd c c3)⟩
        refine ⟨_, rfl, .inl ⟨rfl, _, SqL.of e⟩, _, rfl, _, _, rfl, rfl, ⟨by decide, by decide⟩, _, rfl, _, _, rfl, rfl, p0, p, _, _, rfl, rfl, e, hb, ?_⟩
        refine ⟨_, _, ds ++ [(st * st + 48271 * st + (0 + (i : Int)) + 1) % 2305843009213693951 / 4096 % 1000], _, rfl, sm.fresh np, ?_, ?_, hx _, (hz _).1, (hz _).2⟩
        · rw [upd_same, List.map_append]
          rfl
        · rw [List.length_append, List.length_singleton]
          omega
    · refine iteF ⟨_, rfl, _, _, rfl, rfl, _, rfl, ite2 (fun c3 => absurd c3 c) (fun c3 => ?_)⟩
      have c' : ¬ ((2 : Int) < 0 + (i : Int)) := fun z => c (decide_eq_true z)
      exact ⟨_, _, ds, _, rfl, sm, e, by omega, hd, (hz _).1, (hz _).2⟩
  · rintro σ H' ⟨r, st, ds, y, rfl, sm, e, hl, hd, h0, h1⟩
    exact ⟨_, rfl, q p ds H' sm np e hl hd⟩
set_option maxHeartbeats 4000000 in
theorem ok_l_cell_at {P : Program} {w : World} {K : PySem.W.Frag} {mg : Str → Option Value} {base : Heap} {f : Addr} {fd : FuncData} (F : Fun K "_law_cell_at" "_law_cell_at" s_l_cell_at f fd) (b_len : mg "len" = none) :
    FnOk P w K mg base CX0 1 f fd ["script", "k"] (sp_l_cell_at K) := by
  refine F.ok sc_l_cell_at (fun vs H Q E h => ?_) (fun cdv A outer s H vs Q E hr h => ?_)
  · obtain ⟨a, ns, k, rfl, hS, h0, q⟩ := h
    rfl
  obtain ⟨a, ns, k, rfl, hS, h0, q⟩ := h
  refine ⟨_, (pss_cons (ps_if (pt_cmpR op_lt (pv 1) (pe_callB call_len_seq (by rfl) b_len PySem.boot_len (pa_cons (pv 0) pa_nil)) (nomark _)) (pss_one (ps_ret (pe_ix ix_list (pv 0) (pv 1) (fun _ _ => rfl)))) pss_nil)
        (pss_one (ps_ret pe_int))), ?_⟩
  refine ⟨_, rfl, _, rfl, a, _, rfl, .inl hS, _, _, rfl, rfl, _, rfl, ite2 (fun c => ?_) (fun c => ?_)⟩
  · have c' := of_decide_eq_true c
    rw [List.length_map] at c'
    obtain ⟨v, _, _, hv⟩ := at_int h0 c'
    exact ⟨_, rfl, _, rfl, a, _, _, _, rfl, rfl, hS, hv, q v⟩
  · exact q 0
set_option maxHeartbeats 4000000 in
theorem ok_l_bag {P : Program} {w : World} {K : PySem.W.Frag} {mg : Str → Option Value} {base : Heap} {f : Addr} {fd : FuncData} (F : Fun K "_law_bag" "_law_bag" s_l_bag f fd) (D_l_draws : Def P w K mg base "_law_draws" 1 ["cell", "many", "size"] (sp_l_draws K)) (D_l_cell_at : Def P w K mg base "_law_cell_at" 1 ["script", "k"] (sp_l_cell_at K)) :
    FnOk P w K mg base CX0 2 f fd ["script", "k"] (sp_l_bag K) := by
  refine F.ok sc_l_bag (fun vs H Q E h => ?_) (fun cdv A outer s H vs Q E hr h => ?_)
  · obtain ⟨a, ns, k, rfl, hS, h0, q⟩ := h
    rfl
  obtain ⟨a, ns, k, rfl, hS, h0, q⟩ := h
  refine ⟨_, (pss_one (ps_ret (pe_lst (pa_cons (pe_def D_l_draws hr (pa_cons (pe_def D_l_cell_at hr (pa_cons (pv 0) (pa_cons (pv 1) pa_nil))) (pa_cons pe_int (pa_cons pe_int pa_nil)))) (pa_cons pe_int pa_nil))))), ?_⟩
  refine ⟨_, rfl, _, rfl, a, ns, k, rfl, hS, h0, fun v => ?_⟩
  refine ⟨v, rfl, fun d ds H1 k1 nd e hl hd => ?_⟩
  refine ⟨(by show 2 ≤ sizeLine; decide), fun p np => ?_⟩
  refine q p _ (k1.new np) ⟨d, 0, ds, upd_same, ?_, hl, hd⟩ (k1.none np)
  rw [upd_ne (ne_of_none e np)]
  exact e
set_option maxHeartbeats 4000000 in
theorem ok_l_bags {P : Program} {w : World} {K : PySem.W.Frag} {mg : Str → Option Value} {base : Heap} {f : Addr} {fd : FuncData} (F : Fun K "_law_bags" "_law_bags" s_l_bags f fd) (D_l_bag : Def P w K mg base "_law_bag" 2 ["script", "k"] (sp_l_bag K)) (b_range : mg "range" = none) (b_max : mg "max" = none) (b_min : mg "min" = none) (b_len : mg "len" = none) :
    FnOk P w K mg base CX0 3 f fd ["script", "limit"] (sp_l_bags K) := by
  refine F.ok sc_l_bags (fun vs H Q E h => ?_) (fun cdv A outer s H vs Q E hr h => ?_)
  · obtain ⟨a, ns, m, rfl, hS, h63, m0, m1, q⟩ := h
    rfl
  obtain ⟨a, ns, m, rfl, hS, h63, m0, m1, q⟩ := h
  refine ⟨_, (pss_one (ps_ret (pe_lc (own := [("k", 2)]) (g := gName 2) (tt := tYes) rfl sc_l_bags.nd (pi_range1 rfl b_range (pa_cons (pe_callB (call_max2 rfl) (by rfl) b_max PyProof.Rows.boot_max (pa_cons pe_int (pa_cons (pe_callB (call_min2 rfl) (by rfl) b_min PyProof.Rows.boot_min (pa_cons (pv 1) (pa_cons (pe_callB call_len_seq (by rfl) b_len PySem.boot_len (pa_cons (pv 0) pa_nil)) pa_nil))) pa_nil))) pa_nil)) (blkOk_by (own := [("k", 2)]) (N := ["script", "limit", "k"]) (sc := defScope s_l_bags) (by decide +kernel)) (fun _ _ _ _ _ => (pg_name (i := 2) sc_l_bags.nd rfl (Or.inl rfl))) (fun _ _ _ _ _ => pts_nil) (fun _ _ _ _ _ => (pe_def D_l_bag hr (pa_cons (pv 0) (pa_cons (pv 2) pa_nil))))))), ?_⟩
  refine ⟨_, rfl, _, rfl, a, _, rfl, .inl hS, _, _, rfl, _, _, rfl, _, rfl, ?_⟩
  generalize hn : (if (if (((ns.map V.int).length : Nat) : Int) < m then (((ns.map V.int).length : Nat) : Int) else m) > 1 then (if (((ns.map V.int).length : Nat) : Int) < m then (((ns.map V.int).length : Nat) : Int) else m) else 1) = n
  have h1 : 1 ≤ n ∧ n ≤ 1000 := by
    rw [List.length_map] at hn
    split at hn <;> split at hn <;> omega
  refine ⟨by omega, by omega, fun D nD => ?_⟩
  refine lc_range (lo := 0) (n := n.toNat) (fun i H' => ∃ bs : List Addr, bs.length = i ∧ Kp H H' ∧ H' D = some (.lst (bs.map V.ref)) ∧ ∀ b ∈ bs, Bag H' b) ?_ ?_ ?_
  · exact ⟨[], rfl, .new (.refl H) nD, upd_same, fun b hb => nomatch hb⟩
  · rintro i H1 hi ⟨bs, hl, k1, e, hb⟩
    refine ⟨rfl, _, rfl, _, rfl, a, ns, _, rfl, k1.ints hS, by omega, fun p H2 k2 hp np => ?_⟩
    have e2 : H2 D = some (.lst (bs.map V.ref)) := k2.keep _ _ e nrefs
    refine ⟨_, e2, ?_, bs ++ [p], ?_, (k1.trans k2).fresh nD, ?_, fun b hm => ?_⟩
    · rw [List.length_map]
      exact small1000 (by omega)
    · rw [List.length_append, List.length_singleton, hl]
    · rw [upd_same, List.map_append]
      rfl
    · have hg : Bag H2 b := by
        rcases List.mem_append.mp hm with g | g
        · exact k2.bags (hb b g)
        · rw [List.mem_singleton.mp g]
          exact hp
      exact bag_upd hg e2
  · rintro H1 ⟨bs, hl, k1, e, hb⟩
    exact q D bs H1 k1 nD e (by omega) hb
set_option maxHeartbeats 4000000 in
theorem ok_l_take {P : Program} {w : World} {K : PySem.W.Frag} {mg : Str → Option Value} {base : Heap} {f : Addr} {fd : FuncData} (F : Fun K "_law_take" "_law_take" s_l_take f fd) (b_len : mg "len" = none) :
    FnOk P w K mg base CX0 1 f fd ["bag", "many"] (sp_l_take K) := by
  refine F.ok sc_l_take (fun vs H Q E h => ?_) (fun cdv A outer s H vs Q E hr h => ?_)
  · obtain ⟨b, m, rfl, hB, hm, q⟩ := h
    rfl
  obtain ⟨b, m, rfl, hB, hm, q⟩ := h
  refine ⟨_, (pss_cons (ps_asg (pe_op op_add (pe_ix ix_list (pv 0) pe_int (fun _ _ => rfl)) pe_int) (pg_sub (pv 0) pe_int set_list))
        (pss_one (ps_ret (pe_op op_mod (pe_ix ix_list (pe_ix ix_list (pv 0) pe_int (fun _ _ => rfl)) (pe_op op_mod (pe_ix ix_list (pv 0) pe_int (fun _ _ => rfl)) (pe_callB call_len_seq (by rfl) b_len PySem.boot_len (pa_cons (pe_ix ix_list (pv 0) pe_int (fun _ _ => rfl)) pa_nil))) (fun _ _ => rfl)) (pv 1))))), ?_⟩
  obtain ⟨d, c, ds, h1, h2, h3, h4⟩ := hB
  refine ⟨_, rfl, b, _, _, _, rfl, rfl, SqL.of h1, atI_nat (j := 1) rfl, _, _, rfl, rfl, _, rfl, b, _, _, 1, rfl, rfl, h1, rfl, ?_⟩
  have e1 : (upd H b (.lst [.ref d, .int (c + 1)])) b = some (.lst [.ref d, .int (c + 1)]) := upd_same
  have nd : d ≠ b := ne_of h2 h1 (by
    intro z
    exact nint (ns := ds) ⟨d, c, z⟩)
  have e2 : (upd H b (.lst [.ref d, .int (c + 1)])) d = some (.lst (ds.map V.int)) := by
    rw [upd_ne nd]
    exact h2
  have hl : (((ds.map V.int).length : Nat) : Int) = 400 := by
    rw [List.length_map, h3]
    rfl
  obtain ⟨v, _, _, hv⟩ := at_int (ns := ds) (k := (c + 1) % (((ds.map V.int).length : Nat) : Int)) (by rw [hl]; exact Int.emod_nonneg _ (by decide)) (by rw [hl, h3]; exact Int.emod_lt_of_pos _ (by decide))
  refine ⟨_, rfl, b, _, _, _, rfl, rfl, SqL.of e1, atI_nat (j := 0) rfl, _, rfl, b, _, _, _, rfl, rfl, SqL.of e1, atI_nat (j := 1) rfl, _, rfl, b, _, _, _, rfl, rfl, SqL.of e1, atI_nat (j := 0) rfl, d, _, rfl, .inl (SqL.of e2), _, _, rfl, rfl, (by rw [hl]; exact p0), d, _, _, _, rfl, rfl, SqL.of e2, hv, _, rfl, _, _, rfl, rfl, hm, ?_⟩
  exact q _ _ (Int.emod_nonneg _ (by omega)) (Int.emod_lt_of_pos _ hm) (.bump h1)
set_option maxHeartbeats 4000000 in
theorem ok_l_kinds {P : Program} {w : World} {K : PySem.W.Frag} {mg : Str → Option Value} {base : Heap} {f : Addr} {fd : FuncData} (F : Fun K "_law_kinds" "_law_kinds" s_l_kinds f fd) (D_l_take : Def P w K mg base "_law_take" 1 ["bag", "many"] (sp_l_take K)) (b_range : mg "range" = none) (b_min : mg "min" = none) (b_tuple : mg "tuple" = none) :
    FnOk P w K mg base CX0 2 f fd ["bag", "far"] (sp_l_kinds K) := by
  refine F.ok sc_l_kinds (fun vs H Q E h => ?_) (fun cdv A outer s H vs Q E hr h => ?_)
  · obtain ⟨b, fr, rfl, hB, hf, q⟩ := h
    rfl
  obtain ⟨b, fr, rfl, hB, hf, q⟩ := h
  refine ⟨_, (pss_cons (ps_set (i := 2) sc_l_kinds.nd rfl (Or.inl rfl) (pe_lst pa_nil))
        (pss_cons (ps_for PassesOwn.never rfl (pi_range1 rfl b_range (pa_cons (pe_op op_add pe_int (pe_def D_l_take hr (pa_cons (pv 0) (pa_cons pe_int pa_nil)))) pa_nil)) (pg_name (i := 3) sc_l_kinds.nd rfl (Or.inl rfl)) (pss_one (ps_expr (pe_bm PySem.F.plainAttrs_list PySem.F.slot_list_append PySem.F.type_list_append mt_append (pv 2) (pa_cons (pe_op op_add pe_int (pe_ix ix_list (pe_lst (pa_cons (pe_def D_l_take hr (pa_cons (pv 0) (pa_cons (pe_callB (call_min2 rfl) (by rfl) b_min PyProof.Rows.boot_min (pa_cons pe_int (pa_cons (pe_op op_sub (pv 1) pe_int) pa_nil))) pa_nil))) (pa_cons (pe_def D_l_take hr (pa_cons (pv 0) (pa_cons (pe_op op_sub (pv 1) pe_int) pa_nil))) pa_nil))) (pe_def D_l_take hr (pa_cons (pv 0) (pa_cons pe_int pa_nil))) (fun _ _ => rfl))) pa_nil)))))
        (pss_one (ps_ret (pe_callTy call_tuple_of (by rfl) b_tuple PyProof.Rows.boot_tuple (pa_cons (pv 2) pa_nil)))))), ?_⟩
  refine ⟨Nat.zero_le _, fun p np => ?_⟩
  have kp := (Kp.refl H).new (o := .lst []) np
  refine ⟨_, rfl, b, _, rfl, kp.bags hB, p0, fun r H1 r0 r1 k0 => ?_⟩
  refine ⟨_, _, rfl, rfl, _, rfl, by omega, by omega, ?_⟩
  refine for_range (lo := 0) (n := (1 + r).toNat) (fun i σ H' => ∃ (cs : List Int) (y : Option V), σ = [some (.ref b), some (.int fr), some (.ref p), y] ∧ Kp H H' ∧ H' p = some (.lst (cs.map V.int)) ∧ cs.length = i ∧ ∀ c ∈ cs, 2 ≤ c ∧ c ≤ fr) ?_ ?_ ?_
  · exact ⟨[], _, rfl, kp.trans k0, k0.keep _ _ upd_same (nint (ns := [])), rfl, fun c hc => nomatch hc⟩
  · rintro i σ H' hi ⟨cs, y, rfl, k1, e, hl, hc⟩
    refine ⟨_, rfl, .inl ⟨rfl, _, SqL.of e⟩, _, rfl, _, rfl, _, _, rfl, rfl, _, _, rfl, b, _, rfl, k1.bags hB, ?_, fun r1' H2 a0 a1 k2 => ?_⟩
    · split <;> omega
    refine ⟨_, rfl, _, rfl, _, _, rfl, rfl, b, _, rfl, (k1.trans k2).bags hB, by omega, fun r2 H3 b0 b1 k3 => ?_⟩
    refine ⟨(by show 2 ≤ sizeLine; decide), fun l nl => ?_⟩
    have k4 := ((k1.trans k2).trans k3).new (o := .lst (([r1', r2] : List Int).map V.int)) nl
    refine ⟨_, rfl, b, _, rfl, k4.bags hB, p0, fun r3 H4 c0 c1 k5 => ?_⟩
    have el : H4 l = some (.lst (([r1', r2] : List Int).map V.int)) := k5.keep _ _ upd_same nint
    obtain ⟨v, hv, _, ha⟩ := at_int (ns := [r1', r2]) (k := r3) c0 c1
    have e3 : H3 p = some (.lst (cs.map V.int)) := k3.keep _ _ (k2.keep _ _ e nint) nint
    have e4 : H4 p = some (.lst (cs.map V.int)) := k5.keep _ _ (by rw [upd_ne (ne_of_none e3 nl)]; exact e3) nint
    refine ⟨l, _, _, _, rfl, rfl, SqL.of el, ha, _, _, rfl, rfl, p, _, _, rfl, rfl, e4, ?_, cs ++ [2 + v], _, rfl, (k4.trans k5).fresh np, ?_, ?_, fun c hm => ?_⟩
    · rw [List.length_map]
      exact small1000 (by omega)
    · rw [upd_same, List.map_append]
      rfl
    · rw [List.length_append, List.length_singleton, hl]
    · rcases List.mem_append.mp hm with g | g
      · exact hc c g
      · rw [List.mem_singleton.mp g]
        simp only [List.mem_cons, List.not_mem_nil, or_false] at hv
        have a2 : r1' ≤ fr - 2 := by
          split at a1 <;> omega
        omega
  · rintro σ H' ⟨cs, y, rfl, k1, e, hl, hc⟩
    refine ⟨_, rfl, p, _, rfl, .inl ⟨SqL.of e, fun t nt => ?_⟩⟩
    exact q t cs _ (k1.new nt) upd_same (by omega) (by omega) hc
set_option maxHeartbeats 4000000 in
theorem ok_l_far_draw {P : Program} {w : World} {K : PySem.W.Frag} {mg : Str → Option Value} {base : Heap} {f : Addr} {fd : FuncData} (F : Fun K "_law_far_draw" "_law_far_draw" s_l_far_draw f fd) (D_l_take : Def P w K mg base "_law_take" 1 ["bag", "many"] (sp_l_take K)) :
    FnOk P w K mg base CX0 2 f fd ["bag", "many"] (sp_l_far_draw K) := by
  refine F.ok sc_l_far_draw (fun vs H Q E h => ?_) (fun cdv A outer s H vs Q E hr h => ?_)
  · obtain ⟨b, m, rfl, hB, hm, q⟩ := h
    rfl
  obtain ⟨b, m, rfl, hB, hm, q⟩ := h
  refine ⟨_, (pss_cons (ps_par (i := 2) (j := 3) rfl sc_l_far_draw.nd rfl rfl (by decide) rfl rfl (pa_cons pe_int (pa_cons (pv 1) pa_nil)) (by rfl))
        (pss_cons (ps_while PassesOwn.never (pt_cmpR op_gt (pv 3) pe_int (nomark _)) (pss_one (ps_par (i := 2) (j := 3) rfl sc_l_far_draw.nd rfl rfl (by decide) rfl rfl (pa_cons (pe_op op_add (pe_op op_mul pe_int (pv 2)) (pe_def D_l_take hr (pa_cons (pv 0) (pa_cons pe_int pa_nil)))) (pa_cons (pe_op op_fdiv (pv 3) pe_int) pa_nil)) (by rfl))))
        (pss_one (ps_ret (pe_ix ix_list (pe_lst (pa_cons (pe_op op_mod (pv 2) (pv 1)) (pa_cons pe_int (pa_cons (pe_op op_sub (pv 1) pe_int) (pa_cons (pe_op op_mod (pv 2) (pv 1)) pa_nil))))) (pe_def D_l_take hr (pa_cons (pv 0) (pa_cons pe_int pa_nil))) (fun _ _ => rfl)))))), ?_⟩
  refine ⟨_, rfl, _, _, rfl, ?_⟩
  refine while_by (fun σ H' => ∃ (fo mu : Int), σ = [some (.ref b), some (.int m), some (.int fo), some (.int mu)] ∧ 0 ≤ mu ∧ Kp H H') (fun (σ : L2.St) (_ : Hp) => match σ[3]? with | some (some (V.int k)) => k.toNat | _ => 0) ?_ ?_ ?_
  · exact ⟨_, _, rfl, by omega, .refl H⟩
  · rintro σ H' ⟨fo, mu, rfl, hm0, k1⟩
    refine ⟨_, rfl, _, _, rfl, rfl, _, rfl, ite2 (fun c => ?_) (fun c => ?_)⟩
    · have c' := of_decide_eq_true c
      refine ⟨_, rfl, _, _, rfl, rfl, .inl ⟨by decide, by decide⟩, _, rfl, b, _, rfl, k1.bags hB, p0, fun r H2 h0 h1 k2 => ?_⟩
      refine ⟨_, _, rfl, rfl, _, rfl, _, _, rfl, rfl, ⟨by decide, by decide⟩, _, _, rfl, ⟨_, _, rfl, by omega, k1.trans k2⟩, ?_⟩
      show (mu / 1000).toNat < mu.toNat
      omega
    · refine ⟨_, rfl, _, rfl, _, _, rfl, rfl, hm, _, rfl, _, _, rfl, rfl, _, rfl, _, rfl, _, _, rfl, rfl, hm, (by show 4 ≤ sizeLine; decide), fun p np => ?_⟩
      have k2 := k1.new (o := .lst (([fo % m, 0, m - 1, fo % m] : List Int).map V.int)) np
      refine ⟨_, rfl, b, _, rfl, k2.bags hB, p0, fun r H2 h0 h1 k3 => ?_⟩
      have e : H2 p = some (.lst (([fo % m, 0, m - 1, fo % m] : List Int).map V.int)) := k3.keep _ _ upd_same nint
      obtain ⟨v, hv, _, ha⟩ := at_int (ns := [fo % m, 0, m - 1, fo % m]) (k := r) h0 h1
      refine ⟨p, _, _, _, rfl, rfl, SqL.of e, ha, ?_⟩
      have z1 := Int.emod_nonneg fo (show m ≠ 0 by omega)
      have z2 := Int.emod_lt_of_pos fo hm
      have hb : 0 ≤ v ∧ v < m := by
        simp only [List.mem_cons, List.not_mem_nil, or_false] at hv
        omega
      exact q v H2 hb.1 hb.2 (k2.trans k3)
  · rintro σ H' Q1 Q2 hq ⟨v, e, i, j, e1, e2, k, e3, h⟩
    exact ⟨v, e, i, j, e1, e2, k, e3, hq _ _ h⟩
set_option maxHeartbeats 4000000 in
theorem ok_l_stamps_for {P : Program} {w : World} {K : PySem.W.Frag} {mg : Str → Option Value} {base : Heap} {f : Addr} {fd : FuncData} (F : Fun K "_law_stamps_for" "_law_stamps_for" s_l_stamps_for f fd) (D_l_far_draw : Def P w K mg base "_law_far_draw" 2 ["bag", "many"] (sp_l_far_draw K)) (D_l_take : Def P w K mg base "_law_take" 1 ["bag", "many"] (sp_l_take K)) (b_tuple : mg "tuple" = none) :
    FnOk P w K mg base CX0 3 f fd ["bag", "kinds", "far"] (sp_l_stamps_for K) := by
  refine F.ok sc_l_stamps_for (fun vs H Q E h => ?_) (fun cdv A outer s H vs Q E hr h => ?_)
  · obtain ⟨b, kA, cs, fr, rfl, hB, hK, h3, hf, q⟩ := h
    rfl
  obtain ⟨b, kA, cs, fr, rfl, hB, hK, h3, hf, q⟩ := h
  refine ⟨_, (pss_one (ps_ret (pe_callTy call_tuple_of (by rfl) b_tuple PyProof.Rows.boot_tuple (pa_cons (pe_lc (own := [("one", 3)]) (g := gName 3) (tt := tYes) rfl sc_l_stamps_for.nd (pi_tup (pv 1)) (blkOk_by (own := [("one", 3)]) (N := ["bag", "kinds", "far", "one"]) (sc := defScope s_l_stamps_for) (by decide +kernel)) (fun _ _ _ _ _ => (pg_name (i := 3) sc_l_stamps_for.nd rfl (Or.inl rfl))) (fun _ _ _ _ _ => pts_nil) (fun _ _ _ _ _ => (pe_ix (ix_listK K) (pe_lst (pa_cons pe_int (pa_cons (pe_def D_l_far_draw hr (pa_cons (pv 0) (pa_cons (pe_op op_add (pv 2) pe_int) pa_nil))) pa_nil))) (pe_def D_l_take hr (pa_cons (pv 0) (pa_cons pe_int pa_nil))) (fun _ _ => rfl)))) pa_nil)))), ?_⟩
  refine ⟨_, rfl, kA, rfl, ⟨_, hK⟩, fun D nD => ?_⟩
  refine lc_tup (K := K) (a := kA) (xs := cs.map V.int) (fun i H' => ∃ ss : List Int, ss.length = i ∧ Kp H H' ∧ H' D = some (.lst (ss.map V.int)) ∧ ∀ x ∈ ss, 0 ≤ x ∧ x ≤ fr) ?_ ?_ ?_ ?_
  · exact ⟨[], rfl, .new (.refl H) nD, upd_same, fun c hc => nomatch hc⟩
  · rintro i H' hi ⟨ss, hl, k1, e, hs⟩
    exact k1.tup hK
  · rintro i x H1 hi ⟨ss, hl, k1, e, hs⟩
    have hi' : i < 3 := by
      have := (List.getElem?_eq_some_iff.mp hi).1
      rw [List.length_map] at this
      omega
    refine ⟨rfl, _, rfl, _, rfl, _, _, rfl, rfl, b, _, rfl, k1.bags hB, by omega, fun r1 H2 a0 a1 k2 => ?_⟩
    refine ⟨(by show 2 ≤ sizeLine; decide), fun l nl => ?_⟩
    have k4 := (k1.trans k2).new (o := .lst (([0, r1] : List Int).map V.int)) nl
    refine ⟨_, rfl, b, _, rfl, k4.bags hB, p0, fun r3 H4 c0 c1 k5 => ?_⟩
    have el : H4 l = some (.lst (([0, r1] : List Int).map V.int)) := k5.keep _ _ upd_same nint
    obtain ⟨v, hv, _, ha⟩ := at_int (ns := [0, r1]) (k := r3) c0 c1
    have e3 : H2 D = some (.lst (ss.map V.int)) := k2.keep _ _ e nint
    have e4 : H4 D = some (.lst (ss.map V.int)) := k5.keep _ _ (by rw [upd_ne (ne_of_none e3 nl)]; exact e3) nint
    refine ⟨l, _, _, _, rfl, rfl, SqL.of el, ha, _, e4, ?_, ss ++ [v], ?_, (k4.trans k5).fresh nD, ?_, fun c hm => ?_⟩
    · rw [List.length_map]
      exact small1000 (by omega)
    · rw [List.length_append, List.length_singleton, hl]
    · rw [upd_same, List.map_append]
      rfl
    · rcases List.mem_append.mp hm with g | g
      · exact hs c g
      · rw [List.mem_singleton.mp g]
        simp only [List.mem_cons, List.not_mem_nil, or_false] at hv
        omega
  · rintro H1 ⟨ss, hl, k1, e, hs⟩
    refine ⟨D, _, rfl, .inl ⟨SqL.of e, fun t nt => ?_⟩⟩
    exact q t ss _ (k1.new nt) upd_same (by rw [hl, List.length_map]) hs
set_option maxHeartbeats 4000000 in
theorem ok_l_had {P : Program} {w : World} {K : PySem.W.Frag} {mg : Str → Option Value} {base : Heap} {f : Addr} {fd : FuncData} (F : Fun K "_law_had" "_law_had" s_l_had f fd) (D_l_stamps_for : Def P w K mg base "_law_stamps_for" 3 ["bag", "kinds", "far"] (sp_l_stamps_for K)) (D_l_far_draw : Def P w K mg base "_law_far_draw" 2 ["bag", "many"] (sp_l_far_draw K)) :
    FnOk P w K mg base CX0 4 f fd ["bag", "kinds", "far"] (sp_l_had K) := by
  refine F.ok sc_l_had (fun vs H Q E h => ?_) (fun cdv A outer s H vs Q E hr h => ?_)
  · obtain ⟨b, kA, cs, fr, rfl, hB, hK, h3, hf, q⟩ := h
    rfl
  obtain ⟨b, kA, cs, fr, rfl, hB, hK, h3, hf, q⟩ := h
  refine ⟨_, (pss_one (ps_ret (pe_tup (pa_cons (pe_def D_l_far_draw hr (pa_cons (pv 0) (pa_cons (pe_op op_add (pv 2) pe_int) pa_nil))) (pa_cons (pe_def D_l_stamps_for hr (pa_cons (pv 0) (pa_cons (pv 1) (pa_cons (pv 2) pa_nil)))) pa_nil))))), ?_⟩
  refine ⟨_, rfl, _, rfl, _, _, rfl, rfl, b, _, rfl, hB, by omega, fun r H1 a0 a1 k1 => ?_⟩
  refine ⟨_, rfl, _, rfl, _, rfl, b, kA, cs, fr, rfl, k1.bags hB, k1.tup hK, h3, hf, fun sA ss H2 k2 e hl hs => ?_⟩
  refine ⟨(by show 2 ≤ sizeLine; decide), fun p np => ?_⟩
  exact q p sA r ss _ ((k1.trans k2).new np) upd_same (by rw [upd_ne (ne_of_none e np)]; exact e) a0 (by omega) hl hs
set_option maxHeartbeats 4000000 in
theorem ok_p_purse_fits {P : Program} {w : World} {K : PySem.W.Frag} {mg : Str → Option Value} {base : Heap} {f : Addr} {fd : FuncData} (F : Fun K "purse_fits" "purse_fits" s_p_purse_fits f fd) (D_p_are_stamps : Def P w K mg base "are_stamps" 2 ["cards", "thing"] (sp_p_are_stamps K)) (D_p_is_within : Def P w K mg base "is_within" 1 ["thing", "least", "most"] (sp_p_is_within K)) (b_len : mg "len" = none) (b_isinstance : mg "isinstance" = none) (b_tuple : mg "tuple" = none) {t_MOST : Tok} (g_MOST : mg "MOST" = some (.int 1000000000000000000 t_MOST)) :
    FnOk P w K mg base CX0 3 f fd ["cards", "thing"] (sp_p_purse_fits K) := by
  refine F.ok sc_p_purse_fits (fun vs H Q E h => ?_) (fun cdv A outer s H vs Q E hr h => ?_)
  · obtain ⟨cA, cs, x, d, rfl, hC, h3, hd, q⟩ := h
    rfl
  obtain ⟨cA, cs, x, d, rfl, hC, h3, hd, q⟩ := h
  refine ⟨_, (pss_cons (ps_if (PW.pt (pw_or (pt_not (pt_val (pe_callB call_isi (by rfl) b_isinstance PyProof.Rows.boot_isinstance (pa_cons (pv 1) (pa_cons (pe_bltn (v := .ty "tuple") rfl b_tuple PyProof.Rows.boot_tuple rfl) pa_nil))))) (pw_or1 (pt_cmpR op_ne (pe_callB call_len_seq (by rfl) b_len PySem.boot_len (pa_cons (pv 1) pa_nil)) pe_int (nomark _))))) (pss_one (ps_ret pe_bl)) pss_nil)
        (pss_cons (ps_asg (pv 1) (pg_tup rfl (pgs_cons (pg_name (i := 2) sc_p_purse_fits.nd rfl (Or.inl rfl)) (pgs_cons (pg_name (i := 3) sc_p_purse_fits.nd rfl (Or.inl rfl)) pgs_nil))))
        (pss_one (ps_ret (pe_and (pe_def D_p_is_within hr (pa_cons (pv 2) (pa_cons pe_int (pa_cons (pe_glob (v := .int 1000000000000000000) rfl g_MOST ⟨_, rfl⟩) pa_nil)))) (pe_one (pe_def D_p_are_stamps hr (pa_cons (pv 0) (pa_cons (pv 3) pa_nil))))))))), ?_⟩
  cases hd with
  | non => exact ⟨_, rfl, _, _, _, _, false, rfl, .ty "tuple", .base .non, kit_ty (by decide +kernel), _, rfl, q _ (.refl H)⟩
  | bl b => exact ⟨_, rfl, _, _, _, _, false, rfl, .ty "tuple", .base (.bl b), kit_ty (by decide +kernel), _, rfl, q _ (.refl H)⟩
  | str b => exact ⟨_, rfl, _, _, _, _, false, rfl, .ty "tuple", .base (.str b), kit_ty (by decide +kernel), _, rfl, q _ (.refl H)⟩
  | int b => exact ⟨_, rfl, _, _, _, _, false, rfl, .ty "tuple", .base (.int b), kit_ty (by decide +kernel), _, rfl, q _ (.refl H)⟩
  | lst h _ => exact ⟨_, rfl, _, _, _, _, false, rfl, .ty "tuple", tyL h, kit_ty (by decide +kernel), _, rfl, q _ (.refl H)⟩
  | @tup a xs ds h hx =>
    have hl := dp_len hx
    refine ⟨_, rfl, _, _, _, _, true, rfl, .ty "tuple", tyT h, kit_ty (by decide +kernel), _, rfl, ?_⟩
    refine ⟨_, rfl, a, _, rfl, .inr h, rfl, _, rfl, ?_⟩
    by_cases c2 : xs.length = 2
    · have e2 : decide (V.int (xs.length : Int) = V.int 2) = true := decide_eq_true (by rw [c2]; rfl)
      rw [e2]
      obtain ⟨x1, x2, rfl⟩ := len2 c2
      obtain ⟨d1, d2, rfl, y1, y2⟩ := dp_two hx
      refine ⟨_, rfl, a, [x1, x2], rfl, h, rfl, x1, [x2], rfl, x2, [], rfl, rfl, ?_⟩
      refine ⟨_, rfl, x1, d1, 0, 1000000000000000000, rfl, y1, _, rfl, ite2 (fun c => ?_) (fun c => ?_)⟩
      · refine ⟨_, rfl, _, rfl, cA, cs, x2, d2, rfl, hC, h3, y2, fun H' sm => ?_⟩
        have q' : Q (.bl (withinD 0 1000000000000000000 d1 && stampsD cs.length d2)) H' := q H' sm
        rw [c] at q'
        exact q'
      · have q' : Q (.bl (withinD 0 1000000000000000000 d1 && stampsD cs.length d2)) H := q H (.refl H)
        rw [Bool.eq_false_iff.mpr c] at q'
        exact q'
    · have e2 : decide (V.int (xs.length : Int) = V.int 2) = false := decide_eq_false (fun z => c2 (by have := V.int.inj z; omega))
      rw [e2]
      have q' := q H (.refl H)
      have ec : purseD cs.length (.tuple ds) = false := by
        exact purse_not2 (by omega)
      rw [ec] at q'
      exact q'
set_option maxHeartbeats 4000000 in
theorem ok_p_refuse_no_purse {P : Program} {w : World} {K : PySem.W.Frag} {mg : Str → Option Value} {base : Heap} {f : Addr} {fd : FuncData} (F : Fun K "refuse_no_purse" "refuse_no_purse" s_p_refuse_no_purse f fd) (D_p_purse_fits : Def P w K mg base "purse_fits" 3 ["cards", "thing"] (sp_p_purse_fits K)) {C_NoPurse : Addr} (T_NoPurse : ExcT K mg "NoPurse" C_NoPurse) :
    FnOk P w K mg base (L2N.CX P w) 4 f fd ["cards", "thing"] (sp_p_refuse_no_purse mg K) := by
  refine okN F sc_p_refuse_no_purse (fun vs H Q E h => ?_) (fun cdv A outer s H vs Q E hr h => ?_)
  · obtain ⟨cA, cs, x, d, rfl, hC, h3, hd, q1, q2⟩ := h
    rfl
  obtain ⟨cA, cs, x, d, rfl, hC, h3, hd, q1, q2⟩ := h
  refine ⟨_, (pss_one (ps_if (pt_not (pt_val (pe_def D_p_purse_fits hr (pa_cons (pv 0) (pa_cons (pv 1) pa_nil))))) (pss_one (ps_raiseX T_NoPurse (L2N.takes_of rfl rfl rfl rfl))) pss_nil)), ?_⟩
  refine ⟨_, rfl, _, rfl, cA, cs, x, d, rfl, hC, h3, hd, fun H' sm => ⟨_, rfl, ?_⟩⟩
  cases z : purseD cs.length d with
  | true => exact q1 z H' sm
  | false => exact q2 z H' _ sm T_NoPurse.g
set_option maxHeartbeats 4000000 in
theorem ok_m_init {P : Program} {w : World} {K : PySem.W.Frag} {mg : Str → Option Value} {base : Heap} {f : Addr} {fd : FuncData} (F : Fun K "__init__" "Kept.__init__" s_m_init f fd) {C : Addr} (T : KeptT K mg C) (D_p_refuse_no_cards : DefX P w K mg base "refuse_no_cards" 3 ["thing"] (sp_p_refuse_no_cards mg K)) (D_p_refuse_no_purse : DefX P w K mg base "refuse_no_purse" 4 ["cards", "thing"] (sp_p_refuse_no_purse mg K)) :
    FnOk P w K mg base (L2N.CX P w) 5 f fd ["self", "cards", "purse"] (sp_m_init mg K) := by
  refine okN F sc_m_init (fun vs H Q E h => ?_) (fun cdv A outer s H vs Q E hr h => ?_)
  · obtain ⟨s0, x, y, rfl, h⟩ := h
    rfl
  obtain ⟨s0, x, y, rfl, h⟩ := h
  refine ⟨_, (pss_cons (ps_expr (pe_defX D_p_refuse_no_cards hr (L2N.takes_of rfl rfl rfl rfl) (pa_cons (pv 1) pa_nil)))
        (pss_cons (ps_expr (pe_defX D_p_refuse_no_purse hr (L2N.takes_of rfl rfl rfl rfl) (pa_cons (pv 1) (pa_cons (pv 2) pa_nil))))
        (PSs.nox (pss_cons (ps_fld (pv 0) (pv 1) rfl)
        (pss_one (ps_fld (pv 0) (pe_lst (pa_cons (pe_tup (pa_cons (pv 2) (pa_cons pe_int (pa_cons pe_int pa_nil)))) pa_nil)) rfl)))))), ?_⟩
  rcases h with ⟨⟨d, hd, hc⟩, q⟩ | ⟨cs, ⟨cA, rfl, hC, hK⟩, ⟨d, hd, hb⟩, q⟩
  · exact ⟨_, rfl, x, d, rfl, hd, fun z => (by rw [hc] at z; cases z), fun _ H' C s g => q H' C s g⟩
  · refine ⟨_, rfl, _, _, rfl, .tup hC (dp_ints cs), fun _ H1 s1 => ?_, fun z => by rw [cardsD_ok hK] at z; cases z⟩
    refine ⟨_, rfl, _, rfl, cA, _, y, d, rfl, Same.seqT s1 hC, ?_, Same.dp s1 hd, fun z => ?_, fun _ => q.same s1⟩
    · rw [List.length_map]
      exact hK.2.1
    · rw [List.length_map, hb] at z
      cases z
set_option maxHeartbeats 4000000 in
theorem ok_p_most_by_shares {P : Program} {w : World} {K : PySem.W.Frag} {mg : Str → Option Value} {base : Heap} {f : Addr} {fd : FuncData} (F : Fun K "most_by_shares" "most_by_shares" s_p_most_by_shares f fd) (D_p_period_of : Def P w K mg base "period_of" 1 ["cards"] (sp_p_period_of K)) (b_sum : mg "sum" = none) (b_zip : mg "zip" = none) :
    FnOk P w K mg base CX0 2 f fd ["cards", "purse"] (sp_p_most_by_shares K) := by
  refine F.ok sc_p_most_by_shares (fun vs H Q E h => ?_) (fun cdv A outer s H vs Q E hr h => ?_)
  · obtain ⟨cA, pA, cs, r, ss, rfl, hC, hP, hK, hS, hr0, hr1, hp, q⟩ := h
    rfl
  obtain ⟨cA, pA, cs, r, ss, rfl, hC, hP, hK, hS, hr0, hr1, hp, q⟩ := h
  refine ⟨_, (pss_cons (ps_asg (pv 1) (pg_tup rfl (pgs_cons (pg_name (i := 2) sc_p_most_by_shares.nd rfl (Or.inl rfl)) (pgs_cons (pg_name (i := 3) sc_p_most_by_shares.nd rfl (Or.inl rfl)) pgs_nil))))
        (pss_cons (ps_set (i := 4) sc_p_most_by_shares.nd rfl (Or.inr rfl) (pe_def D_p_period_of hr (pa_cons (pv 0) pa_nil)))
        (pss_cons (ps_setLc (i := 5) (own := [("full", 7)]) (g := gName 7) (tt := tYes) rfl sc_p_most_by_shares.nd rfl rfl (sw_true rfl rfl rfl (by decide +kernel)) (pi_tup (pv 0)) (blkOk_by (own := [("full", 7)]) (N := ["cards", "purse", "rides", "stamps", "period", "shares", "worth", "full", "many", "share"]) (sc := defScope s_p_most_by_shares) (by decide +kernel)) (fun _ _ _ _ _ => (pg_name (i := 7) sc_p_most_by_shares.nd rfl (Or.inl rfl))) (fun _ _ _ _ _ => pts_nil) (fun _ _ _ _ _ => (pe_op op_fdiv (pv 4) (pv 7))))
        (pss_cons (ps_set (i := 6) sc_p_most_by_shares.nd rfl (Or.inl rfl) (pe_op op_add (pe_op op_mul (pv 2) (pv 4)) (pe_callB (cr_sum rfl) (by rfl) b_sum PyProof.Rows.boot_sum (pa_cons (pe_lc (own := [("many", 8), ("share", 9)]) (g := gTup K 2 (gCons (gName 8) (gCons (gName 9) gNil))) (tt := tYes) rfl sc_p_most_by_shares.nd (pi_zipB false true rfl b_zip (pa_cons (pv 3) (pa_cons (pv 5) pa_nil))) (blkOk_by (own := [("many", 8), ("share", 9)]) (N := ["cards", "purse", "rides", "stamps", "period", "shares", "worth", "full", "many", "share"]) (sc := defScope s_p_most_by_shares) (by decide +kernel)) (fun _ _ _ _ _ => (pg_tup rfl (pgs_cons (pg_name (i := 8) sc_p_most_by_shares.nd rfl (Or.inl rfl)) (pgs_cons (pg_name (i := 9) sc_p_most_by_shares.nd rfl (Or.inl rfl)) pgs_nil)))) (fun _ _ _ _ _ => pts_nil) (fun _ _ _ _ _ => (pe_op op_mul (pv 8) (pv 9)))) pa_nil))))
        (pss_one (ps_ret (pe_op op_fdiv (pv 6) (pe_op op_sub (pv 4) (pe_callB (cr_sum rfl) (by rfl) b_sum PyProof.Rows.boot_sum (pa_cons (pv 5) pa_nil)))))))))), ?_⟩
  obtain ⟨sA, hP1, hP2⟩ := hP
  have hl : cs.length = ss.length := hS.1.symm
  obtain ⟨p1, p2, p3⟩ := perOf_ok hK
  have h3 := hK.2.1
  have hpq := pq_nonneg (P := perOf cs) (by omega) cs (fun c h => (hK.2.2 c h).1)
  refine ⟨_, rfl, pA, _, rfl, hP1, rfl, _, _, rfl, _, _, rfl, rfl, ?_⟩
  refine ⟨_, rfl, cA, cs, rfl, hC, hK, ?_⟩
  refine ⟨_, rfl, cA, rfl, ⟨_, hC⟩, fun D nD => ?_⟩
  refine lc_tup (K := K) (a := cA) (xs := cs.map V.int) (fun i H' => Same H H' ∧ H' D = some (.lst (((cs.take i).map (fun c => perOf cs / c)).map V.int))) ?_ ?_ ?_ ?_
  · exact ⟨same_new (.refl H) nD, upd_same⟩
  · rintro i H' hi ⟨sm, e⟩
    exact Same.seqT sm hC
  · rintro i y H' hi ⟨sm, e⟩
    obtain ⟨c, hc, rfl⟩ := get_map hi
    obtain ⟨c2, c20⟩ := hK.2.2 c (List.mem_of_getElem? hc)
    have hi' : i < cs.length := (List.getElem?_eq_some_iff.mp hc).1
    refine ⟨rfl, _, rfl, _, rfl, _, _, rfl, rfl, ⟨by omega, by omega⟩, _, e, ?_, same_fresh sm nD, ?_⟩
    · rw [List.length_map, List.length_map, List.length_take]
      exact small1000 (by omega)
    · rw [upd_same, take_map _ hc, List.map_append]
      rfl
  · rintro H1 ⟨s1, e1⟩
    rw [List.length_map, List.take_length] at e1
    refine ⟨_, rfl, _, rfl, _, _, rfl, rfl, .inl ⟨by omega, by omega⟩, ?_⟩
    refine ⟨_, rfl, _, rfl, sA, D, ss.map V.int, (cs.map (fun c => perOf cs / c)).map V.int, rfl, Same.seqT s1 hP2, SqL.of e1, fun D2 nD2 => ?_⟩
    refine lc_zipB (p := false) (q := true) (K := K) (a := sA) (b := D) (xs := ss.map V.int) (ys := (cs.map (fun c => perOf cs / c)).map V.int) (by rw [List.length_map, List.length_map, List.length_map, hl]) (fun i H' => Same H1 H' ∧ H' D2 = some (.lst (((shl (perOf cs) cs ss).take i).map V.int))) ?_ ?_ ?_ ?_
    · exact ⟨same_new (.refl H1) nD2, upd_same⟩
    · rintro i H' ⟨sm, e⟩
      exact ⟨Same.seqT (s1.trans sm) hP2, SqL.of (sm _ _ e1)⟩
    · rintro i x y T H' hx hy ⟨sm, e⟩ nT
      obtain ⟨s', hs, rfl⟩ := get_map hx
      obtain ⟨c, hc, rfl⟩ := get_map hy
      have hs' := hS.2 s' (List.mem_of_getElem? hs)
      have hi : i < ss.length := (List.getElem?_eq_some_iff.mp hs).1
      have e' : (upd H' T (.tup [.int s', .int c])) D2 = some (.lst (((shl (perOf cs) cs ss).take i).map V.int)) := by
        rw [upd_ne (ne_of_none e nT)]
        exact e
      refine ⟨T, _, rfl, SqT.of upd_same, rfl, _, _, rfl, _, _, rfl, rfl, rfl, _, rfl, _, rfl, _, _, rfl, rfl, .inl ⟨by omega, by omega⟩, _, e', ?_, same_fresh (same_new sm nT) nD2, ?_⟩
      · rw [List.length_map, List.length_take]
        exact small1000 (by omega)
      · rw [upd_same, List.take_add_one, shl_get hc hs, List.map_append]
        rfl
    · rintro H2 ⟨s2, e2⟩
      rw [List.length_map, List.take_of_length_le (by rw [shl_len hl, hl]; exact Nat.le_refl _)] at e2
      refine ⟨D2, _, rfl, SqL.of e2, _, _, rfl, rfl, ?_⟩
      refine ⟨_, rfl, _, rfl, _, rfl, D, _, rfl, SqL.of (s2 _ _ e1), _, _, rfl, rfl, _, _, rfl, rfl, ?_, ?_⟩
      · rw [pq_sum]
        exact ⟨by omega, by omega⟩
      · rw [pq_sum, shl_sum]
        exact q H2 (s1.trans s2)
set_option maxHeartbeats 4000000 in
theorem ok_p_pays_back {P : Program} {w : World} {K : PySem.W.Frag} {mg : Str → Option Value} {base : Heap} {f : Addr} {fd : FuncData} (F : Fun K "pays_back" "pays_back" s_p_pays_back f fd) (D_p_full_cards : Def P w K mg base "full_cards" 1 ["cards", "stamps", "ridden"] (sp_p_full_cards K)) :
    FnOk P w K mg base CX0 2 f fd ["cards", "purse", "number"] (sp_p_pays_back K) := by
  refine F.ok sc_p_pays_back (fun vs H Q E h => ?_) (fun cdv A outer s H vs Q E hr h => ?_)
  · obtain ⟨cA, pA, cs, r, ss, n, rfl, hC, hP, hK, hl, q⟩ := h
    rfl
  obtain ⟨cA, pA, cs, r, ss, n, rfl, hC, hP, hK, hl, q⟩ := h
  refine ⟨_, (pss_cons (ps_asg (pv 1) (pg_tup rfl (pgs_cons (pg_name (i := 3) sc_p_pays_back.nd rfl (Or.inl rfl)) (pgs_cons (pg_name (i := 4) sc_p_pays_back.nd rfl (Or.inl rfl)) pgs_nil))))
        (pss_one (ps_ret (pe_cmpR op_le (pv 2) (pe_op op_add (pv 3) (pe_def D_p_full_cards hr (pa_cons (pv 0) (pa_cons (pv 4) (pa_cons (pv 2) pa_nil))))) (nomark _))))), ?_⟩
  obtain ⟨sA, hP1, hP2⟩ := hP
  refine ⟨_, rfl, pA, _, rfl, hP1, rfl, _, _, rfl, _, _, rfl, rfl, ?_⟩
  refine ⟨_, rfl, _, rfl, _, rfl, _, rfl, _, rfl, cA, sA, cs, ss, n, rfl, hC, hP2, hl, hK, fun H' s' => ?_⟩
  exact ⟨_, _, rfl, rfl, _, _, rfl, rfl, q H' s'⟩
set_option maxHeartbeats 4000000 in
theorem ok_p_greatest {P : Program} {w : World} {K : PySem.W.Frag} {mg : Str → Option Value} {base : Heap} {f : Addr} {fd : FuncData} (F : Fun K "greatest" "greatest" s_p_greatest f fd) (D_p_refuse_no_cards : DefX P w K mg base "refuse_no_cards" 3 ["thing"] (sp_p_refuse_no_cards mg K)) (D_p_refuse_no_purse : DefX P w K mg base "refuse_no_purse" 4 ["cards", "thing"] (sp_p_refuse_no_purse mg K)) (D_p_period_pays : Def P w K mg base "period_pays" 2 ["cards"] (sp_p_period_pays K)) (D_p_most_by_shares : Def P w K mg base "most_by_shares" 2 ["cards", "purse"] (sp_p_most_by_shares K)) (D_p_pays_back : Def P w K mg base "pays_back" 2 ["cards", "purse", "number"] (sp_p_pays_back K)) :
    FnOk P w K mg base (L2N.CX P w) 5 f fd ["cards", "purse"] (sp_p_greatest mg K) := by
  refine okN F sc_p_greatest (fun vs H Q E h => ?_) (fun cdv A outer s H vs Q E hr h => ?_)
  · obtain ⟨x, y, rfl, h⟩ := h
    rfl
  obtain ⟨x, y, rfl, h⟩ := h
  refine ⟨_, (pss_cons (ps_expr (pe_defX D_p_refuse_no_cards hr (L2N.takes_of rfl rfl rfl rfl) (pa_cons (pv 0) pa_nil)))
        (pss_cons (ps_expr (pe_defX D_p_refuse_no_purse hr (L2N.takes_of rfl rfl rfl rfl) (pa_cons (pv 0) (pa_cons (pv 1) pa_nil))))
        (PSs.nox (pss_cons (ps_if (pt_val (pe_def D_p_period_pays hr (pa_cons (pv 0) pa_nil))) (pss_one (ps_ret pe_non)) pss_nil)
        (pss_cons (ps_set (i := 2) sc_p_greatest.nd rfl (Or.inl rfl) (pe_def D_p_most_by_shares hr (pa_cons (pv 0) (pa_cons (pv 1) pa_nil))))
        (pss_cons (ps_while PassesOwn.never (pt_not (pt_val (pe_def D_p_pays_back hr (pa_cons (pv 0) (pa_cons (pv 1) (pa_cons (pv 2) pa_nil)))))) (pss_one (ps_aug (i := 2) sc_p_greatest.nd rfl (Or.inl rfl) pe_int ip_sub)))
        (pss_one (ps_ret (pv 2))))))))), ?_⟩
  rcases h with ⟨⟨d, hd, hc⟩, q⟩ | ⟨cs, ⟨cA, rfl, hC, hK⟩, ⟨d, hd, hb⟩, q⟩
  · exact ⟨_, rfl, x, d, rfl, hd, fun z => (by rw [hc] at z; cases z), fun _ H' C s g => q H' C s g⟩
  · refine ⟨_, rfl, _, _, rfl, .tup hC (dp_ints cs), fun _ H1 s1 => ?_, fun z => by rw [cardsD_ok hK] at z; cases z⟩
    refine ⟨_, rfl, _, rfl, cA, _, y, d, rfl, Same.seqT s1 hC, ?_, Same.dp s1 hd, fun z => ?_, fun _ => q.same s1⟩
    · rw [List.length_map]
      exact hK.2.1
    · rw [List.length_map, hb] at z
      cases z
set_option maxHeartbeats 4000000 in
theorem ok_p_rides_in_all {P : Program} {w : World} {K : PySem.W.Frag} {mg : Str → Option Value} {base : Heap} {f : Addr} {fd : FuncData} (F : Fun K "rides_in_all" "rides_in_all" s_p_rides_in_all f fd) (D_p_period_pays : Def P w K mg base "period_pays" 2 ["cards"] (sp_p_period_pays K)) (D_p_period_of : Def P w K mg base "period_of" 1 ["cards"] (sp_p_period_of K)) (D_p_full_cards : Def P w K mg base "full_cards" 1 ["cards", "stamps", "ridden"] (sp_p_full_cards K)) :
    FnOk P w K mg base CX0 3 f fd ["cards", "purse"] (sp_p_rides_in_all K) := by
  refine F.ok sc_p_rides_in_all (fun vs H Q E h => ?_) (fun cdv A outer s H vs Q E hr h => ?_)
  · obtain ⟨cA, pA, cs, r, ss, rfl, hC, hP, hK, hS, hr0, q⟩ := h
    rfl
  obtain ⟨cA, pA, cs, r, ss, rfl, hC, hP, hK, hS, hr0, q⟩ := h
  refine ⟨_, (pss_cons (ps_asg (pv 1) (pg_tup rfl (pgs_cons (pg_name (i := 2) sc_p_rides_in_all.nd rfl (Or.inl rfl)) (pgs_cons (pg_name (i := 3) sc_p_rides_in_all.nd rfl (Or.inl rfl)) pgs_nil))))
        (pss_cons (ps_set (i := 4) sc_p_rides_in_all.nd rfl (Or.inl rfl) (pe_def D_p_period_pays hr (pa_cons (pv 0) pa_nil)))
        (pss_cons (ps_set (i := 5) sc_p_rides_in_all.nd rfl (Or.inl rfl) (pe_def D_p_period_of hr (pa_cons (pv 0) pa_nil)))
        (pss_cons (ps_set (i := 6) sc_p_rides_in_all.nd rfl (Or.inl rfl) pe_int)
        (pss_cons (ps_set (i := 7) sc_p_rides_in_all.nd rfl (Or.inl rfl) (pe_op op_add (pv 2) (pe_def D_p_full_cards hr (pa_cons (pv 0) (pa_cons (pv 3) (pa_cons (pv 6) pa_nil))))))
        (pss_cons (ps_while PassesOwn.never (pt_cmpR op_gt (pv 7) (pv 6) (nomark _)) (pss_cons (ps_if (PW.pt (pw_and (pt_val (pv 4)) (pw_and1 (pt_cmpR op_ge (pv 7) (pv 5) (nomark _))))) (pss_one (ps_ret pe_non)) pss_nil)
        (pss_cons (ps_set (i := 6) sc_p_rides_in_all.nd rfl (Or.inl rfl) (pv 7))
        (pss_one (ps_set (i := 7) sc_p_rides_in_all.nd rfl (Or.inl rfl) (pe_op op_add (pv 2) (pe_def D_p_full_cards hr (pa_cons (pv 0) (pa_cons (pv 3) (pa_cons (pv 6) pa_nil))))))))))
        (pss_one (ps_ret (pv 6))))))))), ?_⟩
  obtain ⟨sA, hP1, hP2⟩ := hP
  have hl : cs.length = ss.length := hS.1.symm
  obtain ⟨p1, p2, p3⟩ := perOf_ok hK
  refine ⟨_, rfl, pA, _, rfl, hP1, rfl, _, _, rfl, _, _, rfl, rfl, ?_⟩
  refine ⟨_, rfl, cA, cs, rfl, hC, hK, fun b H1 s1 hb => ?_⟩
  refine ⟨_, rfl, cA, cs, rfl, Same.seqT s1 hC, hK, ?_⟩
  refine ⟨_, rfl, _, rfl, _, rfl, _, rfl, cA, sA, cs, ss, _, rfl, Same.seqT s1 hC, Same.seqT s1 hP2, hl, hK, fun H2 s2 => ?_⟩
  refine ⟨_, _, rfl, rfl, ?_⟩
  have hf0 : 0 ≤ fc cs ss 0 := fc_nonneg cs ss (fun c hc => (hK.2.2 c hc).1) (fun x hx => hS.2 x hx) (by omega)
  have hB : b = false → 0 ≤ bound cs r ss ∧ r + fc cs ss (bound cs r ss) ≤ bound cs r ss := fun e => bound_ok hK hl (fun x hx => hS.2 x hx) hr0 (by
    have : ¬ perOf cs ≤ pq (perOf cs) cs := fun z => by rw [hb.mpr z] at e; cases e
    omega)
  refine while_by (fun σ H' => ∃ (had paid : Int), σ = [some (.ref cA), some (.ref pA), some (.int r), some (.ref sA), some (.bl b), some (.int (perOf cs)), some (.int had), some (.int paid)] ∧ Same H H' ∧ 0 ≤ had ∧ had ≤ paid ∧ paid = r + fc cs ss had ∧ (∀ m, 0 ≤ m → m < had → m < r + fc cs ss m) ∧ had ≤ (if b then perOf cs else bound cs r ss)) (fun (σ : L2.St) (_ : Hp) => match σ[6]? with | some (some (V.int k)) => ((if b then perOf cs else bound cs r ss) - k).toNat | _ => 0) ?_ ?_ ?_
  · refine ⟨0, _, rfl, s1.trans s2, by omega, by omega, rfl, fun m h0 h1 => by omega, ?_⟩
    cases b with
    | true => show 0 ≤ perOf cs; omega
    | false => exact (hB rfl).1
  · rintro σ H' ⟨had, paid, rfl, sm, h0, h1, hpd, hm, hbd⟩
    refine ⟨_, rfl, _, rfl, _, _, rfl, rfl, _, rfl, ite2 (fun c => ?_) (fun c => ?_)⟩
    · have c' := of_decide_eq_true c
      have hst := least_step hK hm h0
      rw [← hpd] at hst
      have hmo : paid ≤ r + fc cs ss paid := by
        have := fc_mono cs ss (m := had) (n := paid) (fun c hc => (hK.2.2 c hc).1) (by omega)
        omega
      refine ⟨_, rfl, _, rfl, ite2 (fun cb => ?_) (fun cb => ?_)⟩
      · refine ⟨_, rfl, _, rfl, _, _, rfl, rfl, _, rfl, ite2 (fun c2 => ?_) (fun c2 => ?_)⟩
        · have c3 := of_decide_eq_true c2
          exact q .non H' sm (never_of hK hl (hb.mp cb) (fun m h0 h1 => hst m h0 (by omega)))
        · have c3 : ¬ perOf cs ≤ paid := fun z => c2 (decide_eq_true z)
          refine ⟨_, rfl, _, rfl, _, rfl, _, rfl, _, rfl, cA, sA, cs, ss, _, rfl, Same.seqT sm hC, Same.seqT sm hP2, hl, hK, fun H3 s3 => ?_⟩
          refine ⟨_, _, rfl, rfl, ⟨_, _, rfl, sm.trans s3, by omega, hmo, rfl, hst, ?_⟩, ?_⟩
          · rw [if_pos cb]
            omega
          · show ((if b then perOf cs else bound cs r ss) - paid).toNat < ((if b then perOf cs else bound cs r ss) - had).toNat
            rw [if_pos cb]
            omega
      · have cb' : b = false := Bool.eq_false_iff.mpr cb
        have hle : paid ≤ bound cs r ss := by
          obtain ⟨b0, b1⟩ := hB cb'
          by_cases z : paid ≤ bound cs r ss
          · exact z
          · have := hst (bound cs r ss) b0 (by omega)
            omega
        refine iteF ⟨_, rfl, _, rfl, _, rfl, _, rfl, _, rfl, cA, sA, cs, ss, _, rfl, Same.seqT sm hC, Same.seqT sm hP2, hl, hK, fun H3 s3 => ?_⟩
        refine ⟨_, _, rfl, rfl, ⟨_, _, rfl, sm.trans s3, by omega, hmo, rfl, hst, ?_⟩, ?_⟩
        · rw [if_neg cb]
          omega
        · show ((if b then perOf cs else bound cs r ss) - paid).toNat < ((if b then perOf cs else bound cs r ss) - had).toNat
          rw [if_neg cb]
          omega
    · have c' : ¬ had < paid := fun z => c (decide_eq_true z)
      have e : r + fc cs ss had = had := by omega
      exact ⟨_, rfl, q (.int had) H' sm ⟨h0, e, hm⟩⟩
  · rintro σ H' Q1 Q2 hq ⟨v, e, v2, e', i, j, e1, e2, k, e3, h⟩
    exact ⟨v, e, v2, e', i, j, e1, e2, k, e3, hq _ _ h⟩
set_option maxHeartbeats 4000000 in
theorem ok_p_left {P : Program} {w : World} {K : PySem.W.Frag} {mg : Str → Option Value} {base : Heap} {f : Addr} {fd : FuncData} (F : Fun K "left" "left" s_p_left f fd) (D_p_refuse_no_cards : DefX P w K mg base "refuse_no_cards" 3 ["thing"] (sp_p_refuse_no_cards mg K)) (D_p_refuse_no_purse : DefX P w K mg base "refuse_no_purse" 4 ["cards", "thing"] (sp_p_refuse_no_purse mg K)) (D_p_rides_in_all : Def P w K mg base "rides_in_all" 3 ["cards", "purse"] (sp_p_rides_in_all K)) (b_tuple : mg "tuple" = none) (b_zip : mg "zip" = none) :
    FnOk P w K mg base (L2N.CX P w) 5 f fd ["cards", "purse"] (sp_p_left mg K) := by
  refine okN F sc_p_left (fun vs H Q E h => ?_) (fun cdv A outer s H vs Q E hr h => ?_)
  · obtain ⟨x, y, rfl, h⟩ := h
    rfl
  obtain ⟨x, y, rfl, h⟩ := h
  refine ⟨_, (pss_cons (ps_expr (pe_defX D_p_refuse_no_cards hr (L2N.takes_of rfl rfl rfl rfl) (pa_cons (pv 0) pa_nil)))
        (pss_cons (ps_expr (pe_defX D_p_refuse_no_purse hr (L2N.takes_of rfl rfl rfl rfl) (pa_cons (pv 0) (pa_cons (pv 1) pa_nil))))
        (PSs.nox (pss_cons (ps_set (i := 2) sc_p_left.nd rfl (Or.inr rfl) (pe_def D_p_rides_in_all hr (pa_cons (pv 0) (pa_cons (pv 1) pa_nil))))
        (pss_cons (ps_if (pt_cmpR op_isN (pv 2) pe_non (nomark _)) (pss_one (ps_ret pe_non)) pss_nil)
        (pss_one (ps_ret (pe_callTy call_tuple_of (by rfl) b_tuple PyProof.Rows.boot_tuple (pa_cons (pe_lc (own := [("full", 3), ("many", 4)]) (g := gTup K 2 (gCons (gName 3) (gCons (gName 4) gNil))) (tt := tYes) rfl sc_p_left.nd (RZ.pi_zipA rfl b_zip (pa_cons (pv 0) (pa_cons (pe_ix ix_tup (pv 1) pe_int (fun _ _ => rfl)) pa_nil))) (blkOk_by (own := [("full", 3), ("many", 4)]) (N := ["cards", "purse", "had", "full", "many"]) (sc := defScope s_p_left) (by decide +kernel)) (fun _ _ _ _ _ => (pg_tup rfl (pgs_cons (pg_name (i := 3) sc_p_left.nd rfl (Or.inl rfl)) (pgs_cons (pg_name (i := 4) sc_p_left.nd rfl (Or.inl rfl)) pgs_nil)))) (fun _ _ _ _ _ => pts_nil) (fun _ _ _ _ _ => (pe_op op_mod (pe_op op_add (pv 4) (pv 2)) (pv 3)))) pa_nil))))))))), ?_⟩
  rcases h with ⟨⟨d, hd, hc⟩, q⟩ | ⟨cs, ⟨cA, rfl, hC, hK⟩, ⟨d, hd, hb⟩, q⟩
  · exact ⟨_, rfl, x, d, rfl, hd, fun z => (by rw [hc] at z; cases z), fun _ H' C s g => q H' C s g⟩
  · refine ⟨_, rfl, _, _, rfl, .tup hC (dp_ints cs), fun _ H1 s1 => ?_, fun z => by rw [cardsD_ok hK] at z; cases z⟩
    refine ⟨_, rfl, _, rfl, cA, _, y, d, rfl, Same.seqT s1 hC, ?_, Same.dp s1 hd, fun z => ?_, fun _ => q.same s1⟩
    · rw [List.length_map]
      exact hK.2.1
    · rw [List.length_map, hb] at z
      cases z
set_option maxHeartbeats 4000000 in
theorem ok_p_all_rides {P : Program} {w : World} {K : PySem.W.Frag} {mg : Str → Option Value} {base : Heap} {f : Addr} {fd : FuncData} (F : Fun K "all_rides" "all_rides" s_p_all_rides f fd) (D_p_refuse_no_cards : DefX P w K mg base "refuse_no_cards" 3 ["thing"] (sp_p_refuse_no_cards mg K)) (D_p_refuse_no_purse : DefX P w K mg base "refuse_no_purse" 4 ["cards", "thing"] (sp_p_refuse_no_purse mg K)) (D_p_rides_in_all : Def P w K mg base "rides_in_all" 3 ["cards", "purse"] (sp_p_rides_in_all K)) :
    FnOk P w K mg base (L2N.CX P w) 5 f fd ["cards", "purse"] (sp_p_all_rides mg K) := by
  refine okN F sc_p_all_rides (fun vs H Q E h => ?_) (fun cdv A outer s H vs Q E hr h => ?_)
  · obtain ⟨x, y, rfl, h⟩ := h
    rfl
  obtain ⟨x, y, rfl, h⟩ := h
  refine ⟨_, (pss_cons (ps_expr (pe_defX D_p_refuse_no_cards hr (L2N.takes_of rfl rfl rfl rfl) (pa_cons (pv 0) pa_nil)))
        (pss_cons (ps_expr (pe_defX D_p_refuse_no_purse hr (L2N.takes_of rfl rfl rfl rfl) (pa_cons (pv 0) (pa_cons (pv 1) pa_nil))))
        (PSs.nox (pss_one (ps_ret (pe_def D_p_rides_in_all hr (pa_cons (pv 0) (pa_cons (pv 1) pa_nil)))))))), ?_⟩
  rcases h with ⟨⟨d, hd, hc⟩, q⟩ | ⟨cs, ⟨cA, rfl, hC, hK⟩, ⟨d, hd, hb⟩, q⟩
  · exact ⟨_, rfl, x, d, rfl, hd, fun z => (by rw [hc] at z; cases z), fun _ H' C s g => q H' C s g⟩
  · refine ⟨_, rfl, _, _, rfl, .tup hC (dp_ints cs), fun _ H1 s1 => ?_, fun z => by rw [cardsD_ok hK] at z; cases z⟩
    refine ⟨_, rfl, _, rfl, cA, _, y, d, rfl, Same.seqT s1 hC, ?_, Same.dp s1 hd, fun z => ?_, fun _ => q.same s1⟩
    · rw [List.length_map]
      exact hK.2.1
    · rw [List.length_map, hb] at z
      cases z
set_option maxHeartbeats 4000000 in
theorem ok_l_refused {P : Program} {w : World} {K : PySem.W.Frag} {mg : Str → Option Value} {base : Heap} {f : Addr} {fd : FuncData} (F : Fun K "_law_refused" "_law_refused" s_l_refused f fd) (b_isinstance : mg "isinstance" = none) (b_ValueError : mg "ValueError" = none) :
    FnOk P w K mg base CX0 13 f fd ["call", "one", "two", "three"] (sp_l_refused P w K mg base) := by
  refine F.ok sc_l_refused (fun vs H Q E h => ?_) (fun cdv A outer s H vs Q E hr h => ?_)
  · obtain ⟨f', x, y, z, sp, C, tf, rd, rfl, T, hF, mono, h⟩ := h
    rfl
  obtain ⟨f', x, y, z, sp, C, tf, rd, rfl, T, hF, mono, h⟩ := h
  refine ⟨_, pss_cons (ps_set (i := 4) sc_l_refused.nd rfl (Or.inl rfl) (pe_lst pa_nil))
    (pss_cons (ps_try_as2 (i := 5) (tb := fun W => tDrop (tCallH 0 P w K mg base 12 W (tCons (tVar 1) (tCons (tVar 2) (tCons (tVar 3) tNil))))) (ts1 := fun _ _ _ => tNever) (ts2 := fun a cls d => tWords K C a cls d (tKin K a cls d)) rfl rfl sc_l_refused.nd rfl rfl ⟨rfl, by decide, .inl T.tf⟩ ⟨rfl, by decide, .inl T.rd⟩
      (fun W pn xe tk _ => pss_one (ps_expr (pe_callH (k := 12) hr rfl (.inl rfl) tk (pa_cons (pv 1) (pa_cons (pv 2) (pa_cons (pv 3) pa_nil))))))
      (fun a oe cls d pn z f => pss_never)
      (fun a oe cls d pn z f => (pss_cons (ps_set (i := 6) sc_l_refused.nd rfl (Or.inl rfl) (pe_lst (pa_cons (pe_tup (pa_cons pe_str (pa_cons (pe_callB (call_isE2 z f) (by rfl) b_isinstance PyProof.Rows.boot_isinstance (pa_cons (pv 5) (pa_cons (pe_glob (v := .ref (C 0)) rfl (T.w 0 (by decide)) rfl) pa_nil))) pa_nil))) (pa_cons (pe_tup (pa_cons pe_str (pa_cons (pe_callB (call_isE2 z f) (by rfl) b_isinstance PyProof.Rows.boot_isinstance (pa_cons (pv 5) (pa_cons (pe_glob (v := .ref (C 1)) rfl (T.w 1 (by decide)) rfl) pa_nil))) pa_nil))) pa_nil))))
        (pss_cons (ps_set (i := 6) sc_l_refused.nd rfl (Or.inl rfl) (pe_op op_cat (pv 6) (pe_lst (pa_cons (pe_tup (pa_cons pe_str (pa_cons (pe_callB (call_isE2 z f) (by rfl) b_isinstance PyProof.Rows.boot_isinstance (pa_cons (pv 5) (pa_cons (pe_glob (v := .ref (C 2)) rfl (T.w 2 (by decide)) rfl) pa_nil))) pa_nil))) pa_nil))))
        (pss_cons (ps_set (i := 6) sc_l_refused.nd rfl (Or.inl rfl) (pe_op op_cat (pv 6) (pe_lst (pa_cons (pe_tup (pa_cons pe_str (pa_cons (pe_callB (call_isE2 z f) (by rfl) b_isinstance PyProof.Rows.boot_isinstance (pa_cons (pv 5) (pa_cons (pe_glob (v := .ref (C 3)) rfl (T.w 3 (by decide)) rfl) pa_nil))) pa_nil))) (pa_cons (pe_tup (pa_cons pe_str (pa_cons (pe_callB (call_isE2 z f) (by rfl) b_isinstance PyProof.Rows.boot_isinstance (pa_cons (pv 5) (pa_cons (pe_glob (v := .ref (C 4)) rfl (T.w 4 (by decide)) rfl) pa_nil))) pa_nil))) pa_nil)))))
        (pss_cons (ps_set (i := 6) sc_l_refused.nd rfl (Or.inl rfl) (pe_op op_cat (pv 6) (pe_lst (pa_cons (pe_tup (pa_cons pe_str (pa_cons (pe_callB (call_isE2 z f) (by rfl) b_isinstance PyProof.Rows.boot_isinstance (pa_cons (pv 5) (pa_cons (pe_glob (v := .ref (C 5)) rfl (T.w 5 (by decide)) rfl) pa_nil))) pa_nil))) (pa_cons (pe_tup (pa_cons pe_str (pa_cons (pe_callB (call_isE2 z f) (by rfl) b_isinstance PyProof.Rows.boot_isinstance (pa_cons (pv 5) (pa_cons (pe_glob (v := .ref (C 6)) rfl (T.w 6 (by decide)) rfl) pa_nil))) pa_nil))) pa_nil)))))
        (pss_cons (ps_set (i := 6) sc_l_refused.nd rfl (Or.inl rfl) (pe_op op_cat (pv 6) (pe_lst (pa_cons (pe_tup (pa_cons pe_str (pa_cons (pe_callB (call_isE2 z f) (by rfl) b_isinstance PyProof.Rows.boot_isinstance (pa_cons (pv 5) (pa_cons (pe_glob (v := .ref (C 7)) rfl (T.w 7 (by decide)) rfl) pa_nil))) pa_nil))) (pa_cons (pe_tup (pa_cons pe_str (pa_cons (pe_callB (call_isE2 z f) (by rfl) b_isinstance PyProof.Rows.boot_isinstance (pa_cons (pv 5) (pa_cons (pe_glob (v := .ref (C 8)) rfl (T.w 8 (by decide)) rfl) pa_nil))) pa_nil))) pa_nil)))))
        (pss_cons (ps_set (i := 6) sc_l_refused.nd rfl (Or.inl rfl) (pe_op op_cat (pv 6) (pe_lst (pa_cons (pe_tup (pa_cons pe_str (pa_cons (pe_callB (call_isE2 z f) (by rfl) b_isinstance PyProof.Rows.boot_isinstance (pa_cons (pv 5) (pa_cons (pe_glob (v := .ref (C 9)) rfl (T.w 9 (by decide)) rfl) pa_nil))) pa_nil))) pa_nil))))
        (pss_cons (ps_expr (pe_bm PySem.F.plainAttrs_list PySem.F.slot_list_append PySem.F.type_list_append mt_append (pv 6) (pa_cons (pe_tup (pa_cons pe_str (pa_cons (pe_callB (call_isE2 z f) (by rfl) b_isinstance PyProof.Rows.boot_isinstance (pa_cons (pv 5) (pa_cons (pe_glob (v := .ref (C 10)) rfl (T.w 10 (by decide)) rfl) pa_nil))) pa_nil))) pa_nil)))
        (pss_one (ps_set (i := 4) sc_l_refused.nd rfl (Or.inl rfl) (pe_op op_cat (pe_lcH2 (own := [("word", 7), ("there", 8)]) (g := gTup K 2 (gCons (gName 7) (gCons (gName 8) gNil))) z f rfl rfl sc_l_refused.nd (pv 6) (blkOk_by (own := [("word", 7), ("there", 8)]) (N := ["call", "one", "two", "three", "kin", "e", "words", "word", "there"]) (sc := defScope s_l_refused) (by decide +kernel)) (fun _ _ _ _ _ wm => pg_tupH wm (pgs_cons (pg_name (i := 7) sc_l_refused.nd rfl (Or.inl rfl)) (pgs_cons (pg_name (i := 8) sc_l_refused.nd rfl (Or.inl rfl)) pgs_nil))) (fun _ _ _ _ _ => pts_one (pt_val (pv 8))) (fun _ _ _ _ _ => pv 7)) (pe_lst (pa_cons (pe_callB (call_isE2 z f) (by rfl) b_isinstance PyProof.Rows.boot_isinstance (pa_cons (pv 5) (pa_cons (pe_bltn (v := .ty "ValueError") rfl b_ValueError (by decide +kernel) rfl) pa_nil))) pa_nil))))))))))))))
    (pss_one (ps_ret (pv 4)))), ?_⟩
  refine ⟨Nat.zero_le _, fun l nl => ?_⟩
  have s0 := same_upd (o := .lst []) nl
  refine ⟨f', sp, rfl, held3 (hF.same s0) rfl rfl rfl ?_⟩
  have h1 := h _ s0
  refine mono _ _ _ _ _ _ h1 (fun v H2 g => ?_) (fun cls d H2 g => ?_)
  · obtain ⟨s2, q⟩ := g
    exact ⟨_, rfl, q l H2 (.refl H2) (s2 _ _ upd_same)⟩
  · obtain ⟨s2, i, rfl, rfl, KO, q⟩ := g
    refine ⟨false, KO.n, fun z => (nomatch z), fun _ => ⟨true, KO.y, fun _ a na => ?_, fun z => nomatch z⟩⟩
    refine ⟨_, rfl, C i, .ref (C 0), .ref (C 0), _, rfl, rfl, KO.ex, rfl, fun _ r => r, KO.k 0 (by decide), (by show 2 ≤ sizeLine; decide), fun t0 n0 => ?_⟩
    refine ⟨_, rfl, C i, .ref (C 1), .ref (C 1), _, rfl, rfl, KO.ex, rfl, fun _ r => r, KO.k 1 (by decide), (by show 2 ≤ sizeLine; decide), fun t1 n1 => ?_⟩
    refine ⟨(by show 2 ≤ sizeLine; decide), fun w0 m0 => ?_⟩
    refine ⟨_, rfl, ?_⟩
    refine ⟨_, rfl, C i, .ref (C 2), .ref (C 2), _, rfl, rfl, KO.ex, rfl, fun _ r => r, KO.k 2 (by decide), (by show 2 ≤ sizeLine; decide), fun t2 n2 => ?_⟩
    refine ⟨(by show 1 ≤ sizeLine; decide), fun w1 m1 => ?_⟩
    refine ⟨w0, w1, _, _, rfl, rfl, ((same_upd n2).trans (same_upd m1)) _ _ upd_same, upd_same, (by show 3 ≤ sizeLine; decide), fun w2 m2 => ?_⟩
    refine ⟨_, rfl, ?_⟩
    refine ⟨_, rfl, C i, .ref (C 3), .ref (C 3), _, rfl, rfl, KO.ex, rfl, fun _ r => r, KO.k 3 (by decide), (by show 2 ≤ sizeLine; decide), fun t3 n3 => ?_⟩
    refine ⟨_, rfl, C i, .ref (C 4), .ref (C 4), _, rfl, rfl, KO.ex, rfl, fun _ r => r, KO.k 4 (by decide), (by show 2 ≤ sizeLine; decide), fun t4 n4 => ?_⟩
    refine ⟨(by show 2 ≤ sizeLine; decide), fun w3 m3 => ?_⟩
    refine ⟨w2, w3, _, _, rfl, rfl, (((same_upd n3).trans (same_upd n4)).trans (same_upd m3)) _ _ upd_same, upd_same, (by show 5 ≤ sizeLine; decide), fun w4 m4 => ?_⟩
    refine ⟨_, rfl, ?_⟩
    refine ⟨_, rfl, C i, .ref (C 5), .ref (C 5), _, rfl, rfl, KO.ex, rfl, fun _ r => r, KO.k 5 (by decide), (by show 2 ≤ sizeLine; decide), fun t5 n5 => ?_⟩
    refine ⟨_, rfl, C i, .ref (C 6), .ref (C 6), _, rfl, rfl, KO.ex, rfl, fun _ r => r, KO.k 6 (by decide), (by show 2 ≤ sizeLine; decide), fun t6 n6 => ?_⟩
    refine ⟨(by show 2 ≤ sizeLine; decide), fun w5 m5 => ?_⟩
    refine ⟨w4, w5, _, _, rfl, rfl, (((same_upd n5).trans (same_upd n6)).trans (same_upd m5)) _ _ upd_same, upd_same, (by show 7 ≤ sizeLine; decide), fun w6 m6 => ?_⟩
    refine ⟨_, rfl, ?_⟩
    refine ⟨_, rfl, C i, .ref (C 7), .ref (C 7), _, rfl, rfl, KO.ex, rfl, fun _ r => r, KO.k 7 (by decide), (by show 2 ≤ sizeLine; decide), fun t7 n7 => ?_⟩
    refine ⟨_, rfl, C i, .ref (C 8), .ref (C 8), _, rfl, rfl, KO.ex, rfl, fun _ r => r, KO.k 8 (by decide), (by show 2 ≤ sizeLine; decide), fun t8 n8 => ?_⟩
    refine ⟨(by show 2 ≤ sizeLine; decide), fun w7 m7 => ?_⟩
    refine ⟨w6, w7, _, _, rfl, rfl, (((same_upd n7).trans (same_upd n8)).trans (same_upd m7)) _ _ upd_same, upd_same, (by show 9 ≤ sizeLine; decide), fun w8 m8 => ?_⟩
    refine ⟨_, rfl, ?_⟩
    refine ⟨_, rfl, C i, .ref (C 9), .ref (C 9), _, rfl, rfl, KO.ex, rfl, fun _ r => r, KO.k 9 (by decide), (by show 2 ≤ sizeLine; decide), fun t9 n9 => ?_⟩
    refine ⟨(by show 1 ≤ sizeLine; decide), fun w9 m9 => ?_⟩
    refine ⟨w8, w9, _, _, rfl, rfl, ((same_upd n9).trans (same_upd m9)) _ _ upd_same, upd_same, (by show 10 ≤ sizeLine; decide), fun w10 m10 => ?_⟩
    refine ⟨_, rfl, .inl ⟨rfl, _, SqL.of upd_same⟩, ?_⟩
    refine ⟨_, rfl, C i, .ref (C 10), .ref (C 10), _, rfl, rfl, KO.ex, rfl, fun _ r => r, KO.k 10 (by decide), (by show 2 ≤ sizeLine; decide), fun t10 n10 => ?_⟩
    refine ⟨w10, _, _, rfl, rfl, same_upd n10 _ _ upd_same, (by show 10 < sizeLine; decide), ?_⟩
    have e0 := (((((((((((((((((((((same_upd n1).trans (same_upd m0)).trans (same_upd n2)).trans (same_upd m1)).trans (same_upd m2)).trans (same_upd n3)).trans (same_upd n4)).trans (same_upd m3)).trans (same_upd m4)).trans (same_upd n5)).trans (same_upd n6)).trans (same_upd m5)).trans (same_upd m6)).trans (same_upd n7)).trans (same_upd n8)).trans (same_upd m7)).trans (same_upd m8)).trans (same_upd n9)).trans (same_upd m9)).trans (same_upd m10)).trans (same_upd (o := .tup [.str "NothingLeft", .bl (decide (i = 10))]) n10)) _ _ (upd_same (a := t0))
    have e1 := ((((((((((((((((((((same_upd m0).trans (same_upd n2)).trans (same_upd m1)).trans (same_upd m2)).trans (same_upd n3)).trans (same_upd n4)).trans (same_upd m3)).trans (same_upd m4)).trans (same_upd n5)).trans (same_upd n6)).trans (same_upd m5)).trans (same_upd m6)).trans (same_upd n7)).trans (same_upd n8)).trans (same_upd m7)).trans (same_upd m8)).trans (same_upd n9)).trans (same_upd m9)).trans (same_upd m10)).trans (same_upd (o := .tup [.str "NothingLeft", .bl (decide (i = 10))]) n10)) _ _ (upd_same (a := t1))
    have e2 := ((((((((((((((((((same_upd m1).trans (same_upd m2)).trans (same_upd n3)).trans (same_upd n4)).trans (same_upd m3)).trans (same_upd m4)).trans (same_upd n5)).trans (same_upd n6)).trans (same_upd m5)).trans (same_upd m6)).trans (same_upd n7)).trans (same_upd n8)).trans (same_upd m7)).trans (same_upd m8)).trans (same_upd n9)).trans (same_upd m9)).trans (same_upd m10)).trans (same_upd (o := .tup [.str "NothingLeft", .bl (decide (i = 10))]) n10)) _ _ (upd_same (a := t2))
    have e3 := (((((((((((((((same_upd n4).trans (same_upd m3)).trans (same_upd m4)).trans (same_upd n5)).trans (same_upd n6)).trans (same_upd m5)).trans (same_upd m6)).trans (same_upd n7)).trans (same_upd n8)).trans (same_upd m7)).trans (same_upd m8)).trans (same_upd n9)).trans (same_upd m9)).trans (same_upd m10)).trans (same_upd (o := .tup [.str "NothingLeft", .bl (decide (i = 10))]) n10)) _ _ (upd_same (a := t3))
    have e4 := ((((((((((((((same_upd m3).trans (same_upd m4)).trans (same_upd n5)).trans (same_upd n6)).trans (same_upd m5)).trans (same_upd m6)).trans (same_upd n7)).trans (same_upd n8)).trans (same_upd m7)).trans (same_upd m8)).trans (same_upd n9)).trans (same_upd m9)).trans (same_upd m10)).trans (same_upd (o := .tup [.str "NothingLeft", .bl (decide (i = 10))]) n10)) _ _ (upd_same (a := t4))
    have e5 := (((((((((((same_upd n6).trans (same_upd m5)).trans (same_upd m6)).trans (same_upd n7)).trans (same_upd n8)).trans (same_upd m7)).trans (same_upd m8)).trans (same_upd n9)).trans (same_upd m9)).trans (same_upd m10)).trans (same_upd (o := .tup [.str "NothingLeft", .bl (decide (i = 10))]) n10)) _ _ (upd_same (a := t5))
    have e6 := ((((((((((same_upd m5).trans (same_upd m6)).trans (same_upd n7)).trans (same_upd n8)).trans (same_upd m7)).trans (same_upd m8)).trans (same_upd n9)).trans (same_upd m9)).trans (same_upd m10)).trans (same_upd (o := .tup [.str "NothingLeft", .bl (decide (i = 10))]) n10)) _ _ (upd_same (a := t6))
    have e7 := (((((((same_upd n8).trans (same_upd m7)).trans (same_upd m8)).trans (same_upd n9)).trans (same_upd m9)).trans (same_upd m10)).trans (same_upd (o := .tup [.str "NothingLeft", .bl (decide (i = 10))]) n10)) _ _ (upd_same (a := t7))
    have e8 := ((((((same_upd m7).trans (same_upd m8)).trans (same_upd n9)).trans (same_upd m9)).trans (same_upd m10)).trans (same_upd (o := .tup [.str "NothingLeft", .bl (decide (i = 10))]) n10)) _ _ (upd_same (a := t8))
    have e9 := (((same_upd m9).trans (same_upd m10)).trans (same_upd (o := .tup [.str "NothingLeft", .bl (decide (i = 10))]) n10)) _ _ (upd_same (a := t9))
    have ew := (same_upd (o := .tup [.str "NothingLeft", .bl (decide (i = 10))]) n10) _ _ (upd_same (a := w10))
    have sx := ((((((((((((((((((((((same_upd n0).trans (same_upd n1)).trans (same_upd m0)).trans (same_upd n2)).trans (same_upd m1)).trans (same_upd m2)).trans (same_upd n3)).trans (same_upd n4)).trans (same_upd m3)).trans (same_upd m4)).trans (same_upd n5)).trans (same_upd n6)).trans (same_upd m5)).trans (same_upd m6)).trans (same_upd n7)).trans (same_upd n8)).trans (same_upd m7)).trans (same_upd m8)).trans (same_upd n9)).trans (same_upd m9)).trans (same_upd m10)).trans (same_upd (o := .tup [.str "NothingLeft", .bl (decide (i = 10))]) n10))
    have nw := ((((((((((((((((((((same_upd n0).trans (same_upd n1)).trans (same_upd m0)).trans (same_upd n2)).trans (same_upd m1)).trans (same_upd m2)).trans (same_upd n3)).trans (same_upd n4)).trans (same_upd m3)).trans (same_upd m4)).trans (same_upd n5)).trans (same_upd n6)).trans (same_upd m5)).trans (same_upd m6)).trans (same_upd n7)).trans (same_upd n8)).trans (same_upd m7)).trans (same_upd m8)).trans (same_upd n9)).trans (same_upd m9)).free m10
    have sf := same_fresh (o := .lst (([.ref t0, .ref t1, .ref t2, .ref t3, .ref t4, .ref t5, .ref t6, .ref t7, .ref t8, .ref t9] : List V) ++ [.ref t10])) sx nw
    refine kin_rd KO upd_same rfl ?_ fun p H3 s3 e => ?_
    · intro k x hk
      have no : ∀ {t : Addr} {xs ys : List V} {Hx : Hp}, Hx t = some (.tup xs) → Hx w10 = some (.lst ys) → t ≠ w10 := fun h1 h2 => ne_of h1 h2 (fun z => nomatch z)
      match k, hk with
      | 0, hk => exact ⟨t0, (Option.some.inj hk).symm, by rw [upd_ne (no e0 ew)]; exact e0⟩
      | 1, hk => exact ⟨t1, (Option.some.inj hk).symm, by rw [upd_ne (no e1 ew)]; exact e1⟩
      | 2, hk => exact ⟨t2, (Option.some.inj hk).symm, by rw [upd_ne (no e2 ew)]; exact e2⟩
      | 3, hk => exact ⟨t3, (Option.some.inj hk).symm, by rw [upd_ne (no e3 ew)]; exact e3⟩
      | 4, hk => exact ⟨t4, (Option.some.inj hk).symm, by rw [upd_ne (no e4 ew)]; exact e4⟩
      | 5, hk => exact ⟨t5, (Option.some.inj hk).symm, by rw [upd_ne (no e5 ew)]; exact e5⟩
      | 6, hk => exact ⟨t6, (Option.some.inj hk).symm, by rw [upd_ne (no e6 ew)]; exact e6⟩
      | 7, hk => exact ⟨t7, (Option.some.inj hk).symm, by rw [upd_ne (no e7 ew)]; exact e7⟩
      | 8, hk => exact ⟨t8, (Option.some.inj hk).symm, by rw [upd_ne (no e8 ew)]; exact e8⟩
      | 9, hk => exact ⟨t9, (Option.some.inj hk).symm, by rw [upd_ne (no e9 ew)]; exact e9⟩
      | 10, hk => exact ⟨t10, (Option.some.inj hk).symm, by rw [upd_ne (no (upd_same (a := t10)) ew)]; exact upd_same⟩
      | k + 11, hk => exact nomatch hk
    · exact ⟨_, rfl, q p H3 (sf.trans s3) e⟩
set_option maxHeartbeats 4000000 in
theorem ok_p_is_kind {P : Program} {w : World} {K : PySem.W.Frag} {mg : Str → Option Value} {base : Heap} {f : Addr} {fd : FuncData} (F : Fun K "is_kind" "is_kind" s_p_is_kind f fd) (D_p_is_within : Def P w K mg base "is_within" 1 ["thing", "least", "most"] (sp_p_is_within K)) (b_len : mg "len" = none) :
    FnOk P w K mg base CX0 2 f fd ["cards", "thing"] (sp_p_is_kind K) := by
  refine F.ok sc_p_is_kind (fun vs H Q E h => ?_) (fun cdv A outer s H vs Q E hr h => ?_)
  · obtain ⟨cA, cs, x, d, rfl, hC, hd, q⟩ := h
    rfl
  obtain ⟨cA, cs, x, d, rfl, hC, hd, q⟩ := h
  refine ⟨_, (pss_one (ps_ret (pe_def D_p_is_within hr (pa_cons (pv 1) (pa_cons pe_int (pa_cons (pe_op op_sub (pe_callB call_len_seq (by rfl) b_len PySem.boot_len (pa_cons (pv 0) pa_nil)) pe_int) pa_nil)))))), ?_⟩
  exact ⟨_, rfl, _, rfl, cA, _, rfl, .inr hC, _, _, rfl, rfl, x, d, _, _, rfl, hd, q⟩
set_option maxHeartbeats 4000000 in
theorem ok_p_is_deed {P : Program} {w : World} {K : PySem.W.Frag} {mg : Str → Option Value} {base : Heap} {f : Addr} {fd : FuncData} (F : Fun K "is_deed" "is_deed" s_p_is_deed f fd) (D_p_is_kind : Def P w K mg base "is_kind" 2 ["cards", "thing"] (sp_p_is_kind K)) (b_isinstance : mg "isinstance" = none) (b_str : mg "str" = none) {t_RIDE : Tok} (g_RIDE : mg "RIDE" = some (.str "ride" t_RIDE)) :
    FnOk P w K mg base CX0 3 f fd ["cards", "thing"] (sp_p_is_deed K) := by
  refine F.ok sc_p_is_deed (fun vs H Q E h => ?_) (fun cdv A outer s H vs Q E hr h => ?_)
  · obtain ⟨cA, cs, x, d, rfl, hC, hd, q⟩ := h
    rfl
  obtain ⟨cA, cs, x, d, rfl, hC, hd, q⟩ := h
  refine ⟨_, (pss_cons (ps_if (pt_val (pe_callB call_isi (by rfl) b_isinstance PyProof.Rows.boot_isinstance (pa_cons (pv 1) (pa_cons (pe_bltn (v := .ty "str") rfl b_str PyProof.Rows.boot_str rfl) pa_nil)))) (pss_one (ps_ret (pe_cmpR op_eq (pv 1) (pe_glob (v := .str "ride") rfl g_RIDE ⟨_, rfl⟩) (nomark _)))) pss_nil)
        (pss_one (ps_ret (pe_def D_p_is_kind hr (pa_cons (pv 0) (pa_cons (pv 1) pa_nil)))))), ?_⟩
  cases hd with
  | non => exact ⟨_, rfl, _, _, _, _, false, rfl, .ty "str", .base .non, kit_ty (by decide +kernel), _, rfl, _, rfl, _, rfl, cA, cs, _, _, rfl, hC, .non, q⟩
  | bl b => exact ⟨_, rfl, _, _, _, _, false, rfl, .ty "str", .base (.bl b), kit_ty (by decide +kernel), _, rfl, _, rfl, _, rfl, cA, cs, _, _, rfl, hC, .bl b, q⟩
  | int b => exact ⟨_, rfl, _, _, _, _, false, rfl, .ty "str", .base (.int b), kit_ty (by decide +kernel), _, rfl, _, rfl, _, rfl, cA, cs, _, _, rfl, hC, .int b, q⟩
  | str b => exact ⟨_, rfl, _, _, _, _, true, rfl, .ty "str", .base (.str b), kit_ty (by decide +kernel), _, rfl, _, rfl, rfl, q⟩
  | lst h hx => exact ⟨_, rfl, _, _, _, _, false, rfl, .ty "str", tyL h, kit_ty (by decide +kernel), _, rfl, _, rfl, _, rfl, cA, cs, _, _, rfl, hC, .lst h hx, q⟩
  | tup h hx => exact ⟨_, rfl, _, _, _, _, false, rfl, .ty "str", tyT h, kit_ty (by decide +kernel), _, rfl, _, rfl, _, rfl, cA, cs, _, _, rfl, hC, .tup h hx, q⟩
set_option maxHeartbeats 4000000 in
theorem ok_p_is_row {P : Program} {w : World} {K : PySem.W.Frag} {mg : Str → Option Value} {base : Heap} {f : Addr} {fd : FuncData} (F : Fun K "is_row" "is_row" s_p_is_row f fd) (D_p_is_deed : Def P w K mg base "is_deed" 3 ["cards", "thing"] (sp_p_is_deed K)) (b_len : mg "len" = none) (b_isinstance : mg "isinstance" = none) (b_list : mg "list" = none) (b_all : mg "all" = none) {t_MOST_DEEDS : Tok} (g_MOST_DEEDS : mg "MOST_DEEDS" = some (.int 100 t_MOST_DEEDS)) :
    FnOk P w K mg base CX0 4 f fd ["cards", "thing"] (sp_p_is_row K) := by
  refine F.ok sc_p_is_row (fun vs H Q E h => ?_) (fun cdv A outer s H vs Q E hr h => ?_)
  · obtain ⟨cA, cs, x, d, rfl, hC, hd, q⟩ := h
    rfl
  obtain ⟨cA, cs, x, d, rfl, hC, hd, q⟩ := h
  refine ⟨_, (pss_cons (ps_if (PW.pt (pw_or (pt_not (pt_val (pe_callB call_isi (by rfl) b_isinstance PyProof.Rows.boot_isinstance (pa_cons (pv 1) (pa_cons (pe_bltn (v := .ty "list") rfl b_list PyProof.Rows.boot_list rfl) pa_nil))))) (pw_or1 (pt_cmpR op_gt (pe_callB call_len_seq (by rfl) b_len PySem.boot_len (pa_cons (pv 1) pa_nil)) (pe_glob (v := .int 100) rfl g_MOST_DEEDS ⟨_, rfl⟩) (nomark _))))) (pss_one (ps_ret pe_bl)) pss_nil)
        (pss_one (ps_ret (pe_callB (cr_all rfl) (by rfl) b_all PyProof.Rows.boot_all (pa_cons (pe_lc (own := [("deed", 2)]) (g := gName 2) (tt := tYes) rfl sc_p_is_row.nd (pi_list (pv 1)) (blkOk_by (own := [("deed", 2)]) (N := ["cards", "thing", "deed"]) (sc := defScope s_p_is_row) (by decide +kernel)) (fun _ _ _ _ _ => (pg_name (i := 2) sc_p_is_row.nd rfl (Or.inl rfl))) (fun _ _ _ _ _ => pts_nil) (fun _ _ _ _ _ => (pe_def D_p_is_deed hr (pa_cons (pv 0) (pa_cons (pv 2) pa_nil))))) pa_nil))))), ?_⟩
  cases hd with
  | non => exact ⟨_, rfl, _, _, _, _, false, rfl, .ty "list", .base .non, kit_ty (by decide +kernel), _, rfl, q _ (.refl H)⟩
  | bl b => exact ⟨_, rfl, _, _, _, _, false, rfl, .ty "list", .base (.bl b), kit_ty (by decide +kernel), _, rfl, q _ (.refl H)⟩
  | str b => exact ⟨_, rfl, _, _, _, _, false, rfl, .ty "list", .base (.str b), kit_ty (by decide +kernel), _, rfl, q _ (.refl H)⟩
  | int b => exact ⟨_, rfl, _, _, _, _, false, rfl, .ty "list", .base (.int b), kit_ty (by decide +kernel), _, rfl, q _ (.refl H)⟩
  | tup h _ => exact ⟨_, rfl, _, _, _, _, false, rfl, .ty "list", tyT h, kit_ty (by decide +kernel), _, rfl, q _ (.refl H)⟩
  | @lst a xs ds h hx =>
    have hl := dp_len hx
    refine ⟨_, rfl, _, _, _, _, true, rfl, .ty "list", tyL h, kit_ty (by decide +kernel), _, rfl, ?_⟩
    refine ⟨_, rfl, a, _, rfl, .inl h, _, _, rfl, rfl, _, rfl, ?_⟩
    by_cases c2 : ds.length ≤ 100
    · refine iteN (fun e => ?_) ?_
      · have := of_decide_eq_true e
        omega
      refine ⟨_, rfl, a, rfl, ⟨_, h⟩, fun D nD => ?_⟩
      refine lc_list (K := K) (a := a) (xs := xs) (fun i H' => Same H H' ∧ H' D = some (.lst (((ds.take i).map (deedD (cs.length : Int))).map V.bl))) ?_ ?_ ?_ ?_
      · exact ⟨same_new (.refl H) nD, upd_same⟩
      · rintro i H' hi ⟨sm, e⟩
        exact L2.Same.seq sm h
      · rintro i y H' hi ⟨sm, e⟩
        obtain ⟨d, hd1, hd2⟩ := dp_get hx hi
        have hi' : i < xs.length := (List.getElem?_eq_some_iff.mp hi).1
        refine ⟨rfl, _, rfl, _, rfl, cA, cs, y, d, rfl, Same.seqT sm hC, Same.dp sm hd2, _, e, ?_, same_fresh sm nD, ?_⟩
        · rw [List.length_map, List.length_map, List.length_take]
          exact small1000 (by omega)
        · rw [upd_same, take_map _ hd1, List.map_append]
          rfl
      · rintro H' ⟨sm, e⟩
        rw [hl, List.take_length] at e
        refine ⟨D, _, rfl, SqL.of e, ?_⟩
        have q' := q H' sm
        have ec : rowD (cs.length : Int) (.list ds) = (ds.map (deedD (cs.length : Int))).all id := by
          show (decide (ds.length ≤ 100) && ds.all (deedD (cs.length : Int))) = _
          rw [decide_eq_true c2, List.all_map]
          rfl
        rw [ec] at q'
        exact q'
    · refine iteP (decide_eq_true (by omega)) ?_
      have q' := q H (.refl H)
      have ec : rowD (cs.length : Int) (.list ds) = false := by
        show (decide (ds.length ≤ 100) && ds.all (deedD (cs.length : Int))) = _
        rw [decide_eq_false c2, Bool.false_and]
      rw [ec] at q'
      exact q'
set_option maxHeartbeats 4000000 in
theorem ok_p_refuse_no_row {P : Program} {w : World} {K : PySem.W.Frag} {mg : Str → Option Value} {base : Heap} {f : Addr} {fd : FuncData} (F : Fun K "refuse_no_row" "refuse_no_row" s_p_refuse_no_row f fd) (D_p_is_row : Def P w K mg base "is_row" 4 ["cards", "thing"] (sp_p_is_row K)) {C_NoRow : Addr} (T_NoRow : ExcT K mg "NoRow" C_NoRow) :
    FnOk P w K mg base (L2N.CX P w) 5 f fd ["cards", "thing"] (sp_p_refuse_no_row mg K) := by
  refine okN F sc_p_refuse_no_row (fun vs H Q E h => ?_) (fun cdv A outer s H vs Q E hr h => ?_)
  · obtain ⟨cA, cs, x, d, rfl, hC, hd, q1, q2⟩ := h
    rfl
  obtain ⟨cA, cs, x, d, rfl, hC, hd, q1, q2⟩ := h
  refine ⟨_, (pss_one (ps_if (pt_not (pt_val (pe_def D_p_is_row hr (pa_cons (pv 0) (pa_cons (pv 1) pa_nil))))) (pss_one (ps_raiseX T_NoRow (L2N.takes_of rfl rfl rfl rfl))) pss_nil)), ?_⟩
  refine ⟨_, rfl, _, rfl, cA, cs, x, d, rfl, hC, hd, fun H' sm => ⟨_, rfl, ?_⟩⟩
  cases z : rowD (cs.length : Int) d with
  | true => exact q1 z H' sm
  | false => exact q2 z H' _ sm T_NoRow.g
set_option maxHeartbeats 4000000 in
theorem ok_p_after_ride {P : Program} {w : World} {K : PySem.W.Frag} {mg : Str → Option Value} {base : Heap} {f : Addr} {fd : FuncData} (F : Fun K "after_ride" "after_ride" s_p_after_ride f fd) (b_tuple : mg "tuple" = none) :
    FnOk P w K mg base CX0 1 f fd ["purse"] (sp_p_after_ride K) := by
  refine F.ok sc_p_after_ride (fun vs H Q E h => ?_) (fun cdv A outer s H vs Q E hr h => ?_)
  · obtain ⟨pA, x, zs, rfl, ⟨sA, hP1, hP2⟩, h3, q1, q2⟩ := h
    rfl
  obtain ⟨pA, x, zs, rfl, ⟨sA, hP1, hP2⟩, h3, q1, q2⟩ := h
  refine ⟨_, (pss_cons (ps_asg (pv 0) (pg_tup rfl (pgs_cons (pg_name (i := 1) sc_p_after_ride.nd rfl (Or.inl rfl)) (pgs_cons (pg_name (i := 2) sc_p_after_ride.nd rfl (Or.inl rfl)) pgs_nil))))
        (pss_cons (ps_if (pt_cmpR op_lt (pv 1) pe_int (nomark _)) (pss_one (ps_ret pe_non)) pss_nil)
        (pss_one (ps_ret (pe_tup (pa_cons (pe_op op_sub (pv 1) pe_int) (pa_cons (pe_callTy call_tuple_of (by rfl) b_tuple PyProof.Rows.boot_tuple (pa_cons (pe_lc (own := [("many", 3)]) (g := gName 3) (tt := tYes) rfl sc_p_after_ride.nd (pi_tup (pv 2)) (blkOk_by (own := [("many", 3)]) (N := ["purse", "rides", "stamps", "many"]) (sc := defScope s_p_after_ride) (by decide +kernel)) (fun _ _ _ _ _ => (pg_name (i := 3) sc_p_after_ride.nd rfl (Or.inl rfl))) (fun _ _ _ _ _ => pts_nil) (fun _ _ _ _ _ => (pe_op op_add (pv 3) pe_int))) pa_nil)) pa_nil))))))), ?_⟩
  refine ⟨_, rfl, pA, _, rfl, hP1, rfl, _, _, rfl, _, _, rfl, rfl, ?_⟩
  refine ⟨_, rfl, _, _, rfl, rfl, _, rfl, ite2 (fun c => ?_) (fun c => ?_)⟩
  · have c' := of_decide_eq_true c
    exact q1 (by omega)
  · have c' : ¬ x < 1 := fun z => c (decide_eq_true z)
    refine ⟨_, rfl, _, _, rfl, rfl, _, rfl, sA, rfl, ⟨_, hP2⟩, fun D nD => ?_⟩
    refine lc_tup (K := K) (a := sA) (xs := zs.map V.int) (fun j H' => Same H H' ∧ H' D = some (.lst (((zs.take j).map (· + 1)).map V.int))) ?_ ?_ ?_ ?_
    · exact ⟨same_new (.refl _) nD, upd_same⟩
    · rintro j H' hj ⟨sm, e⟩
      exact Same.seqT sm hP2
    · rintro j y H' hj ⟨sm, e⟩
      obtain ⟨z, hz, rfl⟩ := get_map hj
      have hj' : j < zs.length := (List.getElem?_eq_some_iff.mp hz).1
      refine ⟨rfl, _, rfl, _, _, rfl, rfl, _, e, ?_, same_fresh sm nD, ?_⟩
      · rw [List.length_map, List.length_map, List.length_take]
        exact small1000 (by omega)
      · rw [upd_same, take_map _ hz, List.map_append]
        rfl
    · rintro H' ⟨sm, e⟩
      rw [List.length_map, List.take_length] at e
      refine ⟨D, _, rfl, .inl ⟨SqL.of e, fun t nt => ?_⟩⟩
      refine ⟨(by show 2 ≤ sizeLine; decide), fun p np => ?_⟩
      refine q2 (by omega) p t _ (same_new (same_new sm nt) np) upd_same ?_
      rw [upd_ne (ne_of_none (show (upd H' t (.tup ((zs.map (· + 1)).map V.int))) t = some _ from upd_same) np), upd_same]
set_option maxHeartbeats 4000000 in
theorem ok_p_after_giving {P : Program} {w : World} {K : PySem.W.Frag} {mg : Str → Option Value} {base : Heap} {f : Addr} {fd : FuncData} (F : Fun K "after_giving" "after_giving" s_p_after_giving f fd) (b_list : mg "list" = none) (b_tuple : mg "tuple" = none) :
    FnOk P w K mg base CX0 1 f fd ["cards", "purse", "kind"] (sp_p_after_giving K) := by
  refine F.ok sc_p_after_giving (fun vs H Q E h => ?_) (fun cdv A outer s H vs Q E hr h => ?_)
  · obtain ⟨cA, pA, cs, x, zs, i, c, z, rfl, hC, ⟨sA, hP1, hP2⟩, hl, h3, i0, i1, hcg, hzg, q1, q2⟩ := h
    rfl
  obtain ⟨cA, pA, cs, x, zs, i, c, z, rfl, hC, ⟨sA, hP1, hP2⟩, hl, h3, i0, i1, hcg, hzg, q1, q2⟩ := h
  refine ⟨_, (pss_cons (ps_asg (pv 1) (pg_tup rfl (pgs_cons (pg_name (i := 3) sc_p_after_giving.nd rfl (Or.inl rfl)) (pgs_cons (pg_name (i := 4) sc_p_after_giving.nd rfl (Or.inl rfl)) pgs_nil))))
        (pss_cons (ps_if (pt_cmpR op_lt (pe_ix ix_tup (pv 4) (pv 2) (fun _ _ => rfl)) (pe_ix ix_tup (pv 0) (pv 2) (fun _ _ => rfl)) (nomark _)) (pss_one (ps_ret pe_non)) pss_nil)
        (pss_cons (ps_set (i := 5) sc_p_after_giving.nd rfl (Or.inl rfl) (pe_callTy call_list_of (by rfl) b_list PyProof.Rows.boot_list (pa_cons (pv 4) pa_nil)))
        (pss_cons (ps_augS (pv 5) (pv 2) get_lst (pe_ix ix_tup (pv 0) (pv 2) (fun _ _ => rfl)) ip_sub set_list)
        (pss_one (ps_ret (pe_tup (pa_cons (pe_op op_add (pv 3) pe_int) (pa_cons (pe_callTy call_tuple_of (by rfl) b_tuple PyProof.Rows.boot_tuple (pa_cons (pv 5) pa_nil)) pa_nil))))))))), ?_⟩
  have hza : atI (zs.map V.int) i = some (.int z) := at_of (j := i.toNat) (by omega) (by rw [List.getElem?_map, hzg]; rfl)
  have hca : atI (cs.map V.int) i = some (.int c) := at_of (j := i.toNat) (by omega) (by rw [List.getElem?_map, hcg]; rfl)
  refine ⟨_, rfl, pA, _, rfl, hP1, rfl, _, _, rfl, _, _, rfl, rfl, ?_⟩
  refine ⟨_, rfl, _, rfl, sA, _, _, _, rfl, rfl, hP2, hza, _, rfl, _, rfl, cA, _, _, _, rfl, rfl, hC, hca, _, _, rfl, rfl, _, rfl, ite2 (fun e => ?_) (fun e => ?_)⟩
  · exact q1 (of_decide_eq_true e)
  · have e' : ¬ z < c := fun g => e (decide_eq_true g)
    refine ⟨_, rfl, sA, _, rfl, .inr hP2, fun l nl => ?_⟩
    have s1 := same_upd (o := .lst (zs.map V.int)) nl
    have hix : ixN (zs.map V.int).length i = some i.toNat := by
      unfold ixN
      rw [if_pos i0, if_pos (by rw [List.length_map]; omega)]
    refine ⟨_, rfl, _, rfl, l, _, i, _, rfl, rfl, SqL.of upd_same, i0, by omega, (by rw [List.getElem?_map, hzg]; rfl), _, rfl, _, rfl, cA, _, _, _, rfl, rfl, Same.seqT s1 hC, hca, _, _, rfl, rfl, l, _, i, _, rfl, rfl, upd_same, hix, ?_⟩
    have el : (upd (upd H l (.lst (zs.map V.int))) l (.lst ((zs.map V.int).set i.toNat (.int (z - c))))) l = some (.lst ((zs.map V.int).set i.toNat (.int (z - c)))) := upd_same
    have sl : Same H (upd (upd H l (.lst (zs.map V.int))) l (.lst ((zs.map V.int).set i.toNat (.int (z - c))))) := same_fresh s1 nl
    refine ⟨_, rfl, _, _, rfl, rfl, _, rfl, l, _, rfl, .inl ⟨SqL.of el, fun t nt => ?_⟩⟩
    refine ⟨(by show 2 ≤ sizeLine; decide), fun p np => ?_⟩
    refine q2 (by omega) p t _ (same_new (same_new sl nt) np) upd_same ?_
    rw [upd_ne (ne_of_none upd_same np), upd_same, ← List.map_set]
set_option maxHeartbeats 4000000 in
theorem ok_p_after_deed {P : Program} {w : World} {K : PySem.W.Frag} {mg : Str → Option Value} {base : Heap} {f : Addr} {fd : FuncData} (F : Fun K "after_deed" "after_deed" s_p_after_deed f fd) (D_p_after_ride : Def P w K mg base "after_ride" 1 ["purse"] (sp_p_after_ride K)) (D_p_after_giving : Def P w K mg base "after_giving" 1 ["cards", "purse", "kind"] (sp_p_after_giving K)) {t_RIDE : Tok} (g_RIDE : mg "RIDE" = some (.str "ride" t_RIDE)) :
    FnOk P w K mg base CX0 2 f fd ["cards", "purse", "deed"] (sp_p_after_deed K) := by
  refine F.ok sc_p_after_deed (fun vs H Q E h => ?_) (fun cdv A outer s H vs Q E hr h => ?_)
  · obtain ⟨kA, pA, cs, x, zs, d, rfl, hC, hP, hl, h3, hd, q1, q2⟩ := h
    rfl
  obtain ⟨kA, pA, cs, x, zs, d, rfl, hC, hP, hl, h3, hd, q1, q2⟩ := h
  refine ⟨_, (pss_cons (ps_if (pt_cmpR op_eq (pv 2) (pe_glob (v := .str "ride") rfl g_RIDE ⟨_, rfl⟩) (nomark _)) (pss_one (ps_ret (pe_def D_p_after_ride hr (pa_cons (pv 1) pa_nil)))) pss_nil)
        (pss_one (ps_ret (pe_def D_p_after_giving hr (pa_cons (pv 0) (pa_cons (pv 1) (pa_cons (pv 2) pa_nil))))))), ?_⟩
  rcases hd with rfl | ⟨i, rfl, i0, i1⟩
  · refine ⟨_, rfl, rfl, _, rfl, iteP (decide_eq_true rfl) ?_⟩
    refine ⟨_, rfl, pA, x, zs, rfl, hP, by omega, fun h => q1 (fun g => ?_) H (.refl H), fun h p s' H' sm e1 e2 => q2 (.inl ⟨rfl, h⟩) p s' H' sm e1 e2⟩
    rcases g with ⟨_, g⟩ | ⟨i, c, z, g, _⟩
    · exact h g
    · exact nomatch g
  · refine ⟨_, rfl, rfl, _, rfl, iteN (fun e => nomatch of_decide_eq_true e) ?_⟩
    obtain ⟨z, hzm, hzg, hza⟩ := at_int (ns := zs) (k := i) i0 (by omega)
    obtain ⟨c, hcm, hcg, hca⟩ := at_int (ns := cs) (k := i) i0 i1
    have es : aftS cs zs (.int i) = zs.set i.toNat (z - c) := by
      show zs.set i.toNat (zs.getD i.toNat 0 - cs.getD i.toNat 0) = _
      rw [List.getD_eq_getElem?_getD, List.getD_eq_getElem?_getD, hzg, hcg]
      rfl
    refine ⟨_, rfl, _, rfl, _, rfl, kA, pA, cs, x, zs, i, c, z, rfl, hC, hP, hl, h3, i0, i1, hcg, hzg, fun h => q1 (fun g => ?_) H (.refl H), fun h p s' H' sm e1 e2 => q2 (.inr ⟨i, c, z, rfl, i0, hcg, hzg, h⟩) p s' H' sm e1 (by rw [es]; exact e2)⟩
    rcases g with ⟨g, _⟩ | ⟨i', c', z', g, _, g1, g2, g3⟩
    · exact nomatch g
    · cases g
      rw [hcg] at g1
      rw [hzg] at g2
      cases g1
      cases g2
      omega
set_option maxHeartbeats 4000000 in
theorem ok_p_behind {P : Program} {w : World} {K : PySem.W.Frag} {mg : Str → Option Value} {base : Heap} {f : Addr} {fd : FuncData} (F : Fun K "behind" "behind" s_p_behind f fd) (D_p_refuse_no_cards : DefX P w K mg base "refuse_no_cards" 3 ["thing"] (sp_p_refuse_no_cards mg K)) (D_p_refuse_no_purse : DefX P w K mg base "refuse_no_purse" 4 ["cards", "thing"] (sp_p_refuse_no_purse mg K)) (D_p_refuse_no_row : DefX P w K mg base "refuse_no_row" 5 ["cards", "thing"] (sp_p_refuse_no_row mg K)) (D_p_after_deed : Def P w K mg base "after_deed" 2 ["cards", "purse", "deed"] (sp_p_after_deed K)) :
    FnOk P w K mg base (L2N.CX P w) 6 f fd ["cards", "purse", "row"] (sp_p_behind mg K) := by
  refine okN F sc_p_behind (fun vs H Q E h => ?_) (fun cdv A outer s H vs Q E hr h => ?_)
  · obtain ⟨x, y, z, rfl, h⟩ := h
    rfl
  obtain ⟨x, y, z, rfl, h⟩ := h
  refine ⟨_, (pss_cons (ps_expr (pe_defX D_p_refuse_no_cards hr (L2N.takes_of rfl rfl rfl rfl) (pa_cons (pv 0) pa_nil)))
        (pss_cons (ps_expr (pe_defX D_p_refuse_no_purse hr (L2N.takes_of rfl rfl rfl rfl) (pa_cons (pv 0) (pa_cons (pv 1) pa_nil))))
        (pss_cons (ps_expr (pe_defX D_p_refuse_no_row hr (L2N.takes_of rfl rfl rfl rfl) (pa_cons (pv 0) (pa_cons (pv 2) pa_nil))))
        (PSs.nox (pss_cons (ps_for PassesOwn.never rfl (pi_list (pv 2)) (pg_name (i := 3) sc_p_behind.nd rfl (Or.inl rfl)) (pss_cons (ps_set (i := 1) sc_p_behind.nd rfl (Or.inl rfl) (pe_def D_p_after_deed hr (pa_cons (pv 0) (pa_cons (pv 1) (pa_cons (pv 3) pa_nil)))))
        (pss_one (ps_if (pt_cmpR op_isN (pv 1) pe_non (nomark _)) (pss_one (ps_ret pe_non)) pss_nil))))
        (pss_one (ps_ret (pv 1)))))))), ?_⟩
  rcases h with ⟨⟨d, hd, hc⟩, q⟩ | ⟨cs, ⟨cA, rfl, hC, hK⟩, ⟨d, hd, hb⟩, q⟩
  · exact ⟨_, rfl, x, d, rfl, hd, fun z => (by rw [hc] at z; cases z), fun _ H' C s g => q H' C s g⟩
  · refine ⟨_, rfl, _, _, rfl, .tup hC (dp_ints cs), fun _ H1 s1 => ?_, fun z => by rw [cardsD_ok hK] at z; cases z⟩
    refine ⟨_, rfl, _, rfl, cA, _, y, d, rfl, Same.seqT s1 hC, ?_, Same.dp s1 hd, fun z => ?_, fun _ => q.same s1⟩
    · rw [List.length_map]
      exact hK.2.1
    · rw [List.length_map, hb] at z
      cases z
set_option maxHeartbeats 4000000 in
theorem ok_p_refuse_no_number {P : Program} {w : World} {K : PySem.W.Frag} {mg : Str → Option Value} {base : Heap} {f : Addr} {fd : FuncData} (F : Fun K "refuse_no_number" "refuse_no_number" s_p_refuse_no_number f fd) (D_p_is_within : Def P w K mg base "is_within" 1 ["thing", "least", "most"] (sp_p_is_within K)) {t_MOST : Tok} (g_MOST : mg "MOST" = some (.int 1000000000000000000 t_MOST)) {C_NoNumber : Addr} (T_NoNumber : ExcT K mg "NoNumber" C_NoNumber) :
    FnOk P w K mg base (L2N.CX P w) 2 f fd ["thing", "least"] (sp_p_refuse_no_number mg K) := by
  refine okN F sc_p_refuse_no_number (fun vs H Q E h => ?_) (fun cdv A outer s H vs Q E hr h => ?_)
  · obtain ⟨x, d, lo, rfl, hd, hlo, q1, q2⟩ := h
    rfl
  obtain ⟨x, d, lo, rfl, hd, hlo, q1, q2⟩ := h
  refine ⟨_, (pss_one (ps_if (pt_not (pt_val (pe_def D_p_is_within hr (pa_cons (pv 0) (pa_cons (pv 1) (pa_cons (pe_glob (v := .int 1000000000000000000) rfl g_MOST ⟨_, rfl⟩) pa_nil)))))) (pss_one (ps_raiseF T_NoNumber (L2N.takes_of rfl rfl rfl rfl) (pe_joined (PJ.cons pe_str (PJ.cons (pe_fmt (pv 1)) (PJ.cons pe_str PJ.nil)))))) pss_nil)), ?_⟩
  subst hlo
  refine ⟨_, rfl, _, rfl, x, d, 0, 1000000000000000000, rfl, hd, _, rfl, ?_⟩
  cases z : withinD 0 1000000000000000000 d with
  | true => exact q1 z
  | false =>
    refine ⟨_, rfl, by decide +kernel, _, rfl, .inr ⟨0, rfl, by decide, _, rfl, by decide +kernel, _, rfl, by decide +kernel, ?_⟩⟩
    exact q2 z H _ (.refl H) T_NoNumber.g
set_option maxHeartbeats 4000000 in
theorem ok_p_least_rides {P : Program} {w : World} {K : PySem.W.Frag} {mg : Str → Option Value} {base : Heap} {f : Addr} {fd : FuncData} (F : Fun K "least_rides" "least_rides" s_p_least_rides f fd) (D_p_refuse_no_cards : DefX P w K mg base "refuse_no_cards" 3 ["thing"] (sp_p_refuse_no_cards mg K)) (D_p_refuse_no_stamps : DefX P w K mg base "refuse_no_stamps" 3 ["cards", "thing"] (sp_p_refuse_no_stamps mg K)) (D_p_refuse_no_number : DefX P w K mg base "refuse_no_number" 2 ["thing", "least"] (sp_p_refuse_no_number mg K)) (D_p_period_of : Def P w K mg base "period_of" 1 ["cards"] (sp_p_period_of K)) (D_p_period_pays : Def P w K mg base "period_pays" 2 ["cards"] (sp_p_period_pays K)) (D_p_rides_wanted : Def P w K mg base "rides_wanted" 2 ["cards", "stamps", "first", "end"] (sp_p_rides_wanted K)) (b_min : mg "min" = none) (b_max : mg "max" = none) :
    FnOk P w K mg base (L2N.CX P w) 4 f fd ["cards", "stamps", "number"] (sp_p_least_rides mg K) := by
  refine okN F sc_p_least_rides (fun vs H Q E h => ?_) (fun cdv A outer s H vs Q E hr h => ?_)
  · obtain ⟨x, y, z, rfl, h⟩ := h
    rfl
  obtain ⟨x, y, z, rfl, h⟩ := h
  refine ⟨_, (pss_cons (ps_expr (pe_defX D_p_refuse_no_cards hr (L2N.takes_of rfl rfl rfl rfl) (pa_cons (pv 0) pa_nil)))
        (pss_cons (ps_expr (pe_defX D_p_refuse_no_stamps hr (L2N.takes_of rfl rfl rfl rfl) (pa_cons (pv 0) (pa_cons (pv 1) pa_nil))))
        (pss_cons (ps_expr (pe_defX D_p_refuse_no_number hr (L2N.takes_of rfl rfl rfl rfl) (pa_cons (pv 2) (pa_cons pe_int pa_nil))))
        (PSs.nox (pss_cons (ps_set (i := 3) sc_p_least_rides.nd rfl (Or.inl rfl) (pe_def D_p_period_of hr (pa_cons (pv 0) pa_nil)))
        (pss_cons (ps_if (pt_val (pe_def D_p_period_pays hr (pa_cons (pv 0) pa_nil))) (pss_one (ps_ret (pe_def D_p_rides_wanted hr (pa_cons (pv 0) (pa_cons (pv 1) (pa_cons pe_int (pa_cons (pe_callB (call_min2 rfl) (by rfl) b_min PyProof.Rows.boot_min (pa_cons (pv 2) (pa_cons (pv 3) pa_nil))) pa_nil))))))) pss_nil)
        (pss_one (ps_ret (pe_def D_p_rides_wanted hr (pa_cons (pv 0) (pa_cons (pv 1) (pa_cons (pe_callB (call_max2 rfl) (by rfl) b_max PyProof.Rows.boot_max (pa_cons pe_int (pa_cons (pe_op op_sub (pv 2) (pv 3)) pa_nil))) (pa_cons (pv 2) pa_nil))))))))))))), ?_⟩
  rcases h with ⟨⟨d, hd, hc⟩, q⟩ | ⟨cs, ⟨cA, rfl, hC, hK⟩, ⟨d, hd, hb⟩, q⟩ | ⟨cs, ⟨cA, rfl, hC, hK⟩, ⟨d, hd, hb⟩, h⟩
  · exact ⟨_, rfl, x, d, rfl, hd, fun z => (by rw [hc] at z; cases z), fun _ H' C s g => q H' C s g⟩
  · refine ⟨_, rfl, _, _, rfl, .tup hC (dp_ints cs), fun _ H1 s1 => ?_, fun z => by rw [cardsD_ok hK] at z; cases z⟩
    refine ⟨_, rfl, _, rfl, cA, _, y, d, rfl, Same.seqT s1 hC, ?_, Same.dp s1 hd, fun z => ?_, fun _ => q.same s1⟩
    · rw [List.length_map]
      exact hK.2.1
    · rw [List.length_map, hb] at z
      cases z
  · refine ⟨_, rfl, _, _, rfl, .tup hC (dp_ints cs), fun _ H1 s1 => ?_, fun z => by rw [cardsD_ok hK] at z; cases z⟩
    refine ⟨_, rfl, _, rfl, cA, _, y, d, rfl, Same.seqT s1 hC, ?_, Same.dp s1 hd, fun _ H2 s2 => ?_, fun z => ?_⟩
    · rw [List.length_map]
      exact hK.2.1
    · rcases h with ⟨⟨dz, hz, hz'⟩, q⟩ | ⟨k, rfl, k0, k1, hf, q⟩
      · exact ⟨_, rfl, z, dz, 0, rfl, Same.dp (s1.trans s2) hz, rfl, fun w => (by rw [hz'] at w; cases w), fun _ => q.same (s1.trans s2)⟩
      · obtain ⟨sA, ss, rfl, hS, hSt⟩ := hf
        have s := s1.trans s2
        have hl : cs.length = ss.length := hSt.1.symm
        obtain ⟨p1, p2, p3⟩ := perOf_ok hK
        refine ⟨_, rfl, _, .int k, 0, rfl, .int k, rfl, fun _ => ?_, fun w => ?_⟩
        · refine ⟨_, rfl, cA, cs, rfl, Same.seqT s hC, hK, ?_⟩
          refine ⟨_, rfl, cA, cs, rfl, Same.seqT s hC, hK, fun b H3 s3 hb => ⟨_, rfl, ite2 (fun c => ?_) (fun c => ?_)⟩⟩
          · have s' := s.trans s3
            refine ⟨_, rfl, _, rfl, _, rfl, _, rfl, _, _, rfl, cA, sA, cs, ss, 0, _, rfl, Same.seqT s' hC, Same.seqT s' hS, hl, hK, by omega, ?_, ?_, fun v H4 s4 hw => q _ H4 (s'.trans s4) ⟨v, rfl⟩⟩
            · split <;> omega
            · split <;> omega
          · have s' := s.trans s3
            refine ⟨_, rfl, _, rfl, _, rfl, _, rfl, _, _, rfl, rfl, _, _, rfl, _, rfl, cA, sA, cs, ss, _, k, rfl, Same.seqT s' hC, Same.seqT s' hS, hl, hK, ?_, ?_, by omega, fun v H4 s4 hw => q _ H4 (s'.trans s4) ⟨v, rfl⟩⟩
            · split <;> omega
            · split <;> omega
        · have w' : (decide (0 ≤ k) && decide (k ≤ 1000000000000000000)) = false := w
          rw [decide_eq_true k0, decide_eq_true k1] at w'
          cases w'
    · rw [List.length_map, hb] at z
      cases z
set_option maxHeartbeats 4000000 in
theorem ok_p_least_loan {P : Program} {w : World} {K : PySem.W.Frag} {mg : Str → Option Value} {base : Heap} {f : Addr} {fd : FuncData} (F : Fun K "least_loan" "least_loan" s_p_least_loan f fd) (D_p_refuse_no_cards : DefX P w K mg base "refuse_no_cards" 3 ["thing"] (sp_p_refuse_no_cards mg K)) (D_p_refuse_no_purse : DefX P w K mg base "refuse_no_purse" 4 ["cards", "thing"] (sp_p_refuse_no_purse mg K)) (D_p_refuse_no_number : DefX P w K mg base "refuse_no_number" 2 ["thing", "least"] (sp_p_refuse_no_number mg K)) (D_p_pays_back : Def P w K mg base "pays_back" 2 ["cards", "purse", "number"] (sp_p_pays_back K)) (D_p_least_rides : DefX P w K mg base "least_rides" 4 ["cards", "stamps", "number"] (sp_p_least_rides mg K)) (b_max : mg "max" = none) :
    FnOk P w K mg base (L2N.CX P w) 5 f fd ["cards", "purse", "number"] (sp_p_least_loan mg K) := by
  refine okN F sc_p_least_loan (fun vs H Q E h => ?_) (fun cdv A outer s H vs Q E hr h => ?_)
  · obtain ⟨x, y, z, rfl, h⟩ := h
    rfl
  obtain ⟨x, y, z, rfl, h⟩ := h
  refine ⟨_, (pss_cons (ps_expr (pe_defX D_p_refuse_no_cards hr (L2N.takes_of rfl rfl rfl rfl) (pa_cons (pv 0) pa_nil)))
        (pss_cons (ps_expr (pe_defX D_p_refuse_no_purse hr (L2N.takes_of rfl rfl rfl rfl) (pa_cons (pv 0) (pa_cons (pv 1) pa_nil))))
        (pss_cons (ps_expr (pe_defX D_p_refuse_no_number hr (L2N.takes_of rfl rfl rfl rfl) (pa_cons (pv 2) (pa_cons pe_int pa_nil))))
        (pss_cons (ps_if (pt_not (pt_val (pe_def D_p_pays_back hr (pa_cons (pv 0) (pa_cons (pv 1) (pa_cons (pv 2) pa_nil)))))) (pss_one (ps_ret pe_non)) pss_nil)
        (pss_cons (ps_asg (pv 1) (pg_tup rfl (pgs_cons (pg_name (i := 3) sc_p_least_loan.nd rfl (Or.inl rfl)) (pgs_cons (pg_name (i := 4) sc_p_least_loan.nd rfl (Or.inl rfl)) pgs_nil))))
        (pss_one (ps_ret (pe_callB (call_max2 rfl) (by rfl) b_max PyProof.Rows.boot_max (pa_cons pe_int (pa_cons (pe_op op_sub (pe_defX D_p_least_rides hr (L2N.takes_of rfl rfl rfl rfl) (pa_cons (pv 0) (pa_cons (pv 4) (pa_cons (pv 2) pa_nil)))) (pv 3)) pa_nil)))))))))), ?_⟩
  rcases h with ⟨⟨d, hd, hc⟩, q⟩ | ⟨cs, ⟨cA, rfl, hC, hK⟩, ⟨d, hd, hb⟩, q⟩ | ⟨cs, ⟨cA, rfl, hC, hK⟩, ⟨d, hd, hb⟩, h⟩
  · exact ⟨_, rfl, x, d, rfl, hd, fun z => (by rw [hc] at z; cases z), fun _ H' C s g => q H' C s g⟩
  · refine ⟨_, rfl, _, _, rfl, .tup hC (dp_ints cs), fun _ H1 s1 => ?_, fun z => by rw [cardsD_ok hK] at z; cases z⟩
    refine ⟨_, rfl, _, rfl, cA, _, y, d, rfl, Same.seqT s1 hC, ?_, Same.dp s1 hd, fun z => ?_, fun _ => q.same s1⟩
    · rw [List.length_map]
      exact hK.2.1
    · rw [List.length_map, hb] at z
      cases z
  · refine ⟨_, rfl, _, _, rfl, .tup hC (dp_ints cs), fun _ H1 s1 => ?_, fun z => by rw [cardsD_ok hK] at z; cases z⟩
    refine ⟨_, rfl, _, rfl, cA, _, y, d, rfl, Same.seqT s1 hC, ?_, Same.dp s1 hd, fun _ H2 s2 => ?_, fun z => ?_⟩
    · rw [List.length_map]
      exact hK.2.1
    · rcases h with ⟨⟨dz, hz, hz'⟩, q⟩ | ⟨k, rfl, k0, k1, hf, q⟩
      · exact ⟨_, rfl, z, dz, 0, rfl, Same.dp (s1.trans s2) hz, rfl, fun w => (by rw [hz'] at w; cases w), fun _ => q.same (s1.trans s2)⟩
      · obtain ⟨pA, r, ss, rfl, hP, hSt, r0, r1⟩ := hf
        have s := s1.trans s2
        refine ⟨_, rfl, _, .int k, 0, rfl, .int k, rfl, fun _ => ?_, fun w => ?_⟩
        · refine ⟨_, rfl, _, rfl, _, rfl, cA, pA, cs, r, ss, k, rfl, Same.seqT s hC, hP.same s, hK, hSt.1.symm, fun H3 s3 => ⟨_, rfl, ?_⟩⟩
          have s' := s.trans s3
          by_cases zz : k ≤ r + fc cs ss k
          · rw [decide_eq_true zz]
            obtain ⟨zA, hP1, hP2⟩ := hP.same s'
            refine ⟨_, rfl, pA, _, rfl, hP1, rfl, _, _, rfl, _, _, rfl, rfl, ?_⟩
            refine ⟨_, rfl, _, rfl, _, rfl, .ref cA, .ref zA, .int k, rfl, .inr (.inr ⟨cs, ⟨cA, rfl, Same.seqT s' hC, hK⟩, ⟨_, .tup hP2 (dp_ints ss), stampsD_ok hSt⟩, .inr ⟨k, rfl, k0, k1, ⟨zA, ss, rfl, hP2, hSt⟩, fun v H4 s4 hv => ?_⟩⟩)⟩
            obtain ⟨w, rfl⟩ := hv
            exact ⟨_, rfl, _, _, rfl, rfl, _, _, rfl, q _ H4 (s'.trans s4) trivial⟩
          · rw [decide_eq_false zz]
            exact q _ H3 s' trivial
        · have w' : (decide (0 ≤ k) && decide (k ≤ 1000000000000000000)) = false := w
          rw [decide_eq_true k0, decide_eq_true k1] at w'
          cases w'
    · rw [List.length_map, hb] at z
      cases z
set_option maxHeartbeats 4000000 in
theorem ok_p_can_have {P : Program} {w : World} {K : PySem.W.Frag} {mg : Str → Option Value} {base : Heap} {f : Addr} {fd : FuncData} (F : Fun K "can_have" "can_have" s_p_can_have f fd) (D_p_refuse_no_cards : DefX P w K mg base "refuse_no_cards" 3 ["thing"] (sp_p_refuse_no_cards mg K)) (D_p_refuse_no_purse : DefX P w K mg base "refuse_no_purse" 4 ["cards", "thing"] (sp_p_refuse_no_purse mg K)) (D_p_refuse_no_number : DefX P w K mg base "refuse_no_number" 2 ["thing", "least"] (sp_p_refuse_no_number mg K)) (D_p_pays_back : Def P w K mg base "pays_back" 2 ["cards", "purse", "number"] (sp_p_pays_back K)) :
    FnOk P w K mg base (L2N.CX P w) 5 f fd ["cards", "purse", "number"] (sp_p_can_have mg K) := by
  refine okN F sc_p_can_have (fun vs H Q E h => ?_) (fun cdv A outer s H vs Q E hr h => ?_)
  · obtain ⟨x, y, z, rfl, h⟩ := h
    rfl
  obtain ⟨x, y, z, rfl, h⟩ := h
  refine ⟨_, (pss_cons (ps_expr (pe_defX D_p_refuse_no_cards hr (L2N.takes_of rfl rfl rfl rfl) (pa_cons (pv 0) pa_nil)))
        (pss_cons (ps_expr (pe_defX D_p_refuse_no_purse hr (L2N.takes_of rfl rfl rfl rfl) (pa_cons (pv 0) (pa_cons (pv 1) pa_nil))))
        (pss_cons (ps_expr (pe_defX D_p_refuse_no_number hr (L2N.takes_of rfl rfl rfl rfl) (pa_cons (pv 2) (pa_cons pe_int pa_nil))))
        (PSs.nox (pss_one (ps_ret (pe_def D_p_pays_back hr (pa_cons (pv 0) (pa_cons (pv 1) (pa_cons (pv 2) pa_nil)))))))))), ?_⟩
  rcases h with ⟨⟨d, hd, hc⟩, q⟩ | ⟨cs, ⟨cA, rfl, hC, hK⟩, ⟨d, hd, hb⟩, q⟩ | ⟨cs, ⟨cA, rfl, hC, hK⟩, ⟨d, hd, hb⟩, h⟩
  · exact ⟨_, rfl, x, d, rfl, hd, fun z => (by rw [hc] at z; cases z), fun _ H' C s g => q H' C s g⟩
  · refine ⟨_, rfl, _, _, rfl, .tup hC (dp_ints cs), fun _ H1 s1 => ?_, fun z => by rw [cardsD_ok hK] at z; cases z⟩
    refine ⟨_, rfl, _, rfl, cA, _, y, d, rfl, Same.seqT s1 hC, ?_, Same.dp s1 hd, fun z => ?_, fun _ => q.same s1⟩
    · rw [List.length_map]
      exact hK.2.1
    · rw [List.length_map, hb] at z
      cases z
  · refine ⟨_, rfl, _, _, rfl, .tup hC (dp_ints cs), fun _ H1 s1 => ?_, fun z => by rw [cardsD_ok hK] at z; cases z⟩
    refine ⟨_, rfl, _, rfl, cA, _, y, d, rfl, Same.seqT s1 hC, ?_, Same.dp s1 hd, fun _ H2 s2 => ?_, fun z => ?_⟩
    · rw [List.length_map]
      exact hK.2.1
    · rcases h with ⟨⟨dz, hz, hz'⟩, q⟩ | ⟨k, rfl, k0, k1, hf, q⟩
      · exact ⟨_, rfl, z, dz, 0, rfl, Same.dp (s1.trans s2) hz, rfl, fun w => (by rw [hz'] at w; cases w), fun _ => q.same (s1.trans s2)⟩
      · obtain ⟨pA, r, ss, rfl, hP, hSt, r0, r1⟩ := hf
        have s := s1.trans s2
        refine ⟨_, rfl, _, .int k, 0, rfl, .int k, rfl, fun _ => ?_, fun w => ?_⟩
        · exact ⟨_, rfl, _, rfl, _, rfl, cA, pA, cs, r, ss, k, rfl, Same.seqT s hC, hP.same s, hK, hSt.1.symm, fun H3 s3 => q _ H3 (s.trans s3) trivial⟩
        · have w' : (decide (0 ≤ k) && decide (k ≤ 1000000000000000000)) = false := w
          rw [decide_eq_true k0, decide_eq_true k1] at w'
          cases w'
    · rw [List.length_map, hb] at z
      cases z
set_option maxHeartbeats 4000000 in
theorem ok_l_by_purse {P : Program} {w : World} {K : PySem.W.Frag} {mg : Str → Option Value} {base : Heap} {f : Addr} {fd : FuncData} (F : Fun K "_law_by_purse" "_law_by_purse" s_l_by_purse f fd) {C : Addr} (T : KeptT K mg C) {P_l_by_cards P_l_by_purse P_l_law c0 : Addr} (TB : LamX.TabB base mg c0 P_l_by_purse) (hcode : fd.code = .ref c0) (hne : Apart P_l_by_cards P_l_by_purse P_l_law) (D_m_init : KMkX P w K mg base C 5 ["self", "cards", "purse"] (sp_m_init mg K)) (D_p_greatest : DefX P w K mg base "greatest" 5 ["cards", "purse"] (sp_p_greatest mg K)) (D_p_left : DefX P w K mg base "left" 5 ["cards", "purse"] (sp_p_left mg K)) (D_p_all_rides : DefX P w K mg base "all_rides" 5 ["cards", "purse"] (sp_p_all_rides mg K)) (D_l_refused : Def P w K mg base "_law_refused" 13 ["call", "one", "two", "three"] (sp_l_refused P w K mg base)) (D_p_behind : DefX P w K mg base "behind" 6 ["cards", "purse", "row"] (sp_p_behind mg K)) (D_p_least_loan : DefX P w K mg base "least_loan" 5 ["cards", "purse", "number"] (sp_p_least_loan mg K)) (D_p_can_have : DefX P w K mg base "can_have" 5 ["cards", "purse", "number"] (sp_p_can_have mg K)) {f_p_greatest : Addr} (v_p_greatest : mg "greatest" = some (.ref f_p_greatest)) (h_p_greatest : HeldX P w K mg base 11 f_p_greatest (sp_p_greatest mg K)) {f_p_left : Addr} (v_p_left : mg "left" = some (.ref f_p_left)) (h_p_left : HeldX P w K mg base 11 f_p_left (sp_p_left mg K)) {f_p_all_rides : Addr} (v_p_all_rides : mg "all_rides" = some (.ref f_p_all_rides)) (h_p_all_rides : HeldX P w K mg base 11 f_p_all_rides (sp_p_all_rides mg K)) {f_p_behind : Addr} (v_p_behind : mg "behind" = some (.ref f_p_behind)) (h_p_behind : HeldX P w K mg base 11 f_p_behind (sp_p_behind mg K)) {f_p_least_loan : Addr} (v_p_least_loan : mg "least_loan" = some (.ref f_p_least_loan)) (h_p_least_loan : HeldX P w K mg base 11 f_p_least_loan (sp_p_least_loan mg K)) {f_p_can_have : Addr} (v_p_can_have : mg "can_have" = some (.ref f_p_can_have)) (h_p_can_have : HeldX P w K mg base 11 f_p_can_have (sp_p_can_have mg K)) {C : Nat → Addr} {tf rd : Addr} (KT : Kin K mg C tf rd) (KO1 : KinOf K C tf rd 1) (KO4 : KinOf K C tf rd 4) :
    FnOk P w K mg base CX0 14 f fd ["kinds", "had", "bad"] (sp_l_by_purse K P_l_by_cards P_l_by_purse P_l_law) := by
  refine okC F sc_l_by_purse (fun vs H Q E h => ?_) (fun A outer s H vs Q E hr h => ?_)
  · obtain ⟨kx, pA, y, cs, r, ss, rfl, hC, hP, hSt, r0, r1, hN, tb, q⟩ := h
    rfl
  obtain ⟨kx, pA, y, cs, r, ss, rfl, hC, hP, hSt, r0, r1, hN, tb, q⟩ := h
  refine ⟨_, (pss_cons (ps_for PassesOwn.never rfl (pi_tup (pe_tup (pa_cons (pe_glob (v := .ref f_p_all_rides) rfl v_p_all_rides rfl) (pa_cons (pe_glob (v := .ref f_p_left) rfl v_p_left rfl) (pa_cons (pe_glob (v := .ref f_p_greatest) rfl v_p_greatest rfl) pa_nil))))) (pg_name (i := 3) sc_l_by_purse.nd rfl (Or.inl rfl)) (pss_one (ps_if (pt_cmpR (op_neD hr.units) (pe_def D_l_refused hr (pa_cons (pe_lamV (T := T_all P_l_by_cards P_l_by_purse P_l_law) TB hcode (List.mem_cons_of_mem _ List.mem_cons_self) (one_1 hne) rfl (by decide +kernel)) (pa_cons (pv 3) (pa_cons (pv 0) (pa_cons (pv 2) pa_nil))))) (pe_lst (pa_cons pe_str (pa_cons pe_bl pa_nil))) (nomark _)) (pss_one (ps_ret pe_bl)) pss_nil)))
        (pss_cons (ps_if (pt_cmpR (op_neD hr.units) (pe_def D_l_refused hr (pa_cons (pe_glob (v := .ref f_p_behind) rfl v_p_behind rfl) (pa_cons (pv 0) (pa_cons (pv 2) (pa_cons pe_non pa_nil))))) (pe_lst (pa_cons pe_str (pa_cons pe_bl pa_nil))) (nomark _)) (pss_one (ps_ret pe_bl)) pss_nil)
        (pss_cons (ps_for PassesOwn.never rfl (pi_tup (pe_tup (pa_cons (pe_glob (v := .ref f_p_can_have) rfl v_p_can_have rfl) (pa_cons (pe_glob (v := .ref f_p_least_loan) rfl v_p_least_loan rfl) pa_nil)))) (pg_name (i := 3) sc_l_by_purse.nd rfl (Or.inl rfl)) (pss_cons (ps_if (pt_cmpR (op_neD hr.units) (pe_def D_l_refused hr (pa_cons (pv 3) (pa_cons (pv 0) (pa_cons (pv 2) (pa_cons pe_non pa_nil))))) (pe_lst (pa_cons pe_str (pa_cons pe_bl pa_nil))) (nomark _)) (pss_one (ps_ret pe_bl)) pss_nil)
        (pss_cons (ps_for PassesOwn.never rfl (pi_tup (pe_tup (pa_cons (pe_un un_neg pe_int) (pa_cons (pe_op op_add (pe_op op_pow pe_int pe_int) pe_int) (pa_cons pe_bl (pa_cons pe_non (pa_cons pe_str (pa_cons (pe_tup (pa_cons pe_int pa_nil)) pa_nil)))))))) (pg_name (i := 4) sc_l_by_purse.nd rfl (Or.inl rfl)) (pss_one (ps_if (pt_cmpR (op_neD hr.units) (pe_def D_l_refused hr (pa_cons (pv 3) (pa_cons (pv 0) (pa_cons (pv 1) (pa_cons (pv 4) pa_nil))))) (pe_lst (pa_cons pe_str (pa_cons pe_bl pa_nil))) (nomark _)) (pss_one (ps_ret pe_bl)) pss_nil)))
        (pss_one (ps_if (pt_cmpR (op_neD hr.units) (pe_def D_l_refused hr (pa_cons (pv 3) (pa_cons (pv 0) (pa_cons (pv 1) (pa_cons (pe_op op_pow pe_int pe_int) pa_nil))))) (pe_lst pa_nil) (nomark _)) (pss_one (ps_ret pe_bl)) pss_nil)))))
        (pss_one (ps_ret (pe_cmpR (op_eqD hr.units) (pe_def D_l_refused hr (pa_cons (pe_lamV (T := T_all P_l_by_cards P_l_by_purse P_l_law) TB hcode (List.mem_cons_of_mem _ List.mem_cons_self) (one_1 hne) rfl (by decide +kernel)) (pa_cons (pv 0) (pa_cons (pv 2) (pa_cons pe_int pa_nil))))) (pe_lst (pa_cons pe_str (pa_cons pe_bl pa_nil))) (nomark _))))))), ?_⟩
  refine ⟨(by show 3 ≤ sizeLine; decide), fun tu nu => ?_⟩
  have s0 := same_upd (o := .tup [.ref f_p_all_rides, .ref f_p_left, .ref f_p_greatest]) nu
  have drs : ∀ v ∈ ([.ref f_p_all_rides, .ref f_p_left, .ref f_p_greatest] : List V), Dr2 P w K mg base "NoPurse" kx y (fun H => IsC K H kx cs ∧ NoT purseD K H cs y) v := by
    intro v hv
    simp only [List.mem_cons, List.not_mem_nil, or_false] at hv
    rcases hv with rfl | rfl | rfl
    · exact ⟨_, _, rfl, h_p_all_rides, (mono_door2 : MonoSp (door2 purseD "NoPurse" mg K)), fun H Q E n r => ⟨_, _, rfl, .inr ⟨cs, n.1, n.2, r⟩⟩⟩
    · exact ⟨_, _, rfl, h_p_left, (mono_door2 : MonoSp (door2 purseD "NoPurse" mg K)), fun H Q E n r => ⟨_, _, rfl, .inr ⟨cs, n.1, n.2, r⟩⟩⟩
    · exact ⟨_, _, rfl, h_p_greatest, (mono_door2 : MonoSp (door2 purseD "NoPurse" mg K)), fun H Q E n r => ⟨_, _, rfl, .inr ⟨cs, n.1, n.2, r⟩⟩⟩
  refine ⟨tu, rfl, ⟨_, SqT.of upd_same⟩, ?_⟩
  refine for_tup (K := K) (a := tu) (xs := [.ref f_p_all_rides, .ref f_p_left, .ref f_p_greatest]) (fun i σ H' => ∃ z, σ = [some kx, some (.ref pA), some y, z, none] ∧ LamX.ExtN H H' ∧ LamX.Tabs (T_all P_l_by_cards P_l_by_purse P_l_law) H' ∧ H' tu = some (.tup [.ref f_p_all_rides, .ref f_p_left, .ref f_p_greatest])) ?_ ?_ ?_ ?_
  · exact ⟨_, rfl, ext_same s0, same_tabs s0 tb, upd_same⟩
  · rintro i σ H' hi ⟨z, rfl, _, _, e⟩
    exact SqT.of e
  · rintro i v σ H' hi ⟨z, rfl, ex, tbs, eW⟩
    obtain ⟨fa, sp, rfl, hh, mn, gg⟩ := drs v (List.mem_of_getElem? hi)
    refine ⟨tbs, fun fl cl H9 ex9 tb9 n9 ef ec => ?_⟩
    have exB := ex.trans ex9
    refine ⟨_, rfl, _, rfl, _, rfl, ?_⟩
    refine ⟨fl, .ref fa, kx, y, sp_lamA P w K mg base, C, tf, rd, rfl, KT, .inr ⟨_, _, (lok_of (k := 11) (N := ["a", "b", "c"]) (ps := ["a", "b", "c"]) (NdefX.nscope_by (by dsimp only; decide +kernel)) rfl (fun pm ctv us hl => match us, hl with | [_, _, _], _ => rfl) (fun vs H Q E h => by obtain ⟨_, _, _, _, rfl, _⟩ := h; rfl) (fun A outer s H vs Q E hr2 h => ?_)), ef, ec⟩, mono_lamA, fun H1 s1 => ⟨fa, kx, y, sp, rfl, hh, mn, gg _ _ _ ⟨hC.ext (exB.trans (ext_same s1)), hN.ext (exB.trans (ext_same s1))⟩ (refE_of KT KO1 fun p H2 s2 e2 => ?_)⟩⟩
    · obtain ⟨f1, x1, x2, sp1, rfl, h1, m1, h⟩ := h
      exact ⟨_, pe_callH (k := 11) (i := 0) hr2 rfl (.inl rfl) (L2N.takes_of rfl rfl rfl rfl) (pa_cons (pv 1) (pa_cons (pv 2) pa_nil)), f1, sp1, rfl, .inl ⟨h1, _, rfl, _, rfl, h⟩⟩
    · refine ⟨(by show 2 ≤ sizeLine; decide), fun l0 nl0 => ?_⟩
      have s3 := same_upd (o := .lst [.str "NoPurse", .bl true]) nl0
      refine ⟨_, _, .lst (SqL.of (s3 _ _ e2)) (.cons (.str _) (.cons (.bl _) .nil)), .lst (SqL.of upd_same) (.cons (.str _) (.cons (.bl _) .nil)), kinsh_1, kinsh_1, _, rfl, ?_⟩
      rw [show kinN 1 = Str.ofString "NoPurse" from rfl, sh_eqv kinsh_1]
      have exZ := ex9.trans (ext_same (s1.trans (s2.trans s3)))
      exact iteF ⟨_, rfl, ex.trans exZ, same_tabs (s1.trans (s2.trans s3)) tb9, exZ _ _ eW ntbl_tup⟩
  rintro σ Ha ⟨z1, rfl, exa, tba, _⟩
  clear drs
  -- behind
  refine ⟨_, rfl, _, rfl, ?_⟩
  refine ⟨f_p_behind, kx, y, .non, _, C, tf, rd, rfl, KT, .inl (h_p_behind.mono (by decide)), (mono_door3 : MonoSp (door3 purseD "NoPurse" mg K)), fun H1 s1 => ⟨_, _, _, rfl, .inr ⟨cs, hC.ext (exa.trans (ext_same s1)), hN.ext (exa.trans (ext_same s1)), refE_of KT KO1 fun p H2 s2 e2 => ?_⟩⟩⟩
  refine ⟨(by show 2 ≤ sizeLine; decide), fun l0 nl0 => ?_⟩
  have s3 := same_upd (o := .lst [.str "NoPurse", .bl true]) nl0
  refine ⟨_, _, .lst (SqL.of (s3 _ _ e2)) (.cons (.str _) (.cons (.bl _) .nil)), .lst (SqL.of upd_same) (.cons (.str _) (.cons (.bl _) .nil)), kinsh_1, kinsh_1, _, rfl, ?_⟩
  rw [show kinN 1 = Str.ofString "NoPurse" from rfl, sh_eqv kinsh_1]
  have sb := s1.trans (s2.trans s3)
  have exb := exa.trans (ext_same sb)
  have tbb := same_tabs sb tba
  generalize upd H2 l0 (.lst [.str "NoPurse", .bl true]) = Hb at exb tbb
  clear sb s3 nl0 e2 s2 s1
  refine iteF ?_
  -- can_have, least_loan
  refine ⟨(by show 2 ≤ sizeLine; decide), fun tv nv => ?_⟩
  have sv := same_upd (o := .tup [.ref f_p_can_have, .ref f_p_least_loan]) nv
  have drs : ∀ v ∈ ([.ref f_p_can_have, .ref f_p_least_loan] : List V), ∃ f, v = .ref f ∧ HeldX P w K mg base 12 f (door3n purseD "NoPurse" (okP K) anyV mg K) := by
    intro v hv
    simp only [List.mem_cons, List.not_mem_nil, or_false] at hv
    rcases hv with rfl | rfl
    · exact ⟨_, rfl, h_p_can_have.mono (by decide)⟩
    · exact ⟨_, rfl, h_p_least_loan.mono (by decide)⟩
  refine ⟨tv, rfl, ⟨_, SqT.of upd_same⟩, ?_⟩
  refine for_tup (K := K) (a := tv) (xs := [.ref f_p_can_have, .ref f_p_least_loan]) (fun i σ H' => ∃ z z', σ = [some kx, some (.ref pA), some y, z, z'] ∧ LamX.ExtN H H' ∧ LamX.Tabs (T_all P_l_by_cards P_l_by_purse P_l_law) H' ∧ H' tv = some (.tup [.ref f_p_can_have, .ref f_p_least_loan])) ?_ ?_ ?_ ?_
  · exact ⟨_, _, rfl, exb.trans (ext_same sv), same_tabs sv tbb, upd_same⟩
  · rintro i σ H' hi ⟨z, z', rfl, _, _, e⟩
    exact SqT.of e
  · rintro i v σ H' hi ⟨z, z', rfl, ex, tbs, eW⟩
    obtain ⟨fa, rfl, hh⟩ := drs v (List.mem_of_getElem? hi)
    refine ⟨_, rfl, _, rfl, _, rfl, ?_⟩
    refine ⟨fa, kx, y, .non, _, C, tf, rd, rfl, KT, .inl hh, mono_door3n, fun H1 s1 => ⟨_, _, _, rfl, .inr (.inl ⟨cs, hC.ext (ex.trans (ext_same s1)), hN.ext (ex.trans (ext_same s1)), refE_of KT KO1 fun p H2 s2 e2 => ?_⟩)⟩⟩
    refine ⟨(by show 2 ≤ sizeLine; decide), fun l0 nl0 => ?_⟩
    have s3 := same_upd (o := .lst [.str "NoPurse", .bl true]) nl0
    refine ⟨_, _, .lst (SqL.of (s3 _ _ e2)) (.cons (.str _) (.cons (.bl _) .nil)), .lst (SqL.of upd_same) (.cons (.str _) (.cons (.bl _) .nil)), kinsh_1, kinsh_1, _, rfl, ?_⟩
    rw [show kinN 1 = Str.ofString "NoPurse" from rfl, sh_eqv kinsh_1]
    have sc := s1.trans (s2.trans s3)
    refine iteF ?_
    -- odd numbers
    refine ⟨_, rfl, 10, 18, rfl, rfl, ⟨by decide, by decide, by decide⟩, _, _, rfl, rfl, (by show 1 ≤ sizeLine; decide), fun t1 n1 => ?_⟩
    have sd := same_upd (o := .tup [.int 1]) n1
    refine ⟨(by show 6 ≤ sizeLine; decide), fun tw nw => ?_⟩
    have se := same_upd (o := .tup (oddN t1)) nw
    have sce := sc.trans (sd.trans se)
    refine ⟨tw, rfl, ⟨_, SqT.of upd_same⟩, ?_⟩
    refine for_tup (K := K) (a := tw) (xs := oddN t1) (fun i σ H'' => ∃ z', σ = [some kx, some (.ref pA), some y, some (.ref fa), z'] ∧ Same H' H'' ∧ H'' t1 = some (.tup [.int 1]) ∧ H'' tw = some (.tup (oddN t1))) ?_ ?_ ?_ ?_
    · exact ⟨_, rfl, sce, se _ _ upd_same, upd_same⟩
    · rintro i σ Hx hi ⟨z, rfl, _, _, e⟩
      exact SqT.of e
    · rintro i v σ Hx hi ⟨z, rfl, sx, et, ew⟩
      have nz : ∀ {Hz}, Same Hx Hz → NoN K Hz v := fun s => oddN_no (List.mem_of_getElem? hi) (s _ _ et)
      refine ⟨_, rfl, _, rfl, _, rfl, _, rfl, ?_⟩
      refine ⟨fa, kx, .ref pA, v, _, C, tf, rd, rfl, KT, .inl hh, mono_door3n, fun H1 s1 => ⟨_, _, _, rfl, .inr (.inr ⟨cs, hC.ext (ex.trans (ext_same (sx.trans s1))), ⟨_, (ext_purse (ex.trans (ext_same (sx.trans s1))) hP).dp, purseD_ok r0 r1 hSt⟩, .inl ⟨nz s1, refE_of KT KO4 fun p H2 s2 e2 => ?_⟩⟩)⟩⟩
      refine ⟨(by show 2 ≤ sizeLine; decide), fun l0 nl0 => ?_⟩
      have s3 := same_upd (o := .lst [.str "NoNumber", .bl true]) nl0
      refine ⟨_, _, .lst (SqL.of (s3 _ _ e2)) (.cons (.str _) (.cons (.bl _) .nil)), .lst (SqL.of upd_same) (.cons (.str _) (.cons (.bl _) .nil)), kinsh_4, kinsh_4, _, rfl, ?_⟩
      rw [show kinN 4 = Str.ofString "NoNumber" from rfl, sh_eqv kinsh_4]
      have sy := s1.trans (s2.trans s3)
      exact iteF ⟨_, rfl, sx.trans sy, sy _ _ et, sy _ _ ew⟩
    · rintro σ Hx ⟨z, rfl, sx, _, _⟩
      refine ⟨_, rfl, _, rfl, _, rfl, 10, 18, rfl, rfl, ⟨by decide, by decide, by decide⟩, ?_⟩
      refine ⟨fa, kx, .ref pA, .int (10 ^ (Int.toNat 18)), _, C, tf, rd, rfl, KT, .inl hh, mono_door3n, fun H1 s1 => ⟨_, _, _, rfl, .inr (.inr ⟨cs, hC.ext (ex.trans (ext_same (sx.trans s1))), ⟨_, (ext_purse (ex.trans (ext_same (sx.trans s1))) hP).dp, purseD_ok r0 r1 hSt⟩, .inr ⟨_, rfl, by decide +kernel, by decide +kernel, ⟨pA, r, ss, rfl, ext_purse (ex.trans (ext_same (sx.trans s1))) hP, hSt, r0, r1⟩, fun v H2 s2 _ => ⟨s2, fun p H3 s3 e3 => ?_⟩⟩⟩)⟩⟩
      refine ⟨Nat.zero_le _, fun l0 nl0 => ?_⟩
      have s4 := same_upd (o := .lst []) nl0
      refine ⟨_, _, .lst (SqL.of (s4 _ _ e3)) .nil, .lst (SqL.of upd_same) .nil, shaped_nil, shaped_nil, _, rfl, ?_⟩
      rw [nil_eqv]
      have sy := sx.trans (s1.trans (s2.trans (s3.trans s4)))
      exact iteF ⟨_, _, rfl, ex.trans (ext_same sy), same_tabs sy tbs, sy _ _ eW⟩
  rintro σ Hc ⟨z2, z3, rfl, exc, tbc, _⟩
  refine ⟨tbc, fun fl cl H9 ex9 tb9 n9 ef ec => ?_⟩
  have exB := exc.trans ex9
  refine ⟨_, rfl, _, rfl, ?_⟩
  refine ⟨fl, kx, y, .int 0, door3 purseD "NoPurse" mg K, C, tf, rd, rfl, KT, .inr ⟨_, _, (lok_of (k := 11) (N := ["a", "b", "c"]) (ps := ["a", "b", "c"]) (NdefX.nscope_by (by dsimp only; decide +kernel)) rfl (fun pm ctv us hl => match us, hl with | [_, _, _], _ => rfl) (fun vs H Q E h => by obtain ⟨_, _, _, rfl, _⟩ := h; rfl) (fun A outer s H vs Q E hr2 h => ?_)), ef, ec⟩, mono_door3, fun H1 s1 => ⟨kx, y, .int 0, rfl, .inr ⟨cs, hC.ext (exB.trans (ext_same s1)), hN.ext (exB.trans (ext_same s1)), refE_of KT KO1 fun p H2 s2 e2 => ?_⟩⟩⟩
  · obtain ⟨x1, x2, x3, rfl, h⟩ := h
    refine ⟨_, pe_mkdefX T D_m_init hr2 (L2N.takes_of rfl rfl rfl rfl) (pa_cons (pv 0) (pa_cons (pv 1) pa_nil)), _, rfl, _, rfl, fun xx dx nx ndx nex => ?_⟩
    have sm : ∀ C0, Same H (upd (upd H dx (.own xx)) xx (.ins C0 dx [])) := fun C0 => (same_upd ndx).trans (same_upd ((upd_ne (Ne.symm nex)).trans nx))
    refine ⟨_, _, _, rfl, ?_⟩
    rcases h with ⟨h1, h2⟩ | ⟨cs, h1, h2, h3⟩
    · exact .inl ⟨h1.same (sm _), h2.same (sm _)⟩
    · exact .inr ⟨cs, h1.same (sm _), h2.same (sm _), h3.same (sm _)⟩
  · refine ⟨(by show 2 ≤ sizeLine; decide), fun l0 nl0 => ?_⟩
    have s3 := same_upd (o := .lst [.str "NoPurse", .bl true]) nl0
    refine ⟨_, _, .lst (SqL.of (s3 _ _ e2)) (.cons (.str _) (.cons (.bl _) .nil)), .lst (SqL.of upd_same) (.cons (.str _) (.cons (.bl _) .nil)), kinsh_1, kinsh_1, ?_⟩
    rw [show kinN 1 = Str.ofString "NoPurse" from rfl, sh_eqv kinsh_1]
    exact q _ (exB.trans (ext_same (s1.trans (s2.trans s3)))) (same_tabs (s1.trans (s2.trans s3)) tb9)
set_option maxHeartbeats 4000000 in
theorem ok_p_are_purses {P : Program} {w : World} {K : PySem.W.Frag} {mg : Str → Option Value} {base : Heap} {f : Addr} {fd : FuncData} (F : Fun K "are_purses" "are_purses" s_p_are_purses f fd) (D_p_purse_fits : Def P w K mg base "purse_fits" 3 ["cards", "thing"] (sp_p_purse_fits K)) (b_len : mg "len" = none) (b_isinstance : mg "isinstance" = none) (b_tuple : mg "tuple" = none) (b_all : mg "all" = none) {t_MOST_PURSES : Tok} (g_MOST_PURSES : mg "MOST_PURSES" = some (.int 8 t_MOST_PURSES)) :
    FnOk P w K mg base CX0 4 f fd ["cards", "thing"] (sp_p_are_purses K) := by
  refine F.ok sc_p_are_purses (fun vs H Q E h => ?_) (fun cdv A outer s H vs Q E hr h => ?_)
  · obtain ⟨cA, cs, x, d, rfl, hC, h3, hd, q⟩ := h
    rfl
  obtain ⟨cA, cs, x, d, rfl, hC, h3, hd, q⟩ := h
  refine ⟨_, (pss_cons (ps_if (PW.pt (pw_or (pt_not (pt_val (pe_callB call_isi (by rfl) b_isinstance PyProof.Rows.boot_isinstance (pa_cons (pv 1) (pa_cons (pe_bltn (v := .ty "tuple") rfl b_tuple PyProof.Rows.boot_tuple rfl) pa_nil))))) (pw_or1 (pt_not (pt_chain op_le op_le pe_int (pe_callB call_len_seq (by rfl) b_len PySem.boot_len (pa_cons (pv 1) pa_nil)) (pe_glob (v := .int 8) rfl g_MOST_PURSES ⟨_, rfl⟩)))))) (pss_one (ps_ret pe_bl)) pss_nil)
        (pss_one (ps_ret (pe_callB (cr_all rfl) (by rfl) b_all PyProof.Rows.boot_all (pa_cons (pe_lc (own := [("purse", 2)]) (g := gName 2) (tt := tYes) rfl sc_p_are_purses.nd (pi_tup (pv 1)) (blkOk_by (own := [("purse", 2)]) (N := ["cards", "thing", "purse"]) (sc := defScope s_p_are_purses) (by decide +kernel)) (fun _ _ _ _ _ => (pg_name (i := 2) sc_p_are_purses.nd rfl (Or.inl rfl))) (fun _ _ _ _ _ => pts_nil) (fun _ _ _ _ _ => (pe_def D_p_purse_fits hr (pa_cons (pv 0) (pa_cons (pv 2) pa_nil))))) pa_nil))))), ?_⟩
  cases hd with
  | non => exact ⟨_, rfl, _, _, _, _, false, rfl, .ty "tuple", .base .non, kit_ty (by decide +kernel), _, rfl, q _ (.refl H)⟩
  | bl b => exact ⟨_, rfl, _, _, _, _, false, rfl, .ty "tuple", .base (.bl b), kit_ty (by decide +kernel), _, rfl, q _ (.refl H)⟩
  | str b => exact ⟨_, rfl, _, _, _, _, false, rfl, .ty "tuple", .base (.str b), kit_ty (by decide +kernel), _, rfl, q _ (.refl H)⟩
  | int b => exact ⟨_, rfl, _, _, _, _, false, rfl, .ty "tuple", .base (.int b), kit_ty (by decide +kernel), _, rfl, q _ (.refl H)⟩
  | lst h _ => exact ⟨_, rfl, _, _, _, _, false, rfl, .ty "tuple", tyL h, kit_ty (by decide +kernel), _, rfl, q _ (.refl H)⟩
  | @tup a xs ds h hx =>
    have hl := dp_len hx
    refine ⟨_, rfl, _, _, _, _, true, rfl, .ty "tuple", tyT h, kit_ty (by decide +kernel), _, rfl, ?_⟩
    refine ⟨_, rfl, a, _, rfl, .inr h, _, _, rfl, rfl, _, rfl, ite2 (fun c => ?_) (fun c => ?_)⟩
    · have c' : 1 ≤ ds.length := by
        have := of_decide_eq_true c
        omega
      refine ⟨_, _, rfl, rfl, _, rfl, ?_⟩
      by_cases c2 : ds.length ≤ 8
      · have e2 : decide ((xs.length : Int) ≤ 8) = true := decide_eq_true (by omega)
        rw [e2]
        refine ⟨_, rfl, a, rfl, ⟨_, h⟩, fun D nD => ?_⟩
        refine lc_tup (K := K) (a := a) (xs := xs) (fun i H' => Same H H' ∧ H' D = some (.lst (((ds.take i).map (purseD cs.length)).map V.bl))) ?_ ?_ ?_ ?_
        · exact ⟨same_new (.refl H) nD, upd_same⟩
        · rintro i H' hi ⟨sm, e⟩
          exact Same.seqT sm h
        · rintro i y H' hi ⟨sm, e⟩
          obtain ⟨d, hd1, hd2⟩ := dp_get hx hi
          have hi' : i < xs.length := (List.getElem?_eq_some_iff.mp hi).1
          refine ⟨rfl, _, rfl, _, rfl, cA, cs, y, d, rfl, Same.seqT sm hC, h3, Same.dp sm hd2, fun H2 s2 => ⟨_, s2 _ _ e, ?_, same_fresh (sm.trans s2) nD, ?_⟩⟩
          · rw [List.length_map, List.length_map, List.length_take]
            exact small1000 (by omega)
          · rw [upd_same, take_map _ hd1, List.map_append]
            rfl
        · rintro H' ⟨sm, e⟩
          rw [hl, List.take_length] at e
          refine ⟨D, _, rfl, SqL.of e, ?_⟩
          have q' := q H' sm
          have ec : pursesD cs.length (.tuple ds) = (ds.map (purseD cs.length)).all id := by
            show (decide (1 ≤ ds.length) && decide (ds.length ≤ 8) && ds.all (purseD cs.length)) = _
            rw [decide_eq_true c', decide_eq_true c2, List.all_map]
            rfl
          rw [ec] at q'
          exact q'
      · have e2 : decide ((xs.length : Int) ≤ 8) = false := decide_eq_false (by omega)
        rw [e2]
        have q' := q H (.refl H)
        have ec : pursesD cs.length (.tuple ds) = false := by
          show (decide (1 ≤ ds.length) && decide (ds.length ≤ 8) && ds.all (purseD cs.length)) = _
          rw [decide_eq_false c2, Bool.and_false, Bool.false_and]
        rw [ec] at q'
        exact q'
    · have c' : ¬ 1 ≤ ds.length := fun z => c (decide_eq_true (by omega))
      refine ⟨_, rfl, ?_⟩
      have q' := q H (.refl H)
      have ec : pursesD cs.length (.tuple ds) = false := by
        show (decide (1 ≤ ds.length) && decide (ds.length ≤ 8) && ds.all (purseD cs.length)) = _
        rw [decide_eq_false c', Bool.false_and, Bool.false_and]
      rw [ec] at q'
      exact q'
set_option maxHeartbeats 4000000 in
theorem ok_p_refuse_no_purses {P : Program} {w : World} {K : PySem.W.Frag} {mg : Str → Option Value} {base : Heap} {f : Addr} {fd : FuncData} (F : Fun K "refuse_no_purses" "refuse_no_purses" s_p_refuse_no_purses f fd) (D_p_are_purses : Def P w K mg base "are_purses" 4 ["cards", "thing"] (sp_p_are_purses K)) {C_NoPurses : Addr} (T_NoPurses : ExcT K mg "NoPurses" C_NoPurses) :
    FnOk P w K mg base (L2N.CX P w) 5 f fd ["cards", "thing"] (sp_p_refuse_no_purses mg K) := by
  refine okN F sc_p_refuse_no_purses (fun vs H Q E h => ?_) (fun cdv A outer s H vs Q E hr h => ?_)
  · obtain ⟨cA, cs, x, d, rfl, hC, h3, hd, q1, q2⟩ := h
    rfl
  obtain ⟨cA, cs, x, d, rfl, hC, h3, hd, q1, q2⟩ := h
  refine ⟨_, (pss_one (ps_if (pt_not (pt_val (pe_def D_p_are_purses hr (pa_cons (pv 0) (pa_cons (pv 1) pa_nil))))) (pss_one (ps_raiseX T_NoPurses (L2N.takes_of rfl rfl rfl rfl))) pss_nil)), ?_⟩
  refine ⟨_, rfl, _, rfl, cA, cs, x, d, rfl, hC, h3, hd, fun H' sm => ⟨_, rfl, ?_⟩⟩
  cases z : pursesD cs.length d with
  | true => exact q1 z H' sm
  | false => exact q2 z H' _ sm T_NoPurses.g
set_option maxHeartbeats 4000000 in
theorem ok_p_put_together {P : Program} {w : World} {K : PySem.W.Frag} {mg : Str → Option Value} {base : Heap} {f : Addr} {fd : FuncData} (F : Fun K "put_together" "put_together" s_p_put_together f fd) (b_sum : mg "sum" = none) (b_range : mg "range" = none) (b_len : mg "len" = none) (b_tuple : mg "tuple" = none) :
    FnOk P w K mg base CX0 1 f fd ["cards", "purses"] (sp_p_put_together K) := by
  refine F.ok sc_p_put_together (fun vs H Q E h => ?_) (fun cdv A outer s H vs Q E hr h => ?_)
  · obtain ⟨cA, fA, cs, as, ps, rfl, hC, hF, hP, hK, hG, q⟩ := h
    rfl
  obtain ⟨cA, fA, cs, as, ps, rfl, hC, hF, hP, hK, hG, q⟩ := h
  refine ⟨_, (pss_cons (ps_set (i := 2) sc_p_put_together.nd rfl (Or.inl rfl) (pe_callB (cr_sum rfl) (by rfl) b_sum PyProof.Rows.boot_sum (pa_cons (pe_lc (own := [("purse", 5)]) (g := gName 5) (tt := tYes) rfl sc_p_put_together.nd (pi_tup (pv 1)) (blkOk_by (own := [("purse", 5)]) (N := ["cards", "purses", "rides", "stamps", "kind", "purse"]) (sc := defScope s_p_put_together) (by decide +kernel)) (fun _ _ _ _ _ => (pg_name (i := 5) sc_p_put_together.nd rfl (Or.inl rfl))) (fun _ _ _ _ _ => pts_nil) (fun _ _ _ _ _ => (pe_ix (ix_tupK K) (pv 5) pe_int (fun _ _ => rfl)))) pa_nil)))
        (pss_cons (ps_setLc (i := 3) (own := [("kind", 4)]) (g := gName 4) (tt := tYes) rfl sc_p_put_together.nd rfl rfl (sw_true rfl rfl rfl (by decide +kernel)) (pi_range1 rfl b_range (pa_cons (pe_callB call_len_seq (by rfl) b_len PySem.boot_len (pa_cons (pv 0) pa_nil)) pa_nil)) (blkOk_by (own := [("kind", 4)]) (N := ["cards", "purses", "rides", "stamps", "kind", "purse"]) (sc := defScope s_p_put_together) (by decide +kernel)) (fun _ _ _ _ _ => (pg_name (i := 4) sc_p_put_together.nd rfl (Or.inr rfl))) (fun _ _ _ _ _ => pts_nil) (fun _ _ _ _ _ => (pe_callB (cr_sumK K rfl) (by rfl) b_sum PyProof.Rows.boot_sum (pa_cons (pe_lc (own := [("purse", 5)]) (g := gName 5) (tt := tYes) rfl sc_p_put_together.nd (pi_tupK K (pv 1)) (blkOk_by (own := [("purse", 5)]) (N := ["cards", "purses", "rides", "stamps", "kind", "purse"]) (by kernel_rfl)) (fun _ _ _ _ _ => (pg_name (i := 5) sc_p_put_together.nd rfl (Or.inl rfl))) (fun _ _ _ _ _ => pts_nil) (fun _ _ _ _ _ => (pe_ix (ix_tupK K) (pe_ix (ix_tupK K) (pv 5) pe_int (fun _ _ => rfl)) (pv 4) (fun _ _ => rfl)))) pa_nil))))
        (pss_one (ps_ret (pe_tup (pa_cons (pv 2) (pa_cons (pe_callTy call_tuple_of (by rfl) b_tuple PyProof.Rows.boot_tuple (pa_cons (pv 3) pa_nil)) pa_nil))))))), ?_⟩
  have hlen := hP.len
  have h8 := hG.2.1
  have h3 := hK.2.1
  refine ⟨_, rfl, fA, rfl, ⟨_, hF⟩, fun D nD => ?_⟩
  refine lc_tup (K := K) (a := fA) (xs := as.map V.ref) (fun i H' => Same H H' ∧ H' D = some (.lst (((ps.take i).map (·.1)).map V.int))) ?_ ?_ ?_ ?_
  · exact ⟨same_new (.refl H) nD, upd_same⟩
  · rintro i H' hi ⟨sm, e⟩
    exact Same.seqT sm hF
  · rintro i y H' hi ⟨sm, e⟩
    obtain ⟨a, ha, rfl⟩ : ∃ a, as[i]? = some a ∧ y = .ref a := by
      rw [List.getElem?_map] at hi
      cases z : as[i]? with
      | none => rw [z] at hi; exact nomatch hi
      | some a => rw [z] at hi; exact ⟨a, rfl, (Option.some.inj hi).symm⟩
    obtain ⟨p, hp, sA, hp1, hp2⟩ := hP.get ha
    have hi' : i < as.length := (List.getElem?_eq_some_iff.mp ha).1
    refine ⟨rfl, _, rfl, a, _, _, _, rfl, rfl, Same.seqT sm hp1, atI_nat (j := 0) rfl, _, e, ?_, same_fresh sm nD, ?_⟩
    · rw [List.length_map, List.length_map, List.length_take]
      exact small1000 (by omega)
    · rw [upd_same, take_map _ hp, List.map_append]
      rfl
  · rintro H1 ⟨s1, e1⟩
    rw [List.length_map, hlen, List.take_length] at e1
    refine ⟨D, _, rfl, SqL.of e1, ?_⟩
    refine ⟨_, rfl, cA, _, rfl, .inr (Same.seqT s1 hC), _, rfl, by omega, ?_, fun D2 nD2 => ?_⟩
    · rw [List.length_map]
      omega
    refine lc_range (lo := 0) (n := (((cs.map V.int).length : Nat) : Int).toNat) (fun i H' => Same H1 H' ∧ H' D2 = some (.lst (((List.range i).map fun k => colS k ps).map V.int))) ?_ ?_ ?_
    · exact ⟨same_new (.refl H1) nD2, upd_same⟩
    · rintro k H2 hk ⟨s2, e2⟩
      have hk' : k < cs.length := by
        rw [List.length_map] at hk
        omega
      refine ⟨rfl, _, rfl, fA, rfl, ⟨_, Same.seqT (s1.trans s2) hF⟩, fun D3 nD3 => ?_⟩
      refine lc_tup (K := K) (a := fA) (xs := as.map V.ref) (fun i H' => Same H2 H' ∧ H' D3 = some (.lst (((ps.take i).map fun p => p.2.getD k 0).map V.int))) ?_ ?_ ?_ ?_
      · exact ⟨same_new (.refl H2) nD3, upd_same⟩
      · rintro i H' hi ⟨sm, e⟩
        exact Same.seqT ((s1.trans s2).trans sm) hF
      · rintro i y H' hi ⟨sm, e⟩
        obtain ⟨a, ha, rfl⟩ : ∃ a, as[i]? = some a ∧ y = .ref a := by
          rw [List.getElem?_map] at hi
          cases z : as[i]? with
          | none => rw [z] at hi; exact nomatch hi
          | some a => rw [z] at hi; exact ⟨a, rfl, (Option.some.inj hi).symm⟩
        obtain ⟨p, hp, sA, hp1, hp2⟩ := hP.get ha
        have hi' : i < as.length := (List.getElem?_eq_some_iff.mp ha).1
        have hst := (hG.2.2 p (List.mem_of_getElem? hp)).2.2.1
        have hgk : p.2[k]? = some (p.2.getD k 0) := by
          rw [List.getD_eq_getElem?_getD, List.getElem?_eq_getElem (by omega)]
          rfl
        have sm' := (s1.trans s2).trans sm
        have hat : atI (p.2.map V.int) (0 + (k : Int)) = some (.int (p.2.getD k 0)) := at_of (j := k) (by omega) (by rw [List.getElem?_map, hgk]; rfl)
        refine ⟨rfl, _, rfl, a, _, _, _, rfl, rfl, Same.seqT sm' hp1, atI_nat (j := 1) rfl, _, rfl, sA, _, _, _, rfl, rfl, Same.seqT sm' hp2, hat, _, e, ?_, same_fresh sm nD3, ?_⟩
        · rw [List.length_map, List.length_map, List.length_take]
          exact small1000 (by omega)
        · rw [upd_same, take_map _ hp, List.map_append]
          rfl
      · rintro H3 ⟨s3, e3⟩
        rw [List.length_map, hlen, List.take_length] at e3
        refine ⟨D3, _, rfl, SqL.of e3, _, s3 _ _ e2, ?_, same_fresh (s2.trans s3) nD2, ?_⟩
        · rw [List.length_map, List.length_map, List.length_range]
          exact small1000 (by omega)
        · rw [upd_same, List.range_succ, List.map_append, List.map_append]
          rfl
    · rintro H2 ⟨s2, e2⟩
      rw [show ((((cs.map V.int).length : Nat) : Int).toNat) = cs.length by rw [List.length_map]; omega, ← tots_eq hG.good] at e2
      refine ⟨_, rfl, _, rfl, D2, _, rfl, .inl ⟨SqL.of e2, fun t nt => ?_⟩⟩
      refine ⟨(by show 2 ≤ sizeLine; decide), fun p np => ?_⟩
      exact q p t _ (same_new (same_new (s1.trans s2) nt) np) upd_same (by rw [upd_ne (ne_of_none upd_same np), upd_same])
set_option maxHeartbeats 4000000 in
theorem ok_p_together {P : Program} {w : World} {K : PySem.W.Frag} {mg : Str → Option Value} {base : Heap} {f : Addr} {fd : FuncData} (F : Fun K "together" "together" s_p_together f fd) (D_p_refuse_no_cards : DefX P w K mg base "refuse_no_cards" 3 ["thing"] (sp_p_refuse_no_cards mg K)) (D_p_refuse_no_purses : DefX P w K mg base "refuse_no_purses" 5 ["cards", "thing"] (sp_p_refuse_no_purses mg K)) (D_p_rides_in_all : Def P w K mg base "rides_in_all" 3 ["cards", "purse"] (sp_p_rides_in_all K)) (D_p_put_together : Def P w K mg base "put_together" 1 ["cards", "purses"] (sp_p_put_together K)) :
    FnOk P w K mg base (L2N.CX P w) 6 f fd ["cards", "purses"] (sp_p_together mg K) := by
  refine okN F sc_p_together (fun vs H Q E h => ?_) (fun cdv A outer s H vs Q E hr h => ?_)
  · obtain ⟨x, y, rfl, h⟩ := h
    rfl
  obtain ⟨x, y, rfl, h⟩ := h
  refine ⟨_, (pss_cons (ps_expr (pe_defX D_p_refuse_no_cards hr (L2N.takes_of rfl rfl rfl rfl) (pa_cons (pv 0) pa_nil)))
        (pss_cons (ps_expr (pe_defX D_p_refuse_no_purses hr (L2N.takes_of rfl rfl rfl rfl) (pa_cons (pv 0) (pa_cons (pv 1) pa_nil))))
        (PSs.nox (pss_one (ps_ret (pe_def D_p_rides_in_all hr (pa_cons (pv 0) (pa_cons (pe_def D_p_put_together hr (pa_cons (pv 0) (pa_cons (pv 1) pa_nil))) pa_nil)))))))), ?_⟩
  rcases h with ⟨⟨d, hd, hc⟩, q⟩ | ⟨cs, ⟨cA, rfl, hC, hK⟩, ⟨d, hd, hb⟩, q⟩
  · exact ⟨_, rfl, x, d, rfl, hd, fun z => (by rw [hc] at z; cases z), fun _ H' C s g => q H' C s g⟩
  · refine ⟨_, rfl, _, _, rfl, .tup hC (dp_ints cs), fun _ H1 s1 => ?_, fun z => by rw [cardsD_ok hK] at z; cases z⟩
    refine ⟨_, rfl, _, rfl, cA, _, y, d, rfl, Same.seqT s1 hC, ?_, Same.dp s1 hd, fun z => ?_, fun _ => q.same s1⟩
    · rw [List.length_map]
      exact hK.2.1
    · rw [List.length_map, hb] at z
      cases z
set_option maxHeartbeats 4000000 in
theorem ok_p_apart {P : Program} {w : World} {K : PySem.W.Frag} {mg : Str → Option Value} {base : Heap} {f : Addr} {fd : FuncData} (F : Fun K "apart" "apart" s_p_apart f fd) (D_p_refuse_no_cards : DefX P w K mg base "refuse_no_cards" 3 ["thing"] (sp_p_refuse_no_cards mg K)) (D_p_refuse_no_purses : DefX P w K mg base "refuse_no_purses" 5 ["cards", "thing"] (sp_p_refuse_no_purses mg K)) (D_p_rides_in_all : Def P w K mg base "rides_in_all" 3 ["cards", "purse"] (sp_p_rides_in_all K)) :
    FnOk P w K mg base (L2N.CX P w) 6 f fd ["cards", "purses"] (sp_p_apart mg K) := by
  refine okN F sc_p_apart (fun vs H Q E h => ?_) (fun cdv A outer s H vs Q E hr h => ?_)
  · obtain ⟨x, y, rfl, h⟩ := h
    rfl
  obtain ⟨x, y, rfl, h⟩ := h
  refine ⟨_, (pss_cons (ps_expr (pe_defX D_p_refuse_no_cards hr (L2N.takes_of rfl rfl rfl rfl) (pa_cons (pv 0) pa_nil)))
        (pss_cons (ps_expr (pe_defX D_p_refuse_no_purses hr (L2N.takes_of rfl rfl rfl rfl) (pa_cons (pv 0) (pa_cons (pv 1) pa_nil))))
        (PSs.nox (pss_cons (ps_set (i := 2) sc_p_apart.nd rfl (Or.inl rfl) pe_int)
        (pss_cons (ps_for PassesOwn.never rfl (pi_tup (pv 1)) (pg_name (i := 3) sc_p_apart.nd rfl (Or.inl rfl)) (pss_cons (ps_set (i := 4) sc_p_apart.nd rfl (Or.inl rfl) (pe_def D_p_rides_in_all hr (pa_cons (pv 0) (pa_cons (pv 3) pa_nil))))
        (pss_cons (ps_if (pt_cmpR op_isN (pv 4) pe_non (nomark _)) (pss_one (ps_ret pe_non)) pss_nil)
        (pss_one (ps_aug (i := 2) sc_p_apart.nd rfl (Or.inl rfl) (pv 4) ip_add)))))
        (pss_one (ps_ret (pv 2)))))))), ?_⟩
  rcases h with ⟨⟨d, hd, hc⟩, q⟩ | ⟨cs, ⟨cA, rfl, hC, hK⟩, ⟨d, hd, hb⟩, q⟩
  · exact ⟨_, rfl, x, d, rfl, hd, fun z => (by rw [hc] at z; cases z), fun _ H' C s g => q H' C s g⟩
  · refine ⟨_, rfl, _, _, rfl, .tup hC (dp_ints cs), fun _ H1 s1 => ?_, fun z => by rw [cardsD_ok hK] at z; cases z⟩
    refine ⟨_, rfl, _, rfl, cA, _, y, d, rfl, Same.seqT s1 hC, ?_, Same.dp s1 hd, fun z => ?_, fun _ => q.same s1⟩
    · rw [List.length_map]
      exact hK.2.1
    · rw [List.length_map, hb] at z
      cases z
set_option maxHeartbeats 4000000 in
theorem ok_p_is_purse {P : Program} {w : World} {K : PySem.W.Frag} {mg : Str → Option Value} {base : Heap} {f : Addr} {fd : FuncData} (F : Fun K "is_purse" "is_purse" s_p_is_purse f fd) (D_p_refuse_no_cards : DefX P w K mg base "refuse_no_cards" 3 ["thing"] (sp_p_refuse_no_cards mg K)) (D_p_purse_fits : Def P w K mg base "purse_fits" 3 ["cards", "thing"] (sp_p_purse_fits K)) :
    FnOk P w K mg base (L2N.CX P w) 4 f fd ["cards", "thing"] (sp_p_is_purse mg K) := by
  refine okN F sc_p_is_purse (fun vs H Q E h => ?_) (fun cdv A outer s H vs Q E hr h => ?_)
  · obtain ⟨x, y, rfl, ⟨d, hd, hc⟩, q⟩ := h
    rfl
  obtain ⟨x, y, rfl, ⟨d, hd, hc⟩, q⟩ := h
  refine ⟨_, (pss_cons (ps_expr (pe_defX D_p_refuse_no_cards hr (L2N.takes_of rfl rfl rfl rfl) (pa_cons (pv 0) pa_nil)))
        (PSs.nox (pss_one (ps_ret (pe_def D_p_purse_fits hr (pa_cons (pv 0) (pa_cons (pv 1) pa_nil))))))), ?_⟩
  exact ⟨_, rfl, x, d, rfl, hd, fun z => (by rw [hc] at z; cases z), fun _ H' C s g => q H' C s g⟩
set_option maxHeartbeats 4000000 in
theorem ok_l_by_cards {P : Program} {w : World} {K : PySem.W.Frag} {mg : Str → Option Value} {base : Heap} {f : Addr} {fd : FuncData} (F : Fun K "_law_by_cards" "_law_by_cards" s_l_by_cards f fd) {C : Addr} (T : KeptT K mg C) {P_l_by_cards P_l_by_purse P_l_law c0 : Addr} (TB : LamX.TabB base mg c0 P_l_by_cards) (hcode : fd.code = .ref c0) (hne : Apart P_l_by_cards P_l_by_purse P_l_law) (D_m_init : KMkX P w K mg base C 5 ["self", "cards", "purse"] (sp_m_init mg K)) (D_p_together : DefX P w K mg base "together" 6 ["cards", "purses"] (sp_p_together mg K)) (D_p_apart : DefX P w K mg base "apart" 6 ["cards", "purses"] (sp_p_apart mg K)) (D_p_greatest : DefX P w K mg base "greatest" 5 ["cards", "purse"] (sp_p_greatest mg K)) (D_p_least_endless : DefX P w K mg base "least_endless" 4 ["cards", "stamps"] (sp_p_least_endless mg K)) (D_p_left : DefX P w K mg base "left" 5 ["cards", "purse"] (sp_p_left mg K)) (D_p_all_rides : DefX P w K mg base "all_rides" 5 ["cards", "purse"] (sp_p_all_rides mg K)) (D_p_is_purse : DefX P w K mg base "is_purse" 4 ["cards", "thing"] (sp_p_is_purse mg K)) (D_l_refused : Def P w K mg base "_law_refused" 13 ["call", "one", "two", "three"] (sp_l_refused P w K mg base)) (D_p_least_loan : DefX P w K mg base "least_loan" 5 ["cards", "purse", "number"] (sp_p_least_loan mg K)) (D_p_can_have : DefX P w K mg base "can_have" 5 ["cards", "purse", "number"] (sp_p_can_have mg K)) (D_p_least_rides : DefX P w K mg base "least_rides" 4 ["cards", "stamps", "number"] (sp_p_least_rides mg K)) (D_p_behind : DefX P w K mg base "behind" 6 ["cards", "purse", "row"] (sp_p_behind mg K)) {f_p_together : Addr} (v_p_together : mg "together" = some (.ref f_p_together)) (h_p_together : HeldX P w K mg base 11 f_p_together (sp_p_together mg K)) {f_p_apart : Addr} (v_p_apart : mg "apart" = some (.ref f_p_apart)) (h_p_apart : HeldX P w K mg base 11 f_p_apart (sp_p_apart mg K)) {f_p_greatest : Addr} (v_p_greatest : mg "greatest" = some (.ref f_p_greatest)) (h_p_greatest : HeldX P w K mg base 11 f_p_greatest (sp_p_greatest mg K)) {f_p_least_endless : Addr} (v_p_least_endless : mg "least_endless" = some (.ref f_p_least_endless)) (h_p_least_endless : HeldX P w K mg base 11 f_p_least_endless (sp_p_least_endless mg K)) {f_p_left : Addr} (v_p_left : mg "left" = some (.ref f_p_left)) (h_p_left : HeldX P w K mg base 11 f_p_left (sp_p_left mg K)) {f_p_all_rides : Addr} (v_p_all_rides : mg "all_rides" = some (.ref f_p_all_rides)) (h_p_all_rides : HeldX P w K mg base 11 f_p_all_rides (sp_p_all_rides mg K)) {f_p_is_purse : Addr} (v_p_is_purse : mg "is_purse" = some (.ref f_p_is_purse)) (h_p_is_purse : HeldX P w K mg base 11 f_p_is_purse (sp_p_is_purse mg K)) {f_p_least_loan : Addr} (v_p_least_loan : mg "least_loan" = some (.ref f_p_least_loan)) (h_p_least_loan : HeldX P w K mg base 11 f_p_least_loan (sp_p_least_loan mg K)) {f_p_can_have : Addr} (v_p_can_have : mg "can_have" = some (.ref f_p_can_have)) (h_p_can_have : HeldX P w K mg base 11 f_p_can_have (sp_p_can_have mg K)) {f_p_least_rides : Addr} (v_p_least_rides : mg "least_rides" = some (.ref f_p_least_rides)) (h_p_least_rides : HeldX P w K mg base 11 f_p_least_rides (sp_p_least_rides mg K)) {f_p_behind : Addr} (v_p_behind : mg "behind" = some (.ref f_p_behind)) (h_p_behind : HeldX P w K mg base 11 f_p_behind (sp_p_behind mg K)) {C : Nat → Addr} {tf rd : Addr} (KT : Kin K mg C tf rd) (KO0 : KinOf K C tf rd 0) :
    FnOk P w K mg base CX0 14 f fd ["none"] (sp_l_by_cards K P_l_by_cards P_l_by_purse P_l_law) := by
  refine okC F sc_l_by_cards (fun vs H Q E h => ?_) (fun A outer s H vs Q E hr h => ?_)
  · obtain ⟨x, rfl, hN, tb, q⟩ := h
    rfl
  obtain ⟨x, rfl, hN, tb, q⟩ := h
  refine ⟨_, (pss_cons (ps_for PassesOwn.never rfl (pi_tup (pe_tup (pa_cons (pe_glob (v := .ref f_p_is_purse) rfl v_p_is_purse rfl) (pa_cons (pe_glob (v := .ref f_p_all_rides) rfl v_p_all_rides rfl) (pa_cons (pe_glob (v := .ref f_p_left) rfl v_p_left rfl) (pa_cons (pe_glob (v := .ref f_p_least_endless) rfl v_p_least_endless rfl) (pa_cons (pe_glob (v := .ref f_p_greatest) rfl v_p_greatest rfl) (pa_cons (pe_glob (v := .ref f_p_apart) rfl v_p_apart rfl) (pa_cons (pe_glob (v := .ref f_p_together) rfl v_p_together rfl) pa_nil))))))))) (pg_name (i := 1) sc_l_by_cards.nd rfl (Or.inl rfl)) (pss_one (ps_if (pt_cmpR (op_neD hr.units) (pe_def D_l_refused hr (pa_cons (pe_lamV (T := T_all P_l_by_cards P_l_by_purse P_l_law) TB hcode List.mem_cons_self (one_0 hne) rfl (by decide +kernel)) (pa_cons (pv 1) (pa_cons (pv 0) (pa_cons pe_non pa_nil))))) (pe_lst (pa_cons pe_str (pa_cons pe_bl pa_nil))) (nomark _)) (pss_one (ps_ret pe_bl)) pss_nil)))
        (pss_cons (ps_for PassesOwn.never rfl (pi_tup (pe_tup (pa_cons (pe_glob (v := .ref f_p_behind) rfl v_p_behind rfl) (pa_cons (pe_glob (v := .ref f_p_least_rides) rfl v_p_least_rides rfl) (pa_cons (pe_glob (v := .ref f_p_can_have) rfl v_p_can_have rfl) (pa_cons (pe_glob (v := .ref f_p_least_loan) rfl v_p_least_loan rfl) pa_nil)))))) (pg_name (i := 1) sc_l_by_cards.nd rfl (Or.inl rfl)) (pss_one (ps_if (pt_cmpR (op_neD hr.units) (pe_def D_l_refused hr (pa_cons (pv 1) (pa_cons (pv 0) (pa_cons pe_non (pa_cons pe_non pa_nil))))) (pe_lst (pa_cons pe_str (pa_cons pe_bl pa_nil))) (nomark _)) (pss_one (ps_ret pe_bl)) pss_nil)))
        (pss_one (ps_ret (pe_cmpR (op_eqD hr.units) (pe_def D_l_refused hr (pa_cons (pe_lamV (T := T_all P_l_by_cards P_l_by_purse P_l_law) TB hcode List.mem_cons_self (one_0 hne) rfl (by decide +kernel)) (pa_cons (pv 0) (pa_cons pe_non (pa_cons pe_int pa_nil))))) (pe_lst (pa_cons pe_str (pa_cons pe_bl pa_nil))) (nomark _)))))), ?_⟩
  refine ⟨(by show 7 ≤ sizeLine; decide), fun tu nu => ?_⟩
  have s0 := same_upd (o := .tup [.ref f_p_is_purse, .ref f_p_all_rides, .ref f_p_left, .ref f_p_least_endless, .ref f_p_greatest, .ref f_p_apart, .ref f_p_together]) nu
  have drs : ∀ v ∈ ([.ref f_p_is_purse, .ref f_p_all_rides, .ref f_p_left, .ref f_p_least_endless, .ref f_p_greatest, .ref f_p_apart, .ref f_p_together] : List V), Dr2 P w K mg base "NoCards" x .non (fun H => NoC K H x) v := by
    intro v hv
    simp only [List.mem_cons, List.not_mem_nil, or_false] at hv
    rcases hv with rfl | rfl | rfl | rfl | rfl | rfl | rfl
    · exact ⟨_, _, rfl, h_p_is_purse, mono_is_purse, fun H Q E n r => ⟨_, _, rfl, n, r⟩⟩
    · exact ⟨_, _, rfl, h_p_all_rides, (mono_door2 : MonoSp (door2 purseD "NoPurse" mg K)), fun H Q E n r => ⟨_, _, rfl, .inl ⟨n, r⟩⟩⟩
    · exact ⟨_, _, rfl, h_p_left, (mono_door2 : MonoSp (door2 purseD "NoPurse" mg K)), fun H Q E n r => ⟨_, _, rfl, .inl ⟨n, r⟩⟩⟩
    · exact ⟨_, _, rfl, h_p_least_endless, (mono_door2 : MonoSp (door2 stampsD "NoStamps" mg K)), fun H Q E n r => ⟨_, _, rfl, .inl ⟨n, r⟩⟩⟩
    · exact ⟨_, _, rfl, h_p_greatest, (mono_door2 : MonoSp (door2 purseD "NoPurse" mg K)), fun H Q E n r => ⟨_, _, rfl, .inl ⟨n, r⟩⟩⟩
    · exact ⟨_, _, rfl, h_p_apart, (mono_door2 : MonoSp (door2 pursesD "NoPurses" mg K)), fun H Q E n r => ⟨_, _, rfl, .inl ⟨n, r⟩⟩⟩
    · exact ⟨_, _, rfl, h_p_together, (mono_door2 : MonoSp (door2 pursesD "NoPurses" mg K)), fun H Q E n r => ⟨_, _, rfl, .inl ⟨n, r⟩⟩⟩
  refine ⟨tu, rfl, ⟨_, SqT.of upd_same⟩, ?_⟩
  refine for_tup (K := K) (a := tu) (xs := [.ref f_p_is_purse, .ref f_p_all_rides, .ref f_p_left, .ref f_p_least_endless, .ref f_p_greatest, .ref f_p_apart, .ref f_p_together]) (fun i σ H' => ∃ z, σ = [some x, z] ∧ LamX.ExtN H H' ∧ LamX.Tabs (T_all P_l_by_cards P_l_by_purse P_l_law) H' ∧ H' tu = some (.tup [.ref f_p_is_purse, .ref f_p_all_rides, .ref f_p_left, .ref f_p_least_endless, .ref f_p_greatest, .ref f_p_apart, .ref f_p_together])) ?_ ?_ ?_ ?_
  · exact ⟨_, rfl, ext_same s0, same_tabs s0 tb, upd_same⟩
  · rintro i σ H' hi ⟨z, rfl, _, _, e⟩
    exact SqT.of e
  · rintro i v σ H' hi ⟨z, rfl, ex, tbs, eW⟩
    obtain ⟨fa, sp, rfl, hh, mn, gg⟩ := drs v (List.mem_of_getElem? hi)
    refine ⟨tbs, fun fl cl H9 ex9 tb9 n9 ef ec => ?_⟩
    have exB := ex.trans ex9
    refine ⟨_, rfl, _, rfl, ?_⟩
    refine ⟨fl, .ref fa, x, .non, sp_lamA P w K mg base, C, tf, rd, rfl, KT, .inr ⟨_, _, (lok_of (k := 11) (N := ["a", "b", "c"]) (ps := ["a", "b", "c"]) (NdefX.nscope_by (by dsimp only; decide +kernel)) rfl (fun pm ctv us hl => match us, hl with | [_, _, _], _ => rfl) (fun vs H Q E h => by obtain ⟨_, _, _, _, rfl, _⟩ := h; rfl) (fun A outer s H vs Q E hr2 h => ?_)), ef, ec⟩, mono_lamA, fun H1 s1 => ⟨fa, x, .non, sp, rfl, hh, mn, gg _ _ _ (hN.ext (exB.trans (ext_same s1))) (refE_of KT KO0 fun p H2 s2 e2 => ?_)⟩⟩
    · obtain ⟨f1, x1, x2, sp1, rfl, h1, m1, h⟩ := h
      exact ⟨_, pe_callH (k := 11) (i := 0) hr2 rfl (.inl rfl) (L2N.takes_of rfl rfl rfl rfl) (pa_cons (pv 1) (pa_cons (pv 2) pa_nil)), f1, sp1, rfl, .inl ⟨h1, _, rfl, _, rfl, h⟩⟩
    · refine ⟨(by show 2 ≤ sizeLine; decide), fun l0 nl0 => ?_⟩
      have s3 := same_upd (o := .lst [.str "NoCards", .bl true]) nl0
      refine ⟨_, _, .lst (SqL.of (s3 _ _ e2)) (.cons (.str _) (.cons (.bl _) .nil)), .lst (SqL.of upd_same) (.cons (.str _) (.cons (.bl _) .nil)), kinsh_0, kinsh_0, _, rfl, ?_⟩
      rw [show kinN 0 = Str.ofString "NoCards" from rfl, sh_eqv kinsh_0]
      have exZ := ex9.trans (ext_same (s1.trans (s2.trans s3)))
      exact iteF ⟨_, rfl, ex.trans exZ, same_tabs (s1.trans (s2.trans s3)) tb9, exZ _ _ eW ntbl_tup⟩
  rintro σ H1 ⟨z1, rfl, ex1, tb1, _⟩
  clear drs
  refine ⟨(by show 4 ≤ sizeLine; decide), fun tv nv => ?_⟩
  have s1 := same_upd (o := .tup [.ref f_p_behind, .ref f_p_least_rides, .ref f_p_can_have, .ref f_p_least_loan]) nv
  have drs : ∀ v ∈ ([.ref f_p_behind, .ref f_p_least_rides, .ref f_p_can_have, .ref f_p_least_loan] : List V), Dr3 P w K mg base "NoCards" x .non .non (fun H => NoC K H x) v := by
    intro v hv
    simp only [List.mem_cons, List.not_mem_nil, or_false] at hv
    rcases hv with rfl | rfl | rfl | rfl
    · exact ⟨_, _, rfl, h_p_behind.mono (by decide), (mono_door3 : MonoSp (door3 purseD "NoPurse" mg K)), fun H Q E n r => ⟨_, _, _, rfl, .inl ⟨n, r⟩⟩⟩
    · exact ⟨_, _, rfl, h_p_least_rides.mono (by decide), (mono_door3n : MonoSp (door3n stampsD "NoStamps" (okS K) isI mg K)), fun H Q E n r => ⟨_, _, _, rfl, .inl ⟨n, r⟩⟩⟩
    · exact ⟨_, _, rfl, h_p_can_have.mono (by decide), (mono_door3n : MonoSp (door3n purseD "NoPurse" (okP K) anyV mg K)), fun H Q E n r => ⟨_, _, _, rfl, .inl ⟨n, r⟩⟩⟩
    · exact ⟨_, _, rfl, h_p_least_loan.mono (by decide), (mono_door3n : MonoSp (door3n purseD "NoPurse" (okP K) anyV mg K)), fun H Q E n r => ⟨_, _, _, rfl, .inl ⟨n, r⟩⟩⟩
  refine ⟨tv, rfl, ⟨_, SqT.of upd_same⟩, ?_⟩
  refine for_tup (K := K) (a := tv) (xs := [.ref f_p_behind, .ref f_p_least_rides, .ref f_p_can_have, .ref f_p_least_loan]) (fun i σ H' => ∃ z, σ = [some x, z] ∧ LamX.ExtN H H' ∧ LamX.Tabs (T_all P_l_by_cards P_l_by_purse P_l_law) H' ∧ H' tv = some (.tup [.ref f_p_behind, .ref f_p_least_rides, .ref f_p_can_have, .ref f_p_least_loan])) ?_ ?_ ?_ ?_
  · exact ⟨_, rfl, ex1.trans (ext_same s1), same_tabs s1 tb1, upd_same⟩
  · rintro i σ H' hi ⟨z, rfl, _, _, e⟩
    exact SqT.of e
  · rintro i v σ H' hi ⟨z, rfl, ex, tbs, eW⟩
    obtain ⟨fa, sp, rfl, hh, mn, gg⟩ := drs v (List.mem_of_getElem? hi)
    refine ⟨_, rfl, _, rfl, ?_⟩
    refine ⟨fa, x, .non, .non, sp, C, tf, rd, rfl, KT, .inl hh, mn, fun H1 s1 => gg _ _ _ (hN.ext (ex.trans (ext_same s1))) (refE_of KT KO0 fun p H2 s2 e2 => ?_)⟩
    refine ⟨(by show 2 ≤ sizeLine; decide), fun l0 nl0 => ?_⟩
    have s3 := same_upd (o := .lst [.str "NoCards", .bl true]) nl0
    refine ⟨_, _, .lst (SqL.of (s3 _ _ e2)) (.cons (.str _) (.cons (.bl _) .nil)), .lst (SqL.of upd_same) (.cons (.str _) (.cons (.bl _) .nil)), kinsh_0, kinsh_0, _, rfl, ?_⟩
    rw [show kinN 0 = Str.ofString "NoCards" from rfl, sh_eqv kinsh_0]
    have sz := s1.trans (s2.trans s3)
    exact iteF ⟨_, rfl, ex.trans (ext_same sz), same_tabs sz tbs, sz _ _ eW⟩
  rintro σ H2 ⟨z2, rfl, ex2, tb2, _⟩
  refine ⟨tb2, fun fl cl H9 ex9 tb9 n9 ef ec => ?_⟩
  have exB := ex2.trans ex9
  refine ⟨_, rfl, ?_⟩
  refine ⟨fl, x, .non, .int 0, door3 purseD "NoPurse" mg K, C, tf, rd, rfl, KT, .inr ⟨_, _, (lok_of (k := 11) (N := ["a", "b", "c"]) (ps := ["a", "b", "c"]) (NdefX.nscope_by (by dsimp only; decide +kernel)) rfl (fun pm ctv us hl => match us, hl with | [_, _, _], _ => rfl) (fun vs H Q E h => by obtain ⟨_, _, _, rfl, _⟩ := h; rfl) (fun A outer s H vs Q E hr2 h => ?_)), ef, ec⟩, mono_door3, fun H1 s1 => ⟨x, .non, .int 0, rfl, .inl ⟨hN.ext (exB.trans (ext_same s1)), refE_of KT KO0 fun p H2 s2 e2 => ?_⟩⟩⟩
  · obtain ⟨x1, x2, x3, rfl, h⟩ := h
    refine ⟨_, pe_mkdefX T D_m_init hr2 (L2N.takes_of rfl rfl rfl rfl) (pa_cons (pv 0) (pa_cons (pv 1) pa_nil)), _, rfl, _, rfl, fun xx dx nx ndx nex => ?_⟩
    have sm : ∀ C0, Same H (upd (upd H dx (.own xx)) xx (.ins C0 dx [])) := fun C0 => (same_upd ndx).trans (same_upd ((upd_ne (Ne.symm nex)).trans nx))
    refine ⟨_, _, _, rfl, ?_⟩
    rcases h with ⟨h1, h2⟩ | ⟨cs, h1, h2, h3⟩
    · exact .inl ⟨h1.same (sm _), h2.same (sm _)⟩
    · exact .inr ⟨cs, h1.same (sm _), h2.same (sm _), h3.same (sm _)⟩
  · refine ⟨(by show 2 ≤ sizeLine; decide), fun l0 nl0 => ?_⟩
    have s3 := same_upd (o := .lst [.str "NoCards", .bl true]) nl0
    refine ⟨_, _, .lst (SqL.of (s3 _ _ e2)) (.cons (.str _) (.cons (.bl _) .nil)), .lst (SqL.of upd_same) (.cons (.str _) (.cons (.bl _) .nil)), kinsh_0, kinsh_0, ?_⟩
    rw [show kinN 0 = Str.ofString "NoCards" from rfl, sh_eqv kinsh_0]
    exact q _ (exB.trans (ext_same (s1.trans (s2.trans s3)))) (same_tabs (s1.trans (s2.trans s3)) tb9)
set_option maxHeartbeats 4000000 in
theorem ok_l_law {P : Program} {w : World} {K : PySem.W.Frag} {mg : Str → Option Value} {base : Heap} {f : Addr} {fd : FuncData} (F : Fun K "law" "law" s_l_law f fd) {P_l_by_cards P_l_by_purse P_l_law c0 : Addr} (TB : LamX.TabB base mg c0 P_l_law) (hcode : fd.code = .ref c0) (hne : Apart P_l_by_cards P_l_by_purse P_l_law) (D_p_least_endless : DefX P w K mg base "least_endless" 4 ["cards", "stamps"] (sp_p_least_endless mg K)) (D_l_bags : Def P w K mg base "_law_bags" 3 ["script", "limit"] (sp_l_bags K)) (D_l_kinds : Def P w K mg base "_law_kinds" 2 ["bag", "far"] (sp_l_kinds K)) (D_l_had : Def P w K mg base "_law_had" 4 ["bag", "kinds", "far"] (sp_l_had K)) (D_l_take : Def P w K mg base "_law_take" 1 ["bag", "many"] (sp_l_take K)) (D_l_by_purse : Def P w K mg base "_law_by_purse" 14 ["kinds", "had", "bad"] (sp_l_by_purse K P_l_by_cards P_l_by_purse P_l_law)) (D_l_by_cards : Def P w K mg base "_law_by_cards" 14 ["none"] (sp_l_by_cards K P_l_by_cards P_l_by_purse P_l_law)) (D_l_refused : Def P w K mg base "_law_refused" 13 ["call", "one", "two", "three"] (sp_l_refused P w K mg base)) (D_p_least_rides : DefX P w K mg base "least_rides" 4 ["cards", "stamps", "number"] (sp_p_least_rides mg K)) (D_p_together : DefX P w K mg base "together" 6 ["cards", "purses"] (sp_p_together mg K)) (D_p_apart : DefX P w K mg base "apart" 6 ["cards", "purses"] (sp_p_apart mg K)) (b_list : mg "list" = none) (b_len : mg "len" = none) {f_p_least_rides : Addr} (v_p_least_rides : mg "least_rides" = some (.ref f_p_least_rides)) (h_p_least_rides : HeldX P w K mg base 11 f_p_least_rides (sp_p_least_rides mg K)) {f_p_together : Addr} (v_p_together : mg "together" = some (.ref f_p_together)) (h_p_together : HeldX P w K mg base 11 f_p_together (sp_p_together mg K)) {f_p_apart : Addr} (v_p_apart : mg "apart" = some (.ref f_p_apart)) (h_p_apart : HeldX P w K mg base 11 f_p_apart (sp_p_apart mg K)) {C : Nat → Addr} {tf rd : Addr} (KT : Kin K mg C tf rd) (KO2 : KinOf K C tf rd 2) (KO4 : KinOf K C tf rd 4) (KO5 : KinOf K C tf rd 5) :
    FnOk P w K mg base CX0 15 f fd ["script"] (sp_l_law K P_l_by_cards P_l_by_purse P_l_law) := by
  refine okC F sc_l_law (fun vs H Q E h => ?_) (fun A outer s H vs Q E hr h => ?_)
  · obtain ⟨a, ns, rfl, hS, h63, tb, q⟩ := h
    rfl
  obtain ⟨a, ns, rfl, hS, h63, tb, q⟩ := h
  refine ⟨_, (pss_cons (ps_for PassesOwn.never rfl (pi_list (pe_def D_l_bags hr (pa_cons (pv 0) (pa_cons pe_int pa_nil)))) (pg_name (i := 1) sc_l_law.nd rfl (Or.inl rfl)) (pss_cons (ps_set (i := 2) sc_l_law.nd rfl (Or.inl rfl) (pe_def D_l_kinds hr (pa_cons (pv 1) (pa_cons pe_int pa_nil))))
        (pss_cons (ps_set (i := 3) sc_l_law.nd rfl (Or.inl rfl) (pe_def D_l_had hr (pa_cons (pv 1) (pa_cons (pv 2) (pa_cons (pe_op op_pow pe_int pe_int) pa_nil)))))
        (pss_cons (ps_set (i := 4) sc_l_law.nd rfl (Or.inl rfl) (pe_ix ix_list (pe_lst (pa_cons pe_non (pa_cons (pe_tup pa_nil) (pa_cons (pe_tup (pa_cons pe_int pa_nil)) (pa_cons (pe_tup (pa_cons pe_int pa_nil)) (pa_cons (pe_lst (pa_cons pe_int (pa_cons pe_int pa_nil))) (pa_cons (pe_tup (pa_cons pe_int (pa_cons pe_int (pa_cons pe_int (pa_cons pe_int pa_nil))))) (pa_cons (pe_tup (pa_cons pe_int (pa_cons pe_bl pa_nil))) (pa_cons pe_int pa_nil))))))))) (pe_def D_l_take hr (pa_cons (pv 1) (pa_cons pe_int pa_nil))) (fun _ _ => rfl)))
        (pss_cons (ps_set (i := 5) sc_l_law.nd rfl (Or.inl rfl) (pe_lst (pa_cons pe_non (pa_cons (pe_tup pa_nil) (pa_cons (pe_ix ix_tup (pv 3) pe_int (fun _ _ => rfl)) (pa_cons (pe_callTy call_list_of (by rfl) b_list PyProof.Rows.boot_list (pa_cons (pv 3) pa_nil)) pa_nil))))))
        (pss_cons (ps_set (i := 5) sc_l_law.nd rfl (Or.inl rfl) (pe_op op_cat (pv 5) (pe_lst (pa_cons (pe_tup (pa_cons (pe_ix ix_tup (pv 3) pe_int (fun _ _ => rfl)) (pa_cons (pe_callTy call_list_of (by rfl) b_list PyProof.Rows.boot_list (pa_cons (pe_ix ix_tup (pv 3) pe_int (fun _ _ => rfl)) pa_nil)) pa_nil))) (pa_cons (pe_tup (pa_cons (pe_un un_neg pe_int) (pa_cons (pe_ix ix_tup (pv 3) pe_int (fun _ _ => rfl)) pa_nil))) (pa_cons (pe_tup (pa_cons (pe_ix ix_tup (pv 3) pe_int (fun _ _ => rfl)) (pa_cons (pe_op op_catA (pe_ix ix_tup (pv 3) pe_int (fun _ _ => rfl)) (pe_tup (pa_cons pe_int pa_nil))) pa_nil))) (pa_cons (pe_tup (pa_cons (pe_op op_add (pe_op op_pow pe_int pe_int) pe_int) (pa_cons (pe_ix ix_tup (pv 3) pe_int (fun _ _ => rfl)) pa_nil))) pa_nil)))))))
        (pss_cons (ps_set (i := 6) sc_l_law.nd rfl (Or.inl rfl) (pe_ix ix_list (pv 5) (pe_def D_l_take hr (pa_cons (pv 1) (pa_cons pe_int pa_nil))) (fun _ _ => rfl)))
        (pss_cons (ps_if (PW.pt (pw_or (pt_not (pt_val (pe_def D_l_by_cards hr (pa_cons (pv 4) pa_nil)))) (pw_or1 (pt_not (pt_val (pe_def D_l_by_purse hr (pa_cons (pv 2) (pa_cons (pv 3) (pa_cons (pv 6) pa_nil))))))))) (pss_one (ps_ret pe_bl)) pss_nil)
        (pss_cons (ps_for PassesOwn.never rfl (pi_tup (pe_tup (pa_cons pe_non (pa_cons (pe_callTy call_list_of (by rfl) b_list PyProof.Rows.boot_list (pa_cons (pe_ix ix_tup (pv 3) pe_int (fun _ _ => rfl)) pa_nil)) (pa_cons (pe_op op_catA (pe_ix ix_tup (pv 3) pe_int (fun _ _ => rfl)) (pe_tup (pa_cons pe_int pa_nil))) (pa_cons (pe_slice sl_tupA (pe_ix ix_tup (pv 3) pe_int (fun _ _ => rfl)) (po_some pe_int) po_none) (pa_cons (pe_op op_repA (pe_tup (pa_cons (pe_un un_neg pe_int) pa_nil)) (pe_callB call_len_seq (by rfl) b_len PySem.boot_len (pa_cons (pv 2) pa_nil))) (pa_cons (pe_op op_repA (pe_tup (pa_cons pe_bl pa_nil)) (pe_callB call_len_seq (by rfl) b_len PySem.boot_len (pa_cons (pv 2) pa_nil))) (pa_cons (pv 3) pa_nil))))))))) (pg_name (i := 7) sc_l_law.nd rfl (Or.inl rfl)) (pss_cons (ps_if (pt_cmpR (op_neD hr.units) (pe_def D_l_refused hr (pa_cons (pe_lamV (T := T_all P_l_by_cards P_l_by_purse P_l_law) TB hcode (List.mem_cons_of_mem _ (List.mem_cons_of_mem _ List.mem_cons_self)) (one_2 hne) rfl (by decide +kernel)) (pa_cons (pv 2) (pa_cons (pv 7) (pa_cons pe_int pa_nil))))) (pe_lst (pa_cons pe_str (pa_cons pe_bl pa_nil))) (nomark _)) (pss_one (ps_ret pe_bl)) pss_nil)
        (pss_one (ps_if (pt_cmpR (op_neD hr.units) (pe_def D_l_refused hr (pa_cons (pe_glob (v := .ref f_p_least_rides) rfl v_p_least_rides rfl) (pa_cons (pv 2) (pa_cons (pv 7) (pa_cons pe_non pa_nil))))) (pe_lst (pa_cons pe_str (pa_cons pe_bl pa_nil))) (nomark _)) (pss_one (ps_ret pe_bl)) pss_nil))))
        (pss_cons (ps_for PassesOwn.never rfl (pi_tup (pe_tup (pa_cons (pe_un un_neg pe_int) (pa_cons (pe_op op_add (pe_op op_pow pe_int pe_int) pe_int) (pa_cons pe_bl (pa_cons pe_non (pa_cons pe_str pa_nil))))))) (pg_name (i := 8) sc_l_law.nd rfl (Or.inl rfl)) (pss_one (ps_if (pt_cmpR (op_neD hr.units) (pe_def D_l_refused hr (pa_cons (pe_glob (v := .ref f_p_least_rides) rfl v_p_least_rides rfl) (pa_cons (pv 2) (pa_cons (pe_ix ix_tup (pv 3) pe_int (fun _ _ => rfl)) (pa_cons (pv 8) pa_nil))))) (pe_lst (pa_cons pe_str (pa_cons pe_bl pa_nil))) (nomark _)) (pss_one (ps_ret pe_bl)) pss_nil)))
        (pss_one (ps_for PassesOwn.never rfl (pi_tup (pe_tup (pa_cons pe_non (pa_cons (pe_tup pa_nil) (pa_cons (pe_lst (pa_cons (pv 3) pa_nil)) (pa_cons (pe_op op_repA (pe_tup (pa_cons (pv 3) pa_nil)) pe_int) (pa_cons (pe_tup (pa_cons (pv 3) (pa_cons (pv 6) pa_nil))) (pa_cons (pv 3) (pa_cons (pe_tup (pa_cons pe_non pa_nil)) pa_nil))))))))) (pg_name (i := 9) sc_l_law.nd rfl (Or.inl rfl)) (pss_one (ps_for PassesOwn.never rfl (pi_tup (pe_tup (pa_cons (pe_glob (v := .ref f_p_apart) rfl v_p_apart rfl) (pa_cons (pe_glob (v := .ref f_p_together) rfl v_p_together rfl) pa_nil)))) (pg_name (i := 10) sc_l_law.nd rfl (Or.inl rfl)) (pss_one (ps_if (pt_cmpR (op_neD hr.units) (pe_def D_l_refused hr (pa_cons (pe_lamV (T := T_all P_l_by_cards P_l_by_purse P_l_law) TB hcode (List.mem_cons_of_mem _ (List.mem_cons_of_mem _ List.mem_cons_self)) (one_2 hne) rfl (by decide +kernel)) (pa_cons (pv 10) (pa_cons (pv 2) (pa_cons (pv 9) pa_nil))))) (pe_lst (pa_cons pe_str (pa_cons pe_bl pa_nil))) (nomark _)) (pss_one (ps_ret pe_bl)) pss_nil))))))))))))))))
        (pss_one (ps_ret pe_bl))), ?_⟩
  refine ⟨_, rfl, a, ns, 6, rfl, hS, h63, by omega, by omega, fun p bs H1 k1 np ep hl hb => ?_⟩
  refine ⟨p, rfl, ⟨_, SqL.of ep⟩, ?_⟩
  refine for_list (K := K) (a := p) (xs := bs.map V.ref) (fun i σ H' => ∃ y1 y2 y3 y4 y5 y6 y7 y8 y9 y10, σ = [some (.ref a), y1, y2, y3, y4, y5, y6, y7, y8, y9, y10] ∧ Kq H1 H' ∧ LamX.Tabs (T_all P_l_by_cards P_l_by_purse P_l_law) H') ?_ ?_ ?_ ?_
  · exact ⟨_, _, _, _, _, _, _, _, _, _, rfl, .of (.refl H1), k1.tabs tb⟩
  · rintro i σ H' hi ⟨y1, y2, y3, y4, y5, y6, y7, y8, y9, y10, rfl, kk, _⟩
    exact SqL.of (kk.keep _ _ ep nrefs ntbl_lst)
  · rintro i x σ Hb hx ⟨y1, y2, y3, y4, y5, y6, y7, y8, y9, y10, rfl, kk, tb0⟩
    obtain ⟨b, hbm, rfl⟩ := get_ref hx
    have hB0 : Bag Hb b := kk.bags (hb b hbm)
    -- kinds, had
    refine ⟨_, rfl, b, 20, rfl, hB0, by omega, fun kA cs H3 k3 e3 c1 c3 hc => ?_⟩
    have hK : Cards cs := ⟨c1, c3, hc⟩
    refine ⟨_, rfl, _, rfl, 10, 17, rfl, rfl, ⟨by decide, by decide, by decide⟩, b, kA, cs, _, rfl, k3.bags hB0, SqT.of e3, c3, by decide, fun pA sA r ss H5 k5 e5 e5' r0 rv hsl hss => ?_⟩
    have hC5 : SqT K H5 kA (cs.map V.int) := k5.tup (SqT.of e3)
    have k05 := k3.trans k5
    have r18 : r ≤ 1000000000000000000 := Int.le_trans rv (by decide +kernel)
    have hSt : Stamps cs.length ss := ⟨hsl, fun x hx => ⟨(hss x hx).1, Int.le_trans (hss x hx).2 (by decide +kernel)⟩⟩
    clear rv hss
    -- none
    refine ⟨Nat.zero_le _, fun t1 n1 => ?_⟩
    have s1 := same_upd (o := .tup []) n1
    refine ⟨(by show 1 ≤ sizeLine; decide), fun t2 n2 => ?_⟩
    have s2 := same_upd (o := .tup [.int 1]) n2
    refine ⟨(by show 1 ≤ sizeLine; decide), fun t3 n3 => ?_⟩
    have s3 := same_upd (o := .tup [.int 21]) n3
    refine ⟨(by show 2 ≤ sizeLine; decide), fun t4 n4 => ?_⟩
    have s4 := same_upd (o := .lst [.int 2, .int 3]) n4
    refine ⟨(by show 4 ≤ sizeLine; decide), fun t5 n5 => ?_⟩
    have s5 := same_upd (o := .tup [.int 2, .int 2, .int 2, .int 2]) n5
    refine ⟨(by show 2 ≤ sizeLine; decide), fun t6 n6 => ?_⟩
    have s6 := same_upd (o := .tup [.int 2, .bl true]) n6
    refine ⟨(by show 8 ≤ sizeLine; decide), fun t7 n7 => ?_⟩
    have s7 := same_upd (o := .lst (noneL t1 t2 t3 t4 t5 t6)) n7
    have w6 := s6.trans s7
    have w5 := s5.trans w6
    have w4 := s4.trans w5
    have w3 := s3.trans w4
    have w2 := s2.trans w3
    have w1 := s1.trans w2
    refine ⟨_, rfl, b, 8, rfl, (k05.trans (.of w1)).bags hB0, by decide, fun j1 H6 j10 j11 k6 => ?_⟩
    have e1 := k6.keep _ _ (w2 _ _ (upd_same (a := t1) (o := .tup []))) nbt
    have e2 := k6.keep _ _ (w3 _ _ (upd_same (a := t2) (o := .tup [.int 1]))) nbt
    have e3' := k6.keep _ _ (w4 _ _ (upd_same (a := t3) (o := .tup [.int 21]))) nbt
    have e4 := k6.keep _ _ (w5 _ _ (upd_same (a := t4) (o := .lst [.int 2, .int 3]))) (nint (ns := [2, 3]))
    have e5x := k6.keep _ _ (w6 _ _ (upd_same (a := t5) (o := .tup [.int 2, .int 2, .int 2, .int 2]))) nbt
    have e6 := k6.keep _ _ (s7 _ _ (upd_same (a := t6) (o := .tup [.int 2, .bl true]))) nbt
    have e7 := k6.keep _ _ (upd_at (o := .lst (noneL t1 t2 t3 t4 t5 t6)) n7) (fun ⟨_, _, z⟩ => nomatch z)
    obtain ⟨nv, hnv, hat⟩ := at_any (xs := noneL t1 t2 t3 t4 t5 t6) j10 j11
    refine ⟨t7, _, _, _, rfl, rfl, SqL.of e7, hat, ?_⟩
    have k56 : Kp H5 H6 := .trans (.of w1) k6
    have hP6 : H6 pA = some (.tup [.int r, .ref sA]) := k56.keep _ _ e5 nbt
    have hs6 : H6 sA = some (.tup (ss.map V.int)) := k56.keep _ _ e5' nbt
    have k06 := k05.trans k56
    have hC6 := k56.tup hC5
    clear hat e7 w1 w2 w3 w4 w5 w6 s1 s2 s3 s4 s5 s6 s7 k6 k56 k05 hC5 e5 e5' n1 n2 n3 n4 n5 n6 n7 k5 k3 e3
    -- bads
    have hP6' : SqT K H6 pA [.int r, .ref sA] := SqT.of hP6
    have hs6' : SqT K H6 sA (ss.map V.int) := SqT.of hs6
    refine ⟨Nat.zero_le _, fun b1 m1 => ?_⟩
    have v1 := same_upd (o := .tup []) m1
    refine ⟨_, rfl, pA, _, _, _, rfl, rfl, Same.seqT v1 hP6', atI_nat (j := 1) rfl, _, rfl, pA, _, rfl, .inr (Same.seqT v1 hP6'), fun l1 m2 => ?_⟩
    have v2 := same_upd (o := .lst [.int r, .ref sA]) m2
    refine ⟨(by show 4 ≤ sizeLine; decide), fun tA m3 => ?_⟩
    have v3 := same_upd (o := .lst [.non, .ref b1, .ref sA, .ref l1]) m3
    have x3 := v1.trans (v2.trans v3)
    refine ⟨_, rfl, _, rfl, pA, _, _, _, rfl, rfl, Same.seqT x3 hP6', atI_nat (j := 0) rfl, _, rfl, pA, _, _, _, rfl, rfl, Same.seqT x3 hP6', atI_nat (j := 1) rfl, sA, _, rfl, .inr (Same.seqT x3 hs6'), fun u1 m4 => ?_⟩
    have v4 := same_upd (o := .lst (ss.map V.int)) m4
    refine ⟨(by show 2 ≤ sizeLine; decide), fun u2 m5 => ?_⟩
    have v5 := same_upd (o := .tup [.int r, .ref u1]) m5
    have x5 := x3.trans (v4.trans v5)
    refine ⟨_, rfl, _, rfl, pA, _, _, _, rfl, rfl, Same.seqT x5 hP6', atI_nat (j := 1) rfl, (by show 2 ≤ sizeLine; decide), fun u3 m6 => ?_⟩
    have v6 := same_upd (o := .tup [.int (-1), .ref sA]) m6
    have x6 := x5.trans v6
    refine ⟨_, rfl, pA, _, _, _, rfl, rfl, Same.seqT x6 hP6', atI_nat (j := 0) rfl, _, rfl, pA, _, _, _, rfl, rfl, Same.seqT x6 hP6', atI_nat (j := 1) rfl, (by show 1 ≤ sizeLine; decide), fun t0 m7 => ?_⟩
    have v7 := same_upd (o := .tup [.int 0]) m7
    have x7 := x6.trans v7
    refine rd_catA (Same.seqT x7 hs6') (SqT.of upd_same) (by rw [List.length_map]; show _ + 1 ≤ 1000; omega) fun qA H7 v8 eq => ?_
    refine ⟨(by show 2 ≤ sizeLine; decide), fun u4 m9 => ?_⟩
    have v9 := same_upd (o := .tup [.int r, .ref qA]) m9
    have x9 := x7.trans (v8.trans v9)
    refine ⟨10, 18, rfl, rfl, ⟨by decide, by decide, by decide⟩, _, _, rfl, rfl, _, rfl, pA, _, _, _, rfl, rfl, Same.seqT x9 hP6', atI_nat (j := 1) rfl, (by show 2 ≤ sizeLine; decide), fun u5 m10 => ?_⟩
    have v10 := same_upd (o := .tup [.int (10 ^ (Int.toNat 18) + 1), .ref sA]) m10
    refine ⟨(by show 4 ≤ sizeLine; decide), fun tL m11 => ?_⟩
    have v11 := same_upd (o := .lst [.ref u2, .ref u3, .ref u4, .ref u5]) m11
    have y10 := v10.trans v11
    have y9 := v9.trans y10
    have y8 := v8.trans y9
    have y7 := v7.trans y8
    have y6 := v6.trans y7
    have y5 := v5.trans y6
    have y4 := v4.trans y5
    refine ⟨tA, tL, _, _, rfl, rfl, y4 _ _ upd_same, upd_same, (by show 8 ≤ sizeLine; decide), fun tB m12 => ?_⟩
    have v12 := same_upd (o := .lst (badL b1 sA l1 u2 u3 u4 u5)) m12
    have x12 := x3.trans (y4.trans v12)
    refine ⟨_, rfl, _, rfl, b, 8, rfl, (k06.trans (.of x12)).bags hB0, by decide, fun j2 H8 j20 j21 k8 => ?_⟩
    obtain ⟨bv, hbv, hat⟩ := at_any (xs := badL b1 sA l1 u2 u3 u4 u5) j20 j21
    have eB := k8.keep _ _ (upd_at (o := .lst (badL b1 sA l1 u2 u3 u4 u5)) m12) (fun ⟨_, _, z⟩ => nomatch z)
    refine ⟨tB, _, _, _, rfl, rfl, SqL.of eB, hat, ?_⟩
    have k68 : Kp H6 H8 := .trans (.of x12) k8
    have hN : NoC K H8 nv := noneL_no hnv (k68.keep _ _ e1 nbt) (k68.keep _ _ e2 nbt) (k68.keep _ _ e3' nbt) (k68.keep _ _ e4 (nint (ns := [2, 3]))) (k68.keep _ _ e5x nbt) (k68.keep _ _ e6 nbt)
    have hb8 : NoT purseD K H8 cs bv := badL_no (r := r) hbv hsl (k8.keep _ _ ((v2.trans (v3.trans (y4.trans v12))) _ _ (upd_same (a := b1))) nbt) (k68.tup hs6') (k8.keep _ _ ((v3.trans (y4.trans v12)) _ _ (upd_same (a := l1))) (fun ⟨_, _, z⟩ => nomatch z)) (k8.keep _ _ ((y5.trans v12) _ _ (upd_same (a := u1))) nint) (k8.keep _ _ ((y6.trans v12) _ _ (upd_same (a := u2))) nbt) (k8.keep _ _ ((y7.trans v12) _ _ (upd_same (a := u3))) nbt) (k8.tup (Same.seqT (y9.trans v12) eq)) (k8.keep _ _ ((y10.trans v12) _ _ (upd_same (a := u4))) nbt) (k8.keep _ _ ((v11.trans v12) _ _ (upd_same (a := u5))) nbt)
    have hP8 : SqT K H8 pA [.int r, .ref sA] := k68.tup hP6'
    have hs8 : SqT K H8 sA (ss.map V.int) := k68.tup hs6'
    have hC8 : IsC K H8 (.ref kA) cs := ⟨kA, rfl, k68.tup hC6, hK⟩
    have kk8 := kk.trans (.of (k06.trans k68))
    have tb8 := (k06.trans k68).tabs tb0
    clear k68 hat eB x12 v12 y4 y5 y6 y7 y8 y9 y10 v11 v10 v9 v8 v7 v6 v5 v4 v3 v2 v1 x3 x5 x6 x7 x9 eq hs6' hP6' hC6 k06 hs6 hP6 e6 e5x e4 e3' e2 e1 m1 m2 m3 m4 m5 m6 m7 m9 m10 m11 m12 k8 tb0 hB0 kk hnv hbv
    -- by cards, by purse
    refine ⟨_, rfl, nv, rfl, hN, tb8, fun Hc exc tbc => ⟨_, rfl, ?_⟩⟩
    refine iteF ?_
    refine ⟨_, rfl, _, rfl, _, rfl, .ref kA, pA, bv, cs, r, ss, rfl, hC8.ext exc, ⟨sA, ext_seqT exc hP8, ext_seqT exc hs8⟩, hSt, r0, r18, hb8.ext exc, tbc, fun Hd exd tbd => ⟨_, rfl, ?_⟩⟩
    refine iteF ?_
    have ex9 := exc.trans exd
    have hC9 := hC8.ext ex9
    have hP9 := ext_seqT ex9 hP8
    have hs9 := ext_seqT ex9 hs8
    have hb9 := hb8.ext ex9
    have kk9 := kk8.trans (.ext ex9)
    clear ex9 exd exc tbc hb8 hs8 hP8 hC8 hN tb8 kk8
    obtain ⟨_, ekA, hC9', _⟩ := hC9
    cases ekA
    -- stamps
    refine ⟨_, rfl, pA, _, _, _, rfl, rfl, hP9, atI_nat (j := 1) rfl, sA, _, rfl, .inr hs9, fun u1 m1 => ?_⟩
    have v1 := same_upd (o := .lst (ss.map V.int)) m1
    refine ⟨_, rfl, pA, _, _, _, rfl, rfl, Same.seqT v1 hP9, atI_nat (j := 1) rfl, (by show 1 ≤ sizeLine; decide), fun t0 m2 => ?_⟩
    have v2 := same_upd (o := .tup [.int 0]) m2
    have x2 := v1.trans v2
    refine rd_catA (Same.seqT x2 hs9) (SqT.of upd_same) (by rw [List.length_map]; show _ + 1 ≤ 1000; omega) fun qA H7 v3 eq => ?_
    have x3 := x2.trans v3
    refine ⟨_, rfl, pA, _, _, _, rfl, rfl, Same.seqT x3 hP9, atI_nat (j := 1) rfl, _, rfl, ?_⟩
    refine rd_slFrom (Same.seqT x3 hs9) fun dA H8 v4 ed => ?_
    rw [cut_from (by decide)] at ed
    have x4 := x3.trans v4
    refine ⟨_, rfl, (by show 1 ≤ sizeLine; decide), fun t1 m5 => ?_⟩
    have v5 := same_upd (o := .tup [.int (-1)]) m5
    have x5 := x4.trans v5
    refine ⟨_, rfl, kA, _, rfl, .inr (Same.seqT x5 hC9'), ?_⟩
    refine ⟨t1, _, _, rfl, rfl, SqT.of upd_same, (fun z => nomatch z), ?_, ?_, (by show 1 ≤ 1000; decide), fun rA H10 v6 er => ?_⟩
    · rw [List.length_map]
      omega
    · rw [List.length_map]
      omega
    have x6 := x5.trans v6
    refine ⟨(by show 1 ≤ sizeLine; decide), fun t2 m7 => ?_⟩
    have v7 := same_upd (o := .tup [.bl true]) m7
    have x7 := x6.trans v7
    refine ⟨_, rfl, kA, _, rfl, .inr (Same.seqT x7 hC9'), ?_⟩
    refine ⟨t2, _, _, rfl, rfl, SqT.of upd_same, (fun z => nomatch z), ?_, ?_, (by show 1 ≤ 1000; decide), fun oA H11 v8 eo => ?_⟩
    · rw [List.length_map]
      omega
    · rw [List.length_map]
      omega
    have x8 := x7.trans v8
    refine ⟨_, rfl, (by show 7 ≤ sizeLine; decide), fun tS m9 => ?_⟩
    have v9 := same_upd (o := .tup [.non, .ref u1, .ref qA, .ref dA, .ref rA, .ref oA, .ref pA]) m9
    have x9 := x8.trans v9
    have hst : ∀ v ∈ ([.non, .ref u1, .ref qA, .ref dA, .ref rA, .ref oA, .ref pA] : List V), NoT stampsD K (upd H11 tS (.tup [.non, .ref u1, .ref qA, .ref dA, .ref rA, .ref oA, .ref pA])) cs v := by
      intro v hv
      simp only [List.mem_cons, List.not_mem_nil, or_false] at hv
      rcases hv with rfl | rfl | rfl | rfl | rfl | rfl | rfl
      · exact ⟨_, .non, rfl⟩
      · exact ⟨_, .lst (SqL.of ((v2.trans (v3.trans (v4.trans (v5.trans (v6.trans (v7.trans (v8.trans v9))))))) _ _ upd_same)) (dp_ints ss), rfl⟩
      · refine ⟨_, .tup (Same.seqT (v4.trans (v5.trans (v6.trans (v7.trans (v8.trans v9))))) eq) (dpa_app (dp_ints ss) (.cons (.int 0) .nil)), stampsD_l ?_⟩
        rw [List.length_append, List.length_map, hsl]
        show cs.length + 1 ≠ cs.length
        omega
      · refine ⟨_, .tup (Same.seqT (v5.trans (v6.trans (v7.trans (v8.trans v9)))) ed) (dp_ints _), stampsD_l ?_⟩
        rw [List.length_map, List.length_drop, hsl]
        show cs.length - 1 ≠ cs.length
        omega
      · refine ⟨_, .tup (Same.seqT (v7.trans (v8.trans v9)) er) (dpa_rep (.int (-1)) _), stampsD_in (List.mem_replicate.mpr ⟨?_, rfl⟩) (by decide +kernel)⟩
        rw [List.length_map]
        omega
      · refine ⟨_, .tup (Same.seqT v9 eo) (dpa_rep (.bl true) _), stampsD_in (List.mem_replicate.mpr ⟨?_, rfl⟩) rfl⟩
        rw [List.length_map]
        omega
      · exact ⟨_, .tup (Same.seqT x9 hP9) (.cons (.int r) (.cons (.tup (Same.seqT x9 hs9) (dp_ints ss)) .nil)), stampsD_in (List.mem_cons_of_mem _ List.mem_cons_self) rfl⟩
    have ex1 := ext_same x9
    have tb1 := same_tabs x9 tbd
    clear v2 v3 v4 v5 v6 v7 v8 x2 x3 x4 x5 x6 x7 x8 x9 eq ed er eo v1 m1 m2 m5 m7
    have hC9 : IsC K Hd (.ref kA) cs := ⟨kA, rfl, hC9', hK⟩
    refine ⟨tS, rfl, ⟨_, SqT.of upd_same⟩, ?_⟩
    refine for_tup (K := K) (a := tS) (xs := [.non, .ref u1, .ref qA, .ref dA, .ref rA, .ref oA, .ref pA]) (fun i σ H' => ∃ z, σ = [some (.ref a), some (.ref b), some (.ref kA), some (.ref pA), some nv, some (.ref tB), some bv, z, y8, y9, y10] ∧ LamX.ExtN Hd H' ∧ LamX.Tabs (T_all P_l_by_cards P_l_by_purse P_l_law) H' ∧ H' tS = some (.tup [.non, .ref u1, .ref qA, .ref dA, .ref rA, .ref oA, .ref pA]) ∧ ∀ v ∈ ([.non, .ref u1, .ref qA, .ref dA, .ref rA, .ref oA, .ref pA] : List V), NoT stampsD K H' cs v) ?_ ?_ ?_ ?_
    · exact ⟨_, rfl, ex1, tb1, upd_same, hst⟩
    · rintro i σ H' hi ⟨z, rfl, _, _, e, _⟩
      exact SqT.of e
    · rintro i v σ H' hi ⟨z, rfl, ex, tbs, eW, hst⟩
      have hv := hst v (List.mem_of_getElem? hi)
      refine ⟨tbs, fun fl cl H9 ex9 tb9 n9 ef ec => ?_⟩
      have exB := ex.trans ex9
      refine ⟨_, rfl, _, rfl, ?_⟩
      refine ⟨fl, .ref kA, v, .int 0, door3 stampsD "NoStamps" mg K, C, tf, rd, rfl, KT, .inr ⟨_, _, (lok_of (k := 11) (N := ["a", "b", "c"]) (ps := ["a", "b", "c"]) (NdefX.nscope_by (by dsimp only; decide +kernel)) rfl (fun pm ctv us hl => match us, hl with | [_, _, _], _ => rfl) (fun vs H Q E h => by obtain ⟨_, _, _, rfl, _⟩ := h; rfl) (fun A outer s H vs Q E hr2 h => ?_)), ef, ec⟩, mono_door3, fun H1 s1 => ⟨.ref kA, v, .int 0, rfl, .inr ⟨cs, hC9.ext (exB.trans (ext_same s1)), hv.ext (ex9.trans (ext_same s1)), refE_of KT KO2 fun p H2 s2 e2 => ?_⟩⟩⟩
      · obtain ⟨x1, x2, x3, rfl, h⟩ := h
        exact ⟨_, pe_defX D_p_least_endless hr2 (L2N.takes_of rfl rfl rfl rfl) (pa_cons (pv 0) (pa_cons (pv 1) pa_nil)), _, rfl, _, rfl, ⟨_, _, rfl, h⟩⟩
      refine ⟨(by show 2 ≤ sizeLine; decide), fun l0 nl0 => ?_⟩
      have s3 := same_upd (o := .lst [.str "NoStamps", .bl true]) nl0
      refine ⟨_, _, .lst (SqL.of (s3 _ _ e2)) (.cons (.str _) (.cons (.bl _) .nil)), .lst (SqL.of upd_same) (.cons (.str _) (.cons (.bl _) .nil)), kinsh_2, kinsh_2, _, rfl, ?_⟩
      rw [show kinN 2 = Str.ofString "NoStamps" from rfl, sh_eqv kinsh_2]
      have sy := s1.trans (s2.trans s3)
      have exC := ex9.trans (ext_same sy)
      have tbC := same_tabs sy tb9
      refine iteF ?_
      refine ⟨_, rfl, _, rfl, ?_⟩
      refine ⟨f_p_least_rides, .ref kA, v, .non, _, C, tf, rd, rfl, KT, .inl (h_p_least_rides.mono (by decide)), (mono_door3n : MonoSp (door3n stampsD "NoStamps" (okS K) isI mg K)), fun H1 s1 => ⟨_, _, _, rfl, .inr (.inl ⟨cs, hC9.ext (ex.trans (exC.trans (ext_same s1))), hv.ext (exC.trans (ext_same s1)), refE_of KT KO2 fun p H2 s2 e2 => ?_⟩)⟩⟩
      refine ⟨(by show 2 ≤ sizeLine; decide), fun l0 nl0 => ?_⟩
      have s3 := same_upd (o := .lst [.str "NoStamps", .bl true]) nl0
      refine ⟨_, _, .lst (SqL.of (s3 _ _ e2)) (.cons (.str _) (.cons (.bl _) .nil)), .lst (SqL.of upd_same) (.cons (.str _) (.cons (.bl _) .nil)), kinsh_2, kinsh_2, _, rfl, ?_⟩
      rw [show kinN 2 = Str.ofString "NoStamps" from rfl, sh_eqv kinsh_2]
      have sz := s1.trans (s2.trans s3)
      have exZ := exC.trans (ext_same sz)
      exact iteF ⟨_, rfl, ex.trans exZ, same_tabs sz tbC, exZ _ _ eW ntbl_tup, fun v hv => (hst v hv).ext exZ⟩
    rintro σ He ⟨z7, rfl, exe, tbe, _, _⟩
    -- odd numbers
    refine ⟨_, rfl, 10, 18, rfl, rfl, ⟨by decide, by decide, by decide⟩, _, _, rfl, rfl, (by show 5 ≤ sizeLine; decide), fun tO m1 => ?_⟩
    have s1 := same_upd (o := .tup oddM) m1
    refine ⟨tO, rfl, ⟨_, SqT.of upd_same⟩, ?_⟩
    refine for_tup (K := K) (a := tO) (xs := oddM) (fun i σ H' => ∃ z, σ = [some (.ref a), some (.ref b), some (.ref kA), some (.ref pA), some nv, some (.ref tB), some bv, z7, z, y9, y10] ∧ LamX.ExtN Hd H' ∧ LamX.Tabs (T_all P_l_by_cards P_l_by_purse P_l_law) H' ∧ H' tO = some (.tup oddM)) ?_ ?_ ?_ ?_
    · exact ⟨_, rfl, exe.trans (ext_same s1), same_tabs s1 tbe, upd_same⟩
    · rintro i σ H' hi ⟨z, rfl, _, _, e⟩
      exact SqT.of e
    · rintro i v σ H' hi ⟨z, rfl, ex, tbs, eW⟩
      have hv := List.mem_of_getElem? hi
      refine ⟨_, rfl, _, rfl, pA, _, _, _, rfl, rfl, ext_seqT ex hP9, atI_nat (j := 1) rfl, _, rfl, ?_⟩
      refine ⟨f_p_least_rides, .ref kA, .ref sA, v, _, C, tf, rd, rfl, KT, .inl (h_p_least_rides.mono (by decide)), (mono_door3n : MonoSp (door3n stampsD "NoStamps" (okS K) isI mg K)), fun H1 s1 => ⟨_, _, _, rfl, .inr (.inr ⟨cs, hC9.ext (ex.trans (ext_same s1)), ⟨_, .tup (ext_seqT (ex.trans (ext_same s1)) hs9) (dp_ints ss), stampsD_ok hSt⟩, .inl ⟨oddM_no hv, refE_of KT KO4 fun p H2 s2 e2 => ?_⟩⟩)⟩⟩
      refine ⟨(by show 2 ≤ sizeLine; decide), fun l0 nl0 => ?_⟩
      have s3 := same_upd (o := .lst [.str "NoNumber", .bl true]) nl0
      refine ⟨_, _, .lst (SqL.of (s3 _ _ e2)) (.cons (.str _) (.cons (.bl _) .nil)), .lst (SqL.of upd_same) (.cons (.str _) (.cons (.bl _) .nil)), kinsh_4, kinsh_4, _, rfl, ?_⟩
      rw [show kinN 4 = Str.ofString "NoNumber" from rfl, sh_eqv kinsh_4]
      have sz := s1.trans (s2.trans s3)
      exact iteF ⟨_, rfl, ex.trans (ext_same sz), same_tabs sz tbs, sz _ _ eW⟩
    rintro σ Hf ⟨z8, rfl, exf, tbf, _⟩
    have hPf := ext_seqT exf hP9
    have hsf := ext_seqT exf hs9
    have hpd : ∀ {Hz}, Same Hf Hz → Dp K Hz (.ref pA) (.tuple [.int r, .tuple (ss.map PyData.int)]) := fun s => .tup (Same.seqT s hPf) (.cons (.int r) (.cons (.tup (Same.seqT s hsf) (dp_ints ss)) .nil))
    have hbf := hb9.ext exf
    -- purses
    refine ⟨Nat.zero_le _, fun q1 m1 => ?_⟩
    have v1 := same_upd (o := .tup []) m1
    refine ⟨_, rfl, (by show 1 ≤ sizeLine; decide), fun q2 m2 => ?_⟩
    have v2 := same_upd (o := .lst [.ref pA]) m2
    refine ⟨_, rfl, (by show 1 ≤ sizeLine; decide), fun q3 m3 => ?_⟩
    have v3 := same_upd (o := .tup [.ref pA]) m3
    refine ⟨q3, 9, _, rfl, rfl, SqT.of upd_same, (fun z => nomatch z), by decide, by decide, (by show 1 ≤ 1000; decide), fun q4 H10 v4 e4 => ?_⟩
    refine ⟨_, rfl, _, rfl, (by show 2 ≤ sizeLine; decide), fun q5 m5 => ?_⟩
    have v5 := same_upd (o := .tup [.ref pA, bv]) m5
    refine ⟨_, rfl, (by show 1 ≤ sizeLine; decide), fun q6 m6 => ?_⟩
    have v6 := same_upd (o := .tup [.non]) m6
    refine ⟨(by show 7 ≤ sizeLine; decide), fun tP m7 => ?_⟩
    have v7 := same_upd (o := .tup [.non, .ref q1, .ref q2, .ref q4, .ref q5, .ref pA, .ref q6]) m7
    have x6 := v6.trans v7
    have x5 := v5.trans x6
    have x4 := v4.trans x5
    have x3 := v3.trans x4
    have x2 := v2.trans x3
    have x1 := v1.trans x2
    have hst : ∀ v ∈ ([.non, .ref q1, .ref q2, .ref q4, .ref q5, .ref pA, .ref q6] : List V), NoT pursesD K (upd (upd (upd H10 q5 (.tup [.ref pA, bv])) q6 (.tup [.non])) tP (.tup [.non, .ref q1, .ref q2, .ref q4, .ref q5, .ref pA, .ref q6])) cs v := by
      intro v hv
      simp only [List.mem_cons, List.not_mem_nil, or_false] at hv
      rcases hv with rfl | rfl | rfl | rfl | rfl | rfl | rfl
      · exact ⟨_, .non, rfl⟩
      · exact ⟨_, .tup (SqT.of (x2 _ _ upd_same)) .nil, rfl⟩
      · exact ⟨_, .lst (SqL.of (x3 _ _ upd_same)) (.cons (hpd x1) .nil), rfl⟩
      · exact ⟨_, .tup (Same.seqT x5 e4) (dpa_rep (hpd x1) _), rfl⟩
      · obtain ⟨d, h1, h2⟩ := hbf.same x1
        exact ⟨_, .tup (SqT.of (x6 _ _ upd_same)) (.cons (hpd x1) (.cons h1 .nil)), pursesD_in (List.mem_cons_of_mem _ List.mem_cons_self) h2⟩
      · exact ⟨_, hpd x1, pursesD_in List.mem_cons_self rfl⟩
      · exact ⟨_, .tup (SqT.of (v7 _ _ upd_same)) (.cons .non .nil), pursesD_in List.mem_cons_self rfl⟩
    have ex1 := exf.trans (ext_same x1)
    have tb1 := same_tabs x1 tbf
    clear x6 x5 x4 x3 x2 x1 v6 v5 v4 v3 v2 v1 e4 m1 m2 m3 m5 m6
    refine ⟨tP, rfl, ⟨_, SqT.of upd_same⟩, ?_⟩
    refine for_tup (K := K) (a := tP) (xs := [.non, .ref q1, .ref q2, .ref q4, .ref q5, .ref pA, .ref q6]) (fun i σ H' => ∃ z z', σ = [some (.ref a), some (.ref b), some (.ref kA), some (.ref pA), some nv, some (.ref tB), some bv, z7, z8, z, z'] ∧ LamX.ExtN Hd H' ∧ LamX.Tabs (T_all P_l_by_cards P_l_by_purse P_l_law) H' ∧ H' tP = some (.tup [.non, .ref q1, .ref q2, .ref q4, .ref q5, .ref pA, .ref q6]) ∧ ∀ v ∈ ([.non, .ref q1, .ref q2, .ref q4, .ref q5, .ref pA, .ref q6] : List V), NoT pursesD K H' cs v) ?_ ?_ ?_ ?_
    · exact ⟨_, _, rfl, ex1, tb1, upd_same, hst⟩
    · rintro i σ H' hi ⟨z, z', rfl, _, _, e, _⟩
      exact SqT.of e
    · rintro i v σ H' hi ⟨z, z', rfl, ex, tbs, eW, hst⟩
      have hv := hst v (List.mem_of_getElem? hi)
      refine ⟨(by show 2 ≤ sizeLine; decide), fun tD m1 => ?_⟩
      have s1 := same_upd (o := .tup [.ref f_p_apart, .ref f_p_together]) m1
      have drs : ∀ u ∈ ([.ref f_p_apart, .ref f_p_together] : List V), Dr2 P w K mg base "NoPurses" (.ref kA) v (fun H => IsC K H (.ref kA) cs ∧ NoT pursesD K H cs v) u := by
        intro u hu
        simp only [List.mem_cons, List.not_mem_nil, or_false] at hu
        rcases hu with rfl | rfl
        · exact ⟨_, _, rfl, h_p_apart, (mono_door2 : MonoSp (door2 pursesD "NoPurses" mg K)), fun H Q E n r => ⟨_, _, rfl, .inr ⟨cs, n.1, n.2, r⟩⟩⟩
        · exact ⟨_, _, rfl, h_p_together, (mono_door2 : MonoSp (door2 pursesD "NoPurses" mg K)), fun H Q E n r => ⟨_, _, rfl, .inr ⟨cs, n.1, n.2, r⟩⟩⟩
      refine ⟨tD, rfl, ⟨_, SqT.of upd_same⟩, ?_⟩
      refine for_tup (K := K) (a := tD) (xs := [.ref f_p_apart, .ref f_p_together]) (fun i σ H'' => ∃ z', σ = [some (.ref a), some (.ref b), some (.ref kA), some (.ref pA), some nv, some (.ref tB), some bv, z7, z8, some v, z'] ∧ LamX.ExtN H' H'' ∧ LamX.Tabs (T_all P_l_by_cards P_l_by_purse P_l_law) H'' ∧ H'' tD = some (.tup [.ref f_p_apart, .ref f_p_together])) ?_ ?_ ?_ ?_
      · exact ⟨_, rfl, ext_same s1, same_tabs s1 tbs, upd_same⟩
      · rintro i σ Hx hi ⟨z, rfl, _, _, e⟩
        exact SqT.of e
      · rintro i u σ Hx hi ⟨z, rfl, ex', tbx, eD⟩
        obtain ⟨fa, sp, rfl, hh, mn, gg⟩ := drs u (List.mem_of_getElem? hi)
        refine ⟨tbx, fun fl cl H9 ex9 tb9 n9 ef ec => ?_⟩
        have exB := ex'.trans ex9
        refine ⟨_, rfl, _, rfl, _, rfl, ?_⟩
        refine ⟨fl, .ref fa, .ref kA, v, sp_lamA P w K mg base, C, tf, rd, rfl, KT, .inr ⟨_, _, (lok_of (k := 11) (N := ["a", "b", "c"]) (ps := ["a", "b", "c"]) (NdefX.nscope_by (by dsimp only; decide +kernel)) rfl (fun pm ctv us hl => match us, hl with | [_, _, _], _ => rfl) (fun vs H Q E h => by obtain ⟨_, _, _, _, rfl, _⟩ := h; rfl) (fun A outer s H vs Q E hr2 h => ?_)), ef, ec⟩, mono_lamA, fun H1 s1 => ⟨fa, .ref kA, v, sp, rfl, hh, mn, gg _ _ _ ⟨hC9.ext (ex.trans (exB.trans (ext_same s1))), hv.ext (exB.trans (ext_same s1))⟩ (refE_of KT KO5 fun p H2 s2 e2 => ?_)⟩⟩
        · obtain ⟨f1, x1, x2, sp1, rfl, h1, m1, h⟩ := h
          exact ⟨_, pe_callH (k := 11) (i := 0) hr2 rfl (.inl rfl) (L2N.takes_of rfl rfl rfl rfl) (pa_cons (pv 1) (pa_cons (pv 2) pa_nil)), f1, sp1, rfl, .inl ⟨h1, _, rfl, _, rfl, h⟩⟩
        · refine ⟨(by show 2 ≤ sizeLine; decide), fun l0 nl0 => ?_⟩
          have s3 := same_upd (o := .lst [.str "NoPurses", .bl true]) nl0
          refine ⟨_, _, .lst (SqL.of (s3 _ _ e2)) (.cons (.str _) (.cons (.bl _) .nil)), .lst (SqL.of upd_same) (.cons (.str _) (.cons (.bl _) .nil)), kinsh_5, kinsh_5, _, rfl, ?_⟩
          rw [show kinN 5 = Str.ofString "NoPurses" from rfl, sh_eqv kinsh_5]
          have sz := s1.trans (s2.trans s3)
          have exZ := ex9.trans (ext_same sz)
          exact iteF ⟨_, rfl, ex'.trans exZ, same_tabs sz tb9, exZ _ _ eD ntbl_tup⟩
      · rintro σ Hx ⟨z', rfl, ex', tbx, _⟩
        exact ⟨_, _, rfl, ex.trans ex', tbx, ex' _ _ eW ntbl_tup, fun v hv => (hst v hv).ext ex'⟩
    rintro σ Hg ⟨z9, z10, rfl, exg, tbg, _, _⟩
    exact ⟨_, _, _, _, _, _, _, _, _, _, rfl, kk9.trans (.ext exg), tbg⟩
  · rintro σ H2 ⟨y1, y2, y3, y4, y5, y6, y7, y8, y9, y10, rfl, kk, _⟩
    exact q H2
set_option maxHeartbeats 4000000 in
theorem all_ok {l : PySem.W.OpenLaw} {w : World} {K : PySem.W.Frag} {mg : Str → Option Value} {fa : Addr} (hfa : mg "law" = some (.ref fa)) {h : Heap}
    (F_p_is_within : FunAt K mg "is_within" s_p_is_within)
    (F_p_are_cards : FunAt K mg "are_cards" s_p_are_cards)
    (F_p_refuse_no_cards : FunAt K mg "refuse_no_cards" s_p_refuse_no_cards)
    (F_p_are_stamps : FunAt K mg "are_stamps" s_p_are_stamps)
    (F_p_refuse_no_stamps : FunAt K mg "refuse_no_stamps" s_p_refuse_no_stamps)
    (F_p_period_of : FunAt K mg "period_of" s_p_period_of)
    (F_p_period_pays : FunAt K mg "period_pays" s_p_period_pays)
    (F_p_full_cards : FunAt K mg "full_cards" s_p_full_cards)
    (F_p_rides_wanted : FunAt K mg "rides_wanted" s_p_rides_wanted)
    (F_p_least_endless : FunAt K mg "least_endless" s_p_least_endless)
    (F_l_draws : FunAt K mg "_law_draws" s_l_draws)
    (F_l_cell_at : FunAt K mg "_law_cell_at" s_l_cell_at)
    (F_l_bag : FunAt K mg "_law_bag" s_l_bag)
    (F_l_bags : FunAt K mg "_law_bags" s_l_bags)
    (F_l_take : FunAt K mg "_law_take" s_l_take)
    (F_l_kinds : FunAt K mg "_law_kinds" s_l_kinds)
    (F_l_far_draw : FunAt K mg "_law_far_draw" s_l_far_draw)
    (F_l_stamps_for : FunAt K mg "_law_stamps_for" s_l_stamps_for)
    (F_l_had : FunAt K mg "_law_had" s_l_had)
    (F_p_purse_fits : FunAt K mg "purse_fits" s_p_purse_fits)
    (F_p_refuse_no_purse : FunAt K mg "refuse_no_purse" s_p_refuse_no_purse)
    (F_p_most_by_shares : FunAt K mg "most_by_shares" s_p_most_by_shares)
    (F_p_pays_back : FunAt K mg "pays_back" s_p_pays_back)
    (F_p_greatest : FunAt K mg "greatest" s_p_greatest)
    (F_p_rides_in_all : FunAt K mg "rides_in_all" s_p_rides_in_all)
    (F_p_left : FunAt K mg "left" s_p_left)
    (F_p_all_rides : FunAt K mg "all_rides" s_p_all_rides)
    (F_l_refused : FunAt K mg "_law_refused" s_l_refused)
    (F_p_is_kind : FunAt K mg "is_kind" s_p_is_kind)
    (F_p_is_deed : FunAt K mg "is_deed" s_p_is_deed)
    (F_p_is_row : FunAt K mg "is_row" s_p_is_row)
    (F_p_refuse_no_row : FunAt K mg "refuse_no_row" s_p_refuse_no_row)
    (F_p_after_ride : FunAt K mg "after_ride" s_p_after_ride)
    (F_p_after_giving : FunAt K mg "after_giving" s_p_after_giving)
    (F_p_after_deed : FunAt K mg "after_deed" s_p_after_deed)
    (F_p_behind : FunAt K mg "behind" s_p_behind)
    (F_p_refuse_no_number : FunAt K mg "refuse_no_number" s_p_refuse_no_number)
    (F_p_least_rides : FunAt K mg "least_rides" s_p_least_rides)
    (F_p_least_loan : FunAt K mg "least_loan" s_p_least_loan)
    (F_p_can_have : FunAt K mg "can_have" s_p_can_have)
    {c_l_by_purse P_l_by_purse : Addr}
    (F_l_by_purse : TabAt K mg h "_law_by_purse" s_l_by_purse c_l_by_purse P_l_by_purse)
    (F_p_are_purses : FunAt K mg "are_purses" s_p_are_purses)
    (F_p_refuse_no_purses : FunAt K mg "refuse_no_purses" s_p_refuse_no_purses)
    (F_p_put_together : FunAt K mg "put_together" s_p_put_together)
    (F_p_together : FunAt K mg "together" s_p_together)
    (F_p_apart : FunAt K mg "apart" s_p_apart)
    (F_p_is_purse : FunAt K mg "is_purse" s_p_is_purse)
    {c_l_by_cards P_l_by_cards : Addr}
    (F_l_by_cards : TabAt K mg h "_law_by_cards" s_l_by_cards c_l_by_cards P_l_by_cards)
    {c_l_law P_l_law : Addr}
    (F_l_law : TabAt K mg h "law" s_l_law c_l_law P_l_law)
    (hne : Apart P_l_by_cards P_l_by_purse P_l_law)
    {C : Addr} (T : KeptT K mg C) (mkC : PySem.W.makesIn K C = true) (kcC : PySem.W.keepIn K (.ref C) = true)
    (F_m_init : ∃ f fd, Fun K "__init__" "Kept.__init__" s_m_init f fd ∧ Meth K C "__init__" f)
    (b_isinstance : mg "isinstance" = none)
    (b_int : mg "int" = none)
    (b_bool : mg "bool" = none)
    (b_len : mg "len" = none)
    (b_tuple : mg "tuple" = none)
    (b_all : mg "all" = none)
    (b_sum : mg "sum" = none)
    (b_zip : mg "zip" = none)
    (b_range : mg "range" = none)
    (b_max : mg "max" = none)
    (b_min : mg "min" = none)
    (b_ValueError : mg "ValueError" = none)
    (b_str : mg "str" = none)
    (b_list : mg "list" = none)
    {t_MOST_KINDS : Tok} (g_MOST_KINDS : mg "MOST_KINDS" = some (.int 3 t_MOST_KINDS))
    {t_MOST_FULL : Tok} (g_MOST_FULL : mg "MOST_FULL" = some (.int 20 t_MOST_FULL))
    {t_LEAST_FULL : Tok} (g_LEAST_FULL : mg "LEAST_FULL" = some (.int 2 t_LEAST_FULL))
    {t_MOST : Tok} (g_MOST : mg "MOST" = some (.int 1000000000000000000 t_MOST))
    {t_MOST_DEEDS : Tok} (g_MOST_DEEDS : mg "MOST_DEEDS" = some (.int 100 t_MOST_DEEDS))
    {t_MOST_PURSES : Tok} (g_MOST_PURSES : mg "MOST_PURSES" = some (.int 8 t_MOST_PURSES))
    {t_RIDE : Tok} (g_RIDE : mg "RIDE" = some (.str "ride" t_RIDE))
    {C_NoCards : Addr} (T_NoCards : ExcT K mg "NoCards" C_NoCards)
    {C_NoStamps : Addr} (T_NoStamps : ExcT K mg "NoStamps" C_NoStamps)
    {C_NoPurse : Addr} (T_NoPurse : ExcT K mg "NoPurse" C_NoPurse)
    {C_NoRow : Addr} (T_NoRow : ExcT K mg "NoRow" C_NoRow)
    {C_NoNumber : Addr} (T_NoNumber : ExcT K mg "NoNumber" C_NoNumber)
    {C_NoPurses : Addr} (T_NoPurses : ExcT K mg "NoPurses" C_NoPurses)
    {C : Nat → Addr} {tf rd : Addr} (KT : Kin K mg C tf rd) (KO0 : KinOf K C tf rd 0) (KO1 : KinOf K C tf rd 1) (KO2 : KinOf K C tf rd 2) (KO4 : KinOf K C tf rd 4) (KO5 : KinOf K C tf rd 5) :
    LamX.LawAtS l w K CX0 15 63 "script" mg fa h := by
  obtain ⟨f0, fd0, F0, m0, hc0⟩ := F_l_law.fn
  have e := hfa.symm.trans m0
  cases e
  refine ⟨fd0, [(c_l_by_purse, P_l_by_purse), (c_l_by_cards, P_l_by_cards), (c_l_law, P_l_law)], sp_l_law K P_l_by_cards P_l_by_purse P_l_law, (List.forall_mem_cons.mpr ⟨F_l_by_purse.tab, (List.forall_mem_cons.mpr ⟨F_l_by_cards.tab, (List.forall_mem_cons.mpr ⟨F_l_law.tab, (List.forall_mem_nil _)⟩)⟩)⟩), (List.forall_mem_cons.mpr ⟨F_l_by_purse.out, (List.forall_mem_cons.mpr ⟨F_l_by_cards.out, (List.forall_mem_cons.mpr ⟨F_l_law.out, (List.forall_mem_nil _)⟩)⟩)⟩), (List.forall_mem_cons.mpr ⟨F_l_by_purse.hd, (List.forall_mem_cons.mpr ⟨F_l_by_cards.hd, (List.forall_mem_cons.mpr ⟨F_l_law.hd, (List.forall_mem_nil _)⟩)⟩)⟩), ?_, fun H a ns hl hz hT hS => ?_, fun base _ _ TB => ?_⟩
  · obtain ⟨oc, od, kV, doc, pm, an, cdv, ct, osl, rfl, lk, hcd⟩ := F0.ex
    exact fun s v => .of_eq rfl
  · exact ⟨a, ns, rfl, hS, hl, List.forall_mem_cons.mpr ⟨LamX.TabS.nil (hT _ (List.mem_cons_of_mem _ List.mem_cons_self)), List.forall_mem_cons.mpr ⟨LamX.TabS.nil (hT _ List.mem_cons_self), List.forall_mem_cons.mpr ⟨LamX.TabS.nil (hT _ (List.mem_cons_of_mem _ (List.mem_cons_of_mem _ List.mem_cons_self))), List.forall_mem_nil _⟩⟩⟩, fun _ => rfl⟩
  have D_p_is_within := F_p_is_within.def (P := l.prog) (w := w) (base := base) (fun f fd F => ok_p_is_within F b_isinstance b_int b_bool) (ps := ["thing", "least", "most"]) (fun _ _ _ _ _ _ us hl => match us, hl with | [_, _, _], _ => rfl)
  have D_p_are_cards := F_p_are_cards.def (P := l.prog) (w := w) (base := base) (fun f fd F => ok_p_are_cards F D_p_is_within b_len b_isinstance b_tuple b_all g_MOST_KINDS g_MOST_FULL g_LEAST_FULL) (ps := ["thing"]) (fun _ _ _ _ _ _ us hl => match us, hl with | [_], _ => rfl)
  have D_p_refuse_no_cards := F_p_refuse_no_cards.defX (P := l.prog) (w := w) (base := base) (fun f fd F => ok_p_refuse_no_cards F D_p_are_cards T_NoCards) (ps := ["thing"]) (fun _ _ _ _ _ _ us hl => match us, hl with | [_], _ => rfl)
  have D_p_are_stamps := F_p_are_stamps.def (P := l.prog) (w := w) (base := base) (fun f fd F => ok_p_are_stamps F D_p_is_within b_len b_isinstance b_tuple b_all g_MOST) (ps := ["cards", "thing"]) (fun _ _ _ _ _ _ us hl => match us, hl with | [_, _], _ => rfl)
  have D_p_refuse_no_stamps := F_p_refuse_no_stamps.defX (P := l.prog) (w := w) (base := base) (fun f fd F => ok_p_refuse_no_stamps F D_p_are_stamps T_NoStamps) (ps := ["cards", "thing"]) (fun _ _ _ _ _ _ us hl => match us, hl with | [_, _], _ => rfl)
  have D_p_period_of := F_p_period_of.def (P := l.prog) (w := w) (base := base) (fun f fd F => ok_p_period_of F ) (ps := ["cards"]) (fun _ _ _ _ _ _ us hl => match us, hl with | [_], _ => rfl)
  have D_p_period_pays := F_p_period_pays.def (P := l.prog) (w := w) (base := base) (fun f fd F => ok_p_period_pays F D_p_period_of b_sum) (ps := ["cards"]) (fun _ _ _ _ _ _ us hl => match us, hl with | [_], _ => rfl)
  have D_p_full_cards := F_p_full_cards.def (P := l.prog) (w := w) (base := base) (fun f fd F => ok_p_full_cards F b_sum b_zip) (ps := ["cards", "stamps", "ridden"]) (fun _ _ _ _ _ _ us hl => match us, hl with | [_, _, _], _ => rfl)
  have D_p_rides_wanted := F_p_rides_wanted.def (P := l.prog) (w := w) (base := base) (fun f fd F => ok_p_rides_wanted F D_p_full_cards b_range b_max) (ps := ["cards", "stamps", "first", "end"]) (fun _ _ _ _ _ _ us hl => match us, hl with | [_, _, _, _], _ => rfl)
  have D_p_least_endless := F_p_least_endless.defX (P := l.prog) (w := w) (base := base) (fun f fd F => ok_p_least_endless F D_p_refuse_no_cards D_p_refuse_no_stamps D_p_period_pays D_p_rides_wanted D_p_period_of) (ps := ["cards", "stamps"]) (fun _ _ _ _ _ _ us hl => match us, hl with | [_, _], _ => rfl)
  obtain ⟨f_p_least_endless, v_p_least_endless, h_p_least_endless⟩ := D_p_least_endless.held (j := 11) (by decide)
  have D_l_draws := F_l_draws.def (P := l.prog) (w := w) (base := base) (fun f fd F => ok_l_draws F b_int b_range) (ps := ["cell", "many", "size"]) (fun _ _ _ _ _ _ us hl => match us, hl with | [_, _, _], _ => rfl)
  have D_l_cell_at := F_l_cell_at.def (P := l.prog) (w := w) (base := base) (fun f fd F => ok_l_cell_at F b_len) (ps := ["script", "k"]) (fun _ _ _ _ _ _ us hl => match us, hl with | [_, _], _ => rfl)
  have D_l_bag := F_l_bag.def (P := l.prog) (w := w) (base := base) (fun f fd F => ok_l_bag F D_l_draws D_l_cell_at) (ps := ["script", "k"]) (fun _ _ _ _ _ _ us hl => match us, hl with | [_, _], _ => rfl)
  have D_l_bags := F_l_bags.def (P := l.prog) (w := w) (base := base) (fun f fd F => ok_l_bags F D_l_bag b_range b_max b_min b_len) (ps := ["script", "limit"]) (fun _ _ _ _ _ _ us hl => match us, hl with | [_, _], _ => rfl)
  have D_l_take := F_l_take.def (P := l.prog) (w := w) (base := base) (fun f fd F => ok_l_take F b_len) (ps := ["bag", "many"]) (fun _ _ _ _ _ _ us hl => match us, hl with | [_, _], _ => rfl)
  have D_l_kinds := F_l_kinds.def (P := l.prog) (w := w) (base := base) (fun f fd F => ok_l_kinds F D_l_take b_range b_min b_tuple) (ps := ["bag", "far"]) (fun _ _ _ _ _ _ us hl => match us, hl with | [_, _], _ => rfl)
  have D_l_far_draw := F_l_far_draw.def (P := l.prog) (w := w) (base := base) (fun f fd F => ok_l_far_draw F D_l_take) (ps := ["bag", "many"]) (fun _ _ _ _ _ _ us hl => match us, hl with | [_, _], _ => rfl)
  have D_l_stamps_for := F_l_stamps_for.def (P := l.prog) (w := w) (base := base) (fun f fd F => ok_l_stamps_for F D_l_far_draw D_l_take b_tuple) (ps := ["bag", "kinds", "far"]) (fun _ _ _ _ _ _ us hl => match us, hl with | [_, _, _], _ => rfl)
  have D_l_had := F_l_had.def (P := l.prog) (w := w) (base := base) (fun f fd F => ok_l_had F D_l_stamps_for D_l_far_draw) (ps := ["bag", "kinds", "far"]) (fun _ _ _ _ _ _ us hl => match us, hl with | [_, _, _], _ => rfl)
  have D_p_purse_fits := F_p_purse_fits.def (P := l.prog) (w := w) (base := base) (fun f fd F => ok_p_purse_fits F D_p_are_stamps D_p_is_within b_len b_isinstance b_tuple g_MOST) (ps := ["cards", "thing"]) (fun _ _ _ _ _ _ us hl => match us, hl with | [_, _], _ => rfl)
  have D_p_refuse_no_purse := F_p_refuse_no_purse.defX (P := l.prog) (w := w) (base := base) (fun f fd F => ok_p_refuse_no_purse F D_p_purse_fits T_NoPurse) (ps := ["cards", "thing"]) (fun _ _ _ _ _ _ us hl => match us, hl with | [_, _], _ => rfl)
  have D_m_init := kmkX_mk mkC kcC F_m_init (P := l.prog) (w := w) (mg := mg) (base := base) (fun f fd F => ok_m_init F T D_p_refuse_no_cards D_p_refuse_no_purse) (ps := ["self", "cards", "purse"]) (fun _ _ _ _ _ _ us hl => match us, hl with | [_, _, _], _ => rfl)
  have D_p_most_by_shares := F_p_most_by_shares.def (P := l.prog) (w := w) (base := base) (fun f fd F => ok_p_most_by_shares F D_p_period_of b_sum b_zip) (ps := ["cards", "purse"]) (fun _ _ _ _ _ _ us hl => match us, hl with | [_, _], _ => rfl)
  have D_p_pays_back := F_p_pays_back.def (P := l.prog) (w := w) (base := base) (fun f fd F => ok_p_pays_back F D_p_full_cards) (ps := ["cards", "purse", "number"]) (fun _ _ _ _ _ _ us hl => match us, hl with | [_, _, _], _ => rfl)
  have D_p_greatest := F_p_greatest.defX (P := l.prog) (w := w) (base := base) (fun f fd F => ok_p_greatest F D_p_refuse_no_cards D_p_refuse_no_purse D_p_period_pays D_p_most_by_shares D_p_pays_back) (ps := ["cards", "purse"]) (fun _ _ _ _ _ _ us hl => match us, hl with | [_, _], _ => rfl)
  obtain ⟨f_p_greatest, v_p_greatest, h_p_greatest⟩ := D_p_greatest.held (j := 11) (by decide)
  have D_p_rides_in_all := F_p_rides_in_all.def (P := l.prog) (w := w) (base := base) (fun f fd F => ok_p_rides_in_all F D_p_period_pays D_p_period_of D_p_full_cards) (ps := ["cards", "purse"]) (fun _ _ _ _ _ _ us hl => match us, hl with | [_, _], _ => rfl)
  have D_p_left := F_p_left.defX (P := l.prog) (w := w) (base := base) (fun f fd F => ok_p_left F D_p_refuse_no_cards D_p_refuse_no_purse D_p_rides_in_all b_tuple b_zip) (ps := ["cards", "purse"]) (fun _ _ _ _ _ _ us hl => match us, hl with | [_, _], _ => rfl)
  obtain ⟨f_p_left, v_p_left, h_p_left⟩ := D_p_left.held (j := 11) (by decide)
  have D_p_all_rides := F_p_all_rides.defX (P := l.prog) (w := w) (base := base) (fun f fd F => ok_p_all_rides F D_p_refuse_no_cards D_p_refuse_no_purse D_p_rides_in_all) (ps := ["cards", "purse"]) (fun _ _ _ _ _ _ us hl => match us, hl with | [_, _], _ => rfl)
  obtain ⟨f_p_all_rides, v_p_all_rides, h_p_all_rides⟩ := D_p_all_rides.held (j := 11) (by decide)
  have D_l_refused := F_l_refused.def (P := l.prog) (w := w) (base := base) (fun f fd F => ok_l_refused F b_isinstance b_ValueError) (ps := ["call", "one", "two", "three"]) (fun _ _ _ _ _ _ us hl => match us, hl with | [_, _, _, _], _ => rfl)
  have D_p_is_kind := F_p_is_kind.def (P := l.prog) (w := w) (base := base) (fun f fd F => ok_p_is_kind F D_p_is_within b_len) (ps := ["cards", "thing"]) (fun _ _ _ _ _ _ us hl => match us, hl with | [_, _], _ => rfl)
  have D_p_is_deed := F_p_is_deed.def (P := l.prog) (w := w) (base := base) (fun f fd F => ok_p_is_deed F D_p_is_kind b_isinstance b_str g_RIDE) (ps := ["cards", "thing"]) (fun _ _ _ _ _ _ us hl => match us, hl with | [_, _], _ => rfl)
  have D_p_is_row := F_p_is_row.def (P := l.prog) (w := w) (base := base) (fun f fd F => ok_p_is_row F D_p_is_deed b_len b_isinstance b_list b_all g_MOST_DEEDS) (ps := ["cards", "thing"]) (fun _ _ _ _ _ _ us hl => match us, hl with | [_, _], _ => rfl)
  have D_p_refuse_no_row := F_p_refuse_no_row.defX (P := l.prog) (w := w) (base := base) (fun f fd F => ok_p_refuse_no_row F D_p_is_row T_NoRow) (ps := ["cards", "thing"]) (fun _ _ _ _ _ _ us hl => match us, hl with | [_, _], _ => rfl)
  have D_p_after_ride := F_p_after_ride.def (P := l.prog) (w := w) (base := base) (fun f fd F => ok_p_after_ride F b_tuple) (ps := ["purse"]) (fun _ _ _ _ _ _ us hl => match us, hl with | [_], _ => rfl)
  have D_p_after_giving := F_p_after_giving.def (P := l.prog) (w := w) (base := base) (fun f fd F => ok_p_after_giving F b_list b_tuple) (ps := ["cards", "purse", "kind"]) (fun _ _ _ _ _ _ us hl => match us, hl with | [_, _, _], _ => rfl)
  have D_p_after_deed := F_p_after_deed.def (P := l.prog) (w := w) (base := base) (fun f fd F => ok_p_after_deed F D_p_after_ride D_p_after_giving g_RIDE) (ps := ["cards", "purse", "deed"]) (fun _ _ _ _ _ _ us hl => match us, hl with | [_, _, _], _ => rfl)
  have D_p_behind := F_p_behind.defX (P := l.prog) (w := w) (base := base) (fun f fd F => ok_p_behind F D_p_refuse_no_cards D_p_refuse_no_purse D_p_refuse_no_row D_p_after_deed) (ps := ["cards", "purse", "row"]) (fun _ _ _ _ _ _ us hl => match us, hl with | [_, _, _], _ => rfl)
  obtain ⟨f_p_behind, v_p_behind, h_p_behind⟩ := D_p_behind.held (j := 11) (by decide)
  have D_p_refuse_no_number := F_p_refuse_no_number.defX (P := l.prog) (w := w) (base := base) (fun f fd F => ok_p_refuse_no_number F D_p_is_within g_MOST T_NoNumber) (ps := ["thing", "least"]) (fun _ _ _ _ _ _ us hl => match us, hl with | [_, _], _ => rfl)
  have D_p_least_rides := F_p_least_rides.defX (P := l.prog) (w := w) (base := base) (fun f fd F => ok_p_least_rides F D_p_refuse_no_cards D_p_refuse_no_stamps D_p_refuse_no_number D_p_period_of D_p_period_pays D_p_rides_wanted b_min b_max) (ps := ["cards", "stamps", "number"]) (fun _ _ _ _ _ _ us hl => match us, hl with | [_, _, _], _ => rfl)
  obtain ⟨f_p_least_rides, v_p_least_rides, h_p_least_rides⟩ := D_p_least_rides.held (j := 11) (by decide)
  have D_p_least_loan := F_p_least_loan.defX (P := l.prog) (w := w) (base := base) (fun f fd F => ok_p_least_loan F D_p_refuse_no_cards D_p_refuse_no_purse D_p_refuse_no_number D_p_pays_back D_p_least_rides b_max) (ps := ["cards", "purse", "number"]) (fun _ _ _ _ _ _ us hl => match us, hl with | [_, _, _], _ => rfl)
  obtain ⟨f_p_least_loan, v_p_least_loan, h_p_least_loan⟩ := D_p_least_loan.held (j := 11) (by decide)
  have D_p_can_have := F_p_can_have.defX (P := l.prog) (w := w) (base := base) (fun f fd F => ok_p_can_have F D_p_refuse_no_cards D_p_refuse_no_purse D_p_refuse_no_number D_p_pays_back) (ps := ["cards", "purse", "number"]) (fun _ _ _ _ _ _ us hl => match us, hl with | [_, _, _], _ => rfl)
  obtain ⟨f_p_can_have, v_p_can_have, h_p_can_have⟩ := D_p_can_have.held (j := 11) (by decide)
  have D_l_by_purse := F_l_by_purse.def (P := l.prog) (w := w) (base := base) (fun f fd F hc => ok_l_by_purse F T (TB _ List.mem_cons_self) hc hne D_m_init D_p_greatest D_p_left D_p_all_rides D_l_refused D_p_behind D_p_least_loan D_p_can_have v_p_greatest h_p_greatest v_p_left h_p_left v_p_all_rides h_p_all_rides v_p_behind h_p_behind v_p_least_loan h_p_least_loan v_p_can_have h_p_can_have KT KO1 KO4) (ps := ["kinds", "had", "bad"]) (fun _ _ _ _ _ _ us hl => match us, hl with | [_, _, _], _ => rfl)
  have D_p_are_purses := F_p_are_purses.def (P := l.prog) (w := w) (base := base) (fun f fd F => ok_p_are_purses F D_p_purse_fits b_len b_isinstance b_tuple b_all g_MOST_PURSES) (ps := ["cards", "thing"]) (fun _ _ _ _ _ _ us hl => match us, hl with | [_, _], _ => rfl)
  have D_p_refuse_no_purses := F_p_refuse_no_purses.defX (P := l.prog) (w := w) (base := base) (fun f fd F => ok_p_refuse_no_purses F D_p_are_purses T_NoPurses) (ps := ["cards", "thing"]) (fun _ _ _ _ _ _ us hl => match us, hl with | [_, _], _ => rfl)
  have D_p_put_together := F_p_put_together.def (P := l.prog) (w := w) (base := base) (fun f fd F => ok_p_put_together F b_sum b_range b_len b_tuple) (ps := ["cards", "purses"]) (fun _ _ _ _ _ _ us hl => match us, hl with | [_, _], _ => rfl)
  have D_p_together := F_p_together.defX (P := l.prog) (w := w) (base := base) (fun f fd F => ok_p_together F D_p_refuse_no_cards D_p_refuse_no_purses D_p_rides_in_all D_p_put_together) (ps := ["cards", "purses"]) (fun _ _ _ _ _ _ us hl => match us, hl with | [_, _], _ => rfl)
  obtain ⟨f_p_together, v_p_together, h_p_together⟩ := D_p_together.held (j := 11) (by decide)
  have D_p_apart := F_p_apart.defX (P := l.prog) (w := w) (base := base) (fun f fd F => ok_p_apart F D_p_refuse_no_cards D_p_refuse_no_purses D_p_rides_in_all) (ps := ["cards", "purses"]) (fun _ _ _ _ _ _ us hl => match us, hl with | [_, _], _ => rfl)
  obtain ⟨f_p_apart, v_p_apart, h_p_apart⟩ := D_p_apart.held (j := 11) (by decide)
  have D_p_is_purse := F_p_is_purse.defX (P := l.prog) (w := w) (base := base) (fun f fd F => ok_p_is_purse F D_p_refuse_no_cards D_p_purse_fits) (ps := ["cards", "thing"]) (fun _ _ _ _ _ _ us hl => match us, hl with | [_, _], _ => rfl)
  obtain ⟨f_p_is_purse, v_p_is_purse, h_p_is_purse⟩ := D_p_is_purse.held (j := 11) (by decide)
  have D_l_by_cards := F_l_by_cards.def (P := l.prog) (w := w) (base := base) (fun f fd F hc => ok_l_by_cards F T (TB _ (List.mem_cons_of_mem _ List.mem_cons_self)) hc hne D_m_init D_p_together D_p_apart D_p_greatest D_p_least_endless D_p_left D_p_all_rides D_p_is_purse D_l_refused D_p_least_loan D_p_can_have D_p_least_rides D_p_behind v_p_together h_p_together v_p_apart h_p_apart v_p_greatest h_p_greatest v_p_least_endless h_p_least_endless v_p_left h_p_left v_p_all_rides h_p_all_rides v_p_is_purse h_p_is_purse v_p_least_loan h_p_least_loan v_p_can_have h_p_can_have v_p_least_rides h_p_least_rides v_p_behind h_p_behind KT KO0) (ps := ["none"]) (fun _ _ _ _ _ _ us hl => match us, hl with | [_], _ => rfl)
  exact ok_l_law F0 (TB _ (List.mem_cons_of_mem _ (List.mem_cons_of_mem _ List.mem_cons_self))) hc0 hne D_p_least_endless D_l_bags D_l_kinds D_l_had D_l_take D_l_by_purse D_l_by_cards D_l_refused D_p_least_rides D_p_together D_p_apart b_list b_len v_p_least_rides h_p_least_rides v_p_together h_p_together v_p_apart h_p_apart KT KO2 KO4 KO5
end FR
open PySem PySem.W PyProof.Rows
set_option maxRecDepth 100000 in
set_option maxHeartbeats 0 in
theorem PySem.Challenge.cw_freerides_k14_who_is_refused_holds : PySem.Challenge.rw_freerides_k14_who_is_refused.Holds := by
  w_on; o_law; k_head; (case hw => w_witness2)
  k_fill
  refine LamX.walk_ofTs (l := PySem.Challenge.rw_freerides_k14_who_is_refused) (n := 63) (k := 15) (x := "script") (CX := fun _ => L2.CX0) rfl (by decide) rfl ⟨rfl, by decide, by decide⟩ (fun w h Y => PySem.W.km_in_of Y) ?F (fun _ _ _ _ _ h => h)
  case F =>
    intro w mg fa h Y KX G hmg
    have KK : FR.KeptAllX KX mg [("__init__", "Kept.__init__", FR.s_m_init)] := by
      refine' FR.keptAll_mk KX G ?zaC ?zpg ?zhd ?zpo ?zsa ?zmk ?zkc ?znC ?znS (FR.methL_cons ?za_0 ?zi_0 ?zl_0 ?zc_0 ?zk_0 trivial)
      (case zaC => k_is); (case zpg => k_is); (case zhd => k_is); (case zpo => k_is); (case zsa => k_is); (case zmk => k_is); (case zkc => k_is); (case znC => k_is); (case znS => k_is)
      (case za_0 => k_is); (case zi_0 => k_is); (case zl_0 => k_is); (case zc_0 => k_is); (case zk_0 => k_is)
    obtain ⟨C, T, mkC, kcC, F_m_init, _⟩ := KK
    have F3 : FR.TabAt3X KX mg "_law_by_cards" "_law_by_purse" "law" FR.s_l_by_cards FR.s_l_by_purse FR.s_l_law := by
      refine' FR.tabAt3_mk KX (FR.tabAt_one KX G (PySem.W.km_tabs_of Y) ?a_0 ?l_0 ?c_0 ?k_0 ?zlc_0 ?zvp_0 ?zhc_0 ?zhn_0 ?zmem_0) (FR.tabAt_one KX G (PySem.W.km_tabs_of Y) ?a_1 ?l_1 ?c_1 ?k_1 ?zlc_1 ?zvp_1 ?zhc_1 ?zhn_1 ?zmem_1) (FR.tabAt_one KX G (PySem.W.km_tabs_of Y) ?a_2 ?l_2 ?c_2 ?k_2 ?zlc_2 ?zvp_2 ?zhc_2 ?zhn_2 ?zmem_2) ?zd1 ?zd2 ?zd3
      (case a_0 => k_is); (case l_0 => k_is); (case c_0 => k_is); (case k_0 => k_is); (case zlc_0 => k_is); (case zvp_0 => exact rfl); (case zhc_0 => kernel_rfl); (case zhn_0 => kernel_rfl); (case zmem_0 => k_mem)
      (case a_1 => k_is); (case l_1 => k_is); (case c_1 => k_is); (case k_1 => k_is); (case zlc_1 => k_is); (case zvp_1 => exact rfl); (case zhc_1 => kernel_rfl); (case zhn_1 => kernel_rfl); (case zmem_1 => k_mem)
      (case a_2 => k_is); (case l_2 => k_is); (case c_2 => k_is); (case k_2 => k_is); (case zlc_2 => k_is); (case zvp_2 => exact rfl); (case zhc_2 => kernel_rfl); (case zhn_2 => kernel_rfl); (case zmem_2 => k_mem)
      (case zd1 => decide); (case zd2 => decide); (case zd3 => decide)
    obtain ⟨c_l_by_cards, P_l_by_cards, c_l_by_purse, P_l_by_purse, c_l_law, P_l_law, F_l_by_cards, F_l_by_purse, F_l_law, hne⟩ := F3
    have F_p_is_within : FR.FunAtX KX mg "is_within" FR.s_p_is_within := by
      refine' FR.funAt_mk KX G ?a ?l ?c ?k
      (case a => k_is); (case l => k_is); (case c => k_is); (case k => k_is)
    have F_p_are_cards : FR.FunAtX KX mg "are_cards" FR.s_p_are_cards := by
      refine' FR.funAt_mk KX G ?a ?l ?c ?k
      (case a => k_is); (case l => k_is); (case c => k_is); (case k => k_is)
    have F_p_refuse_no_cards : FR.FunAtX KX mg "refuse_no_cards" FR.s_p_refuse_no_cards := by
      refine' FR.funAt_mk KX G ?a ?l ?c ?k
      (case a => k_is); (case l => k_is); (case c => k_is); (case k => k_is)
    have F_p_are_stamps : FR.FunAtX KX mg "are_stamps" FR.s_p_are_stamps := by
      refine' FR.funAt_mk KX G ?a ?l ?c ?k
      (case a => k_is); (case l => k_is); (case c => k_is); (case k => k_is)
    have F_p_refuse_no_stamps : FR.FunAtX KX mg "refuse_no_stamps" FR.s_p_refuse_no_stamps := by
      refine' FR.funAt_mk KX G ?a ?l ?c ?k
      (case a => k_is); (case l => k_is); (case c => k_is); (case k => k_is)
    have F_p_period_of : FR.FunAtX KX mg "period_of" FR.s_p_period_of := by
      refine' FR.funAt_mk KX G ?a ?l ?c ?k
      (case a => k_is); (case l => k_is); (case c => k_is); (case k => k_is)
    have F_p_period_pays : FR.FunAtX KX mg "period_pays" FR.s_p_period_pays := by
      refine' FR.funAt_mk KX G ?a ?l ?c ?k
      (case a => k_is); (case l => k_is); (case c => k_is); (case k => k_is)
    have F_p_full_cards : FR.FunAtX KX mg "full_cards" FR.s_p_full_cards := by
      refine' FR.funAt_mk KX G ?a ?l ?c ?k
      (case a => k_is); (case l => k_is); (case c => k_is); (case k => k_is)
    have F_p_rides_wanted : FR.FunAtX KX mg "rides_wanted" FR.s_p_rides_wanted := by
      refine' FR.funAt_mk KX G ?a ?l ?c ?k
      (case a => k_is); (case l => k_is); (case c => k_is); (case k => k_is)
    have F_p_least_endless : FR.FunAtX KX mg "least_endless" FR.s_p_least_endless := by
      refine' FR.funAt_mk KX G ?a ?l ?c ?k
      (case a => k_is); (case l => k_is); (case c => k_is); (case k => k_is)
    have F_l_draws : FR.FunAtX KX mg "_law_draws" FR.s_l_draws := by
      refine' FR.funAt_mk KX G ?a ?l ?c ?k
      (case a => k_is); (case l => k_is); (case c => k_is); (case k => k_is)
    have F_l_cell_at : FR.FunAtX KX mg "_law_cell_at" FR.s_l_cell_at := by
      refine' FR.funAt_mk KX G ?a ?l ?c ?k
      (case a => k_is); (case l => k_is); (case c => k_is); (case k => k_is)
    have F_l_bag : FR.FunAtX KX mg "_law_bag" FR.s_l_bag := by
      refine' FR.funAt_mk KX G ?a ?l ?c ?k
      (case a => k_is); (case l => k_is); (case c => k_is); (case k => k_is)
    have F_l_bags : FR.FunAtX KX mg "_law_bags" FR.s_l_bags := by
      refine' FR.funAt_mk KX G ?a ?l ?c ?k
      (case a => k_is); (case l => k_is); (case c => k_is); (case k => k_is)
    have F_l_take : FR.FunAtX KX mg "_law_take" FR.s_l_take := by
      refine' FR.funAt_mk KX G ?a ?l ?c ?k
      (case a => k_is); (case l => k_is); (case c => k_is); (case k => k_is)
    have F_l_kinds : FR.FunAtX KX mg "_law_kinds" FR.s_l_kinds := by
      refine' FR.funAt_mk KX G ?a ?l ?c ?k
      (case a => k_is); (case l => k_is); (case c => k_is); (case k => k_is)
    have F_l_far_draw : FR.FunAtX KX mg "_law_far_draw" FR.s_l_far_draw := by
      refine' FR.funAt_mk KX G ?a ?l ?c ?k
      (case a => k_is); (case l => k_is); (case c => k_is); (case k => k_is)
    have F_l_stamps_for : FR.FunAtX KX mg "_law_stamps_for" FR.s_l_stamps_for := by
      refine' FR.funAt_mk KX G ?a ?l ?c ?k
      (case a => k_is); (case l => k_is); (case c => k_is); (case k => k_is)
    have F_l_had : FR.FunAtX KX mg "_law_had" FR.s_l_had := by
      refine' FR.funAt_mk KX G ?a ?l ?c ?k
      (case a => k_is); (case l => k_is); (case c => k_is); (case k => k_is)
    have F_p_purse_fits : FR.FunAtX KX mg "purse_fits" FR.s_p_purse_fits := by
      refine' FR.funAt_mk KX G ?a ?l ?c ?k
      (case a => k_is); (case l => k_is); (case c => k_is); (case k => k_is)
    have F_p_refuse_no_purse : FR.FunAtX KX mg "refuse_no_purse" FR.s_p_refuse_no_purse := by
      refine' FR.funAt_mk KX G ?a ?l ?c ?k
      (case a => k_is); (case l => k_is); (case c => k_is); (case k => k_is)
    have F_p_most_by_shares : FR.FunAtX KX mg "most_by_shares" FR.s_p_most_by_shares := by
      refine' FR.funAt_mk KX G ?a ?l ?c ?k
      (case a => k_is); (case l => k_is); (case c => k_is); (case k => k_is)
    have F_p_pays_back : FR.FunAtX KX mg "pays_back" FR.s_p_pays_back := by
      refine' FR.funAt_mk KX G ?a ?l ?c ?k
      (case a => k_is); (case l => k_is); (case c => k_is); (case k => k_is)
    have F_p_greatest : FR.FunAtX KX mg "greatest" FR.s_p_greatest := by
      refine' FR.funAt_mk KX G ?a ?l ?c ?k
      (case a => k_is); (case l => k_is); (case c => k_is); (case k => k_is)
    have F_p_rides_in_all : FR.FunAtX KX mg "rides_in_all" FR.s_p_rides_in_all := by
      refine' FR.funAt_mk KX G ?a ?l ?c ?k
      (case a => k_is); (case l => k_is); (case c => k_is); (case k => k_is)
    have F_p_left : FR.FunAtX KX mg "left" FR.s_p_left := by
      refine' FR.funAt_mk KX G ?a ?l ?c ?k
      (case a => k_is); (case l => k_is); (case c => k_is); (case k => k_is)
    have F_p_all_rides : FR.FunAtX KX mg "all_rides" FR.s_p_all_rides := by
      refine' FR.funAt_mk KX G ?a ?l ?c ?k
      (case a => k_is); (case l => k_is); (case c => k_is); (case k => k_is)
    have F_l_refused : FR.FunAtX KX mg "_law_refused" FR.s_l_refused := by
      refine' FR.funAt_mk KX G ?a ?l ?c ?k
      (case a => k_is); (case l => k_is); (case c => k_is); (case k => k_is)
    have F_p_is_kind : FR.FunAtX KX mg "is_kind" FR.s_p_is_kind := by
      refine' FR.funAt_mk KX G ?a ?l ?c ?k
      (case a => k_is); (case l => k_is); (case c => k_is); (case k => k_is)
    have F_p_is_deed : FR.FunAtX KX mg "is_deed" FR.s_p_is_deed := by
      refine' FR.funAt_mk KX G ?a ?l ?c ?k
      (case a => k_is); (case l => k_is); (case c => k_is); (case k => k_is)
    have F_p_is_row : FR.FunAtX KX mg "is_row" FR.s_p_is_row := by
      refine' FR.funAt_mk KX G ?a ?l ?c ?k
      (case a => k_is); (case l => k_is); (case c => k_is); (case k => k_is)
    have F_p_refuse_no_row : FR.FunAtX KX mg "refuse_no_row" FR.s_p_refuse_no_row := by
      refine' FR.funAt_mk KX G ?a ?l ?c ?k
      (case a => k_is); (case l => k_is); (case c => k_is); (case k => k_is)
    have F_p_after_ride : FR.FunAtX KX mg "after_ride" FR.s_p_after_ride := by
      refine' FR.funAt_mk KX G ?a ?l ?c ?k
      (case a => k_is); (case l => k_is); (case c => k_is); (case k => k_is)
    have F_p_after_giving : FR.FunAtX KX mg "after_giving" FR.s_p_after_giving := by
      refine' FR.funAt_mk KX G ?a ?l ?c ?k
      (case a => k_is); (case l => k_is); (case c => k_is); (case k => k_is)
    have F_p_after_deed : FR.FunAtX KX mg "after_deed" FR.s_p_after_deed := by
      refine' FR.funAt_mk KX G ?a ?l ?c ?k
      (case a => k_is); (case l => k_is); (case c => k_is); (case k => k_is)
    have F_p_behind : FR.FunAtX KX mg "behind" FR.s_p_behind := by
      refine' FR.funAt_mk KX G ?a ?l ?c ?k
      (case a => k_is); (case l => k_is); (case c => k_is); (case k => k_is)
    have F_p_refuse_no_number : FR.FunAtX KX mg "refuse_no_number" FR.s_p_refuse_no_number := by
      refine' FR.funAt_mk KX G ?a ?l ?c ?k
      (case a => k_is); (case l => k_is); (case c => k_is); (case k => k_is)
    have F_p_least_rides : FR.FunAtX KX mg "least_rides" FR.s_p_least_rides := by
      refine' FR.funAt_mk KX G ?a ?l ?c ?k
      (case a => k_is); (case l => k_is); (case c => k_is); (case k => k_is)
    have F_p_least_loan : FR.FunAtX KX mg "least_loan" FR.s_p_least_loan := by
      refine' FR.funAt_mk KX G ?a ?l ?c ?k
      (case a => k_is); (case l => k_is); (case c => k_is); (case k => k_is)
    have F_p_can_have : FR.FunAtX KX mg "can_have" FR.s_p_can_have := by
      refine' FR.funAt_mk KX G ?a ?l ?c ?k
      (case a => k_is); (case l => k_is); (case c => k_is); (case k => k_is)
    have F_p_are_purses : FR.FunAtX KX mg "are_purses" FR.s_p_are_purses := by
      refine' FR.funAt_mk KX G ?a ?l ?c ?k
      (case a => k_is); (case l => k_is); (case c => k_is); (case k => k_is)
    have F_p_refuse_no_purses : FR.FunAtX KX mg "refuse_no_purses" FR.s_p_refuse_no_purses := by
      refine' FR.funAt_mk KX G ?a ?l ?c ?k
      (case a => k_is); (case l => k_is); (case c => k_is); (case k => k_is)
    have F_p_put_together : FR.FunAtX KX mg "put_together" FR.s_p_put_together := by
      refine' FR.funAt_mk KX G ?a ?l ?c ?k
      (case a => k_is); (case l => k_is); (case c => k_is); (case k => k_is)
    have F_p_together : FR.FunAtX KX mg "together" FR.s_p_together := by
      refine' FR.funAt_mk KX G ?a ?l ?c ?k
      (case a => k_is); (case l => k_is); (case c => k_is); (case k => k_is)
    have F_p_apart : FR.FunAtX KX mg "apart" FR.s_p_apart := by
      refine' FR.funAt_mk KX G ?a ?l ?c ?k
      (case a => k_is); (case l => k_is); (case c => k_is); (case k => k_is)
    have F_p_is_purse : FR.FunAtX KX mg "is_purse" FR.s_p_is_purse := by
      refine' FR.funAt_mk KX G ?a ?l ?c ?k
      (case a => k_is); (case l => k_is); (case c => k_is); (case k => k_is)
    have b_isinstance : mg "isinstance" = none := by
      refine' PySem.W.mg_none_of KX G ?z
      (case z => k_is)
    have b_int : mg "int" = none := by
      refine' PySem.W.mg_none_of KX G ?z
      (case z => k_is)
    have b_bool : mg "bool" = none := by
      refine' PySem.W.mg_none_of KX G ?z
      (case z => k_is)
    have b_len : mg "len" = none := by
      refine' PySem.W.mg_none_of KX G ?z
      (case z => k_is)
    have b_tuple : mg "tuple" = none := by
      refine' PySem.W.mg_none_of KX G ?z
      (case z => k_is)
    have b_all : mg "all" = none := by
      refine' PySem.W.mg_none_of KX G ?z
      (case z => k_is)
    have b_sum : mg "sum" = none := by
      refine' PySem.W.mg_none_of KX G ?z
      (case z => k_is)
    have b_zip : mg "zip" = none := by
      refine' PySem.W.mg_none_of KX G ?z
      (case z => k_is)
    have b_range : mg "range" = none := by
      refine' PySem.W.mg_none_of KX G ?z
      (case z => k_is)
    have b_max : mg "max" = none := by
      refine' PySem.W.mg_none_of KX G ?z
      (case z => k_is)
    have b_min : mg "min" = none := by
      refine' PySem.W.mg_none_of KX G ?z
      (case z => k_is)
    have b_ValueError : mg "ValueError" = none := by
      refine' PySem.W.mg_none_of KX G ?z
      (case z => k_is)
    have b_str : mg "str" = none := by
      refine' PySem.W.mg_none_of KX G ?z
      (case z => k_is)
    have b_list : mg "list" = none := by
      refine' PySem.W.mg_none_of KX G ?z
      (case z => k_is)
    have g_MOST_KINDS : ∃ t, mg "MOST_KINDS" = some (.int 3 t) := by
      refine' FR.glob_mk KX G ?z ?e
      (case z => k_is); (case e => exact ⟨_, rfl⟩)
    have g_MOST_FULL : ∃ t, mg "MOST_FULL" = some (.int 20 t) := by
      refine' FR.glob_mk KX G ?z ?e
      (case z => k_is); (case e => exact ⟨_, rfl⟩)
    have g_LEAST_FULL : ∃ t, mg "LEAST_FULL" = some (.int 2 t) := by
      refine' FR.glob_mk KX G ?z ?e
      (case z => k_is); (case e => exact ⟨_, rfl⟩)
    have g_MOST : ∃ t, mg "MOST" = some (.int 1000000000000000000 t) := by
      refine' FR.glob_mk KX G ?z ?e
      (case z => k_is); (case e => exact ⟨_, rfl⟩)
    have g_MOST_DEEDS : ∃ t, mg "MOST_DEEDS" = some (.int 100 t) := by
      refine' FR.glob_mk KX G ?z ?e
      (case z => k_is); (case e => exact ⟨_, rfl⟩)
    have g_MOST_PURSES : ∃ t, mg "MOST_PURSES" = some (.int 8 t) := by
      refine' FR.glob_mk KX G ?z ?e
      (case z => k_is); (case e => exact ⟨_, rfl⟩)
    have g_RIDE : ∃ t, mg "RIDE" = some (.str "ride" t) := by
      refine' FR.sglob_mk KX G ?z ?e
      (case z => k_is); (case e => exact ⟨_, rfl⟩)
    have T_NoCards : FR.ExcAtX KX mg "NoCards" := by
      refine' FR.excT_mk KX G ?a ?x ?k ?s ?t
      (case a => k_is); (case x => k_exc); (case k => k_is); (case s => k_is); (case t => k_is)
    have T_NoStamps : FR.ExcAtX KX mg "NoStamps" := by
      refine' FR.excT_mk KX G ?a ?x ?k ?s ?t
      (case a => k_is); (case x => k_exc); (case k => k_is); (case s => k_is); (case t => k_is)
    have T_NoPurse : FR.ExcAtX KX mg "NoPurse" := by
      refine' FR.excT_mk KX G ?a ?x ?k ?s ?t
      (case a => k_is); (case x => k_exc); (case k => k_is); (case s => k_is); (case t => k_is)
    have T_NoRow : FR.ExcAtX KX mg "NoRow" := by
      refine' FR.excT_mk KX G ?a ?x ?k ?s ?t
      (case a => k_is); (case x => k_exc); (case k => k_is); (case s => k_is); (case t => k_is)
    have T_NoNumber : FR.ExcAtX KX mg "NoNumber" := by
      refine' FR.excT_mk KX G ?a ?x ?k ?s ?t
      (case a => k_is); (case x => k_exc); (case k => k_is); (case s => k_is); (case t => k_is)
    have T_NoPurses : FR.ExcAtX KX mg "NoPurses" := by
      refine' FR.excT_mk KX G ?a ?x ?k ?s ?t
      (case a => k_is); (case x => k_exc); (case k => k_is); (case s => k_is); (case t => k_is)
    have KA : FR.KinAtX KX mg [0, 1, 2, 4, 5] := by
      refine' FR.kinAt_mk KX (FR.kin_mk KX G ?a0 ?a1 ?a2 ?a3 ?a4 ?a5 ?a6 ?a7 ?a8 ?a9 ?a10 ?atf ?ard) (FR.kinL_cons (FR.kinOf_mk (i := 0) (by decide) ?hc_0 ?hg_0 ?hk_0 ?hs_0 ?hd_0 ?ha_0 ?hn_0 ?ht_0 ?hm_0 ?me_0 ?sv_0 ?d0_0 ?t0_0 ?s0_0 ?d1_0 ?t1_0 ?s1_0 ?d2_0 ?t2_0 ?s2_0 ?d3_0 ?t3_0 ?s3_0 ?d4_0 ?t4_0 ?s4_0 ?d5_0 ?t5_0 ?s5_0 ?d6_0 ?t6_0 ?s6_0 ?d7_0 ?t7_0 ?s7_0 ?d8_0 ?t8_0 ?s8_0 ?d9_0 ?t9_0 ?s9_0 ?d10_0 ?t10_0 ?s10_0 ?dtf_0 ?ttf_0 ?btf_0 ?stf_0 ?drd_0 ?trd_0 ?brd_0 ?srd_0) (FR.kinL_cons (FR.kinOf_mk (i := 1) (by decide) ?hc_1 ?hg_1 ?hk_1 ?hs_1 ?hd_1 ?ha_1 ?hn_1 ?ht_1 ?hm_1 ?me_1 ?sv_1 ?d0_1 ?t0_1 ?s0_1 ?d1_1 ?t1_1 ?s1_1 ?d2_1 ?t2_1 ?s2_1 ?d3_1 ?t3_1 ?s3_1 ?d4_1 ?t4_1 ?s4_1 ?d5_1 ?t5_1 ?s5_1 ?d6_1 ?t6_1 ?s6_1 ?d7_1 ?t7_1 ?s7_1 ?d8_1 ?t8_1 ?s8_1 ?d9_1 ?t9_1 ?s9_1 ?d10_1 ?t10_1 ?s10_1 ?dtf_1 ?ttf_1 ?btf_1 ?stf_1 ?drd_1 ?trd_1 ?brd_1 ?srd_1) (FR.kinL_cons (FR.kinOf_mk (i := 2) (by decide) ?hc_2 ?hg_2 ?hk_2 ?hs_2 ?hd_2 ?ha_2 ?hn_2 ?ht_2 ?hm_2 ?me_2 ?sv_2 ?d0_2 ?t0_2 ?s0_2 ?d1_2 ?t1_2 ?s1_2 ?d2_2 ?t2_2 ?s2_2 ?d3_2 ?t3_2 ?s3_2 ?d4_2 ?t4_2 ?s4_2 ?d5_2 ?t5_2 ?s5_2 ?d6_2 ?t6_2 ?s6_2 ?d7_2 ?t7_2 ?s7_2 ?d8_2 ?t8_2 ?s8_2 ?d9_2 ?t9_2 ?s9_2 ?d10_2 ?t10_2 ?s10_2 ?dtf_2 ?ttf_2 ?btf_2 ?stf_2 ?drd_2 ?trd_2 ?brd_2 ?srd_2) (FR.kinL_cons (FR.kinOf_mk (i := 4) (by decide) ?hc_4 ?hg_4 ?hk_4 ?hs_4 ?hd_4 ?ha_4 ?hn_4 ?ht_4 ?hm_4 ?me_4 ?sv_4 ?d0_4 ?t0_4 ?s0_4 ?d1_4 ?t1_4 ?s1_4 ?d2_4 ?t2_4 ?s2_4 ?d3_4 ?t3_4 ?s3_4 ?d4_4 ?t4_4 ?s4_4 ?d5_4 ?t5_4 ?s5_4 ?d6_4 ?t6_4 ?s6_4 ?d7_4 ?t7_4 ?s7_4 ?d8_4 ?t8_4 ?s8_4 ?d9_4 ?t9_4 ?s9_4 ?d10_4 ?t10_4 ?s10_4 ?dtf_4 ?ttf_4 ?btf_4 ?stf_4 ?drd_4 ?trd_4 ?brd_4 ?srd_4) (FR.kinL_cons (FR.kinOf_mk (i := 5) (by decide) ?hc_5 ?hg_5 ?hk_5 ?hs_5 ?hd_5 ?ha_5 ?hn_5 ?ht_5 ?hm_5 ?me_5 ?sv_5 ?d0_5 ?t0_5 ?s0_5 ?d1_5 ?t1_5 ?s1_5 ?d2_5 ?t2_5 ?s2_5 ?d3_5 ?t3_5 ?s3_5 ?d4_5 ?t4_5 ?s4_5 ?d5_5 ?t5_5 ?s5_5 ?d6_5 ?t6_5 ?s6_5 ?d7_5 ?t7_5 ?s7_5 ?d8_5 ?t8_5 ?s8_5 ?d9_5 ?t9_5 ?s9_5 ?d10_5 ?t10_5 ?s10_5 ?dtf_5 ?ttf_5 ?btf_5 ?stf_5 ?drd_5 ?trd_5 ?brd_5 ?srd_5) FR.kinL_nil)))))
      (case a0 => k_is); (case a1 => k_is); (case a2 => k_is); (case a3 => k_is); (case a4 => k_is); (case a5 => k_is); (case a6 => k_is); (case a7 => k_is); (case a8 => k_is); (case a9 => k_is); (case a10 => k_is); (case atf => k_is); (case ard => k_is)
      (case hc_0 => exact rfl)
      (case hg_0 => k_is); (case hk_0 => k_is); (case hs_0 => k_is); (case hd_0 => k_is); (case ha_0 => k_is); (case hn_0 => k_is); (case ht_0 => k_is); (case hm_0 => k_is); (case me_0 => k_is); (case sv_0 => k_is); (case d0_0 => k_is); (case t0_0 => k_is); (case s0_0 => k_is); (case d1_0 => k_is); (case t1_0 => k_is); (case s1_0 => k_is); (case d2_0 => k_is); (case t2_0 => k_is); (case s2_0 => k_is); (case d3_0 => k_is); (case t3_0 => k_is); (case s3_0 => k_is); (case d4_0 => k_is); (case t4_0 => k_is); (case s4_0 => k_is); (case d5_0 => k_is); (case t5_0 => k_is); (case s5_0 => k_is); (case d6_0 => k_is); (case t6_0 => k_is); (case s6_0 => k_is); (case d7_0 => k_is); (case t7_0 => k_is); (case s7_0 => k_is); (case d8_0 => k_is); (case t8_0 => k_is); (case s8_0 => k_is); (case d9_0 => k_is); (case t9_0 => k_is); (case s9_0 => k_is); (case d10_0 => k_is); (case t10_0 => k_is); (case s10_0 => k_is); (case dtf_0 => k_is); (case ttf_0 => k_is); (case btf_0 => k_is); (case stf_0 => k_is); (case drd_0 => k_is); (case trd_0 => k_is); (case brd_0 => k_is); (case srd_0 => k_is)
      (case hc_1 => exact rfl)
      (case hg_1 => k_is); (case hk_1 => k_is); (case hs_1 => k_is); (case hd_1 => k_is); (case ha_1 => k_is); (case hn_1 => k_is); (case ht_1 => k_is); (case hm_1 => k_is); (case me_1 => k_is); (case sv_1 => k_is); (case d0_1 => k_is); (case t0_1 => k_is); (case s0_1 => k_is); (case d1_1 => k_is); (case t1_1 => k_is); (case s1_1 => k_is); (case d2_1 => k_is); (case t2_1 => k_is); (case s2_1 => k_is); (case d3_1 => k_is); (case t3_1 => k_is); (case s3_1 => k_is); (case d4_1 => k_is); (case t4_1 => k_is); (case s4_1 => k_is); (case d5_1 => k_is); (case t5_1 => k_is); (case s5_1 => k_is); (case d6_1 => k_is); (case t6_1 => k_is); (case s6_1 => k_is); (case d7_1 => k_is); (case t7_1 => k_is); (case s7_1 => k_is); (case d8_1 => k_is); (case t8_1 => k_is); (case s8_1 => k_is); (case d9_1 => k_is); (case t9_1 => k_is); (case s9_1 => k_is); (case d10_1 => k_is); (case t10_1 => k_is); (case s10_1 => k_is); (case dtf_1 => k_is); (case ttf_1 => k_is); (case btf_1 => k_is); (case stf_1 => k_is); (case drd_1 => k_is); (case trd_1 => k_is); (case brd_1 => k_is); (case srd_1 => k_is)
      (case hc_2 => exact rfl)
      (case hg_2 => k_is); (case hk_2 => k_is); (case hs_2 => k_is); (case hd_2 => k_is); (case ha_2 => k_is); (case hn_2 => k_is); (case ht_2 => k_is); (case hm_2 => k_is); (case me_2 => k_is); (case sv_2 => k_is); (case d0_2 => k_is); (case t0_2 => k_is); (case s0_2 => k_is); (case d1_2 => k_is); (case t1_2 => k_is); (case s1_2 => k_is); (case d2_2 => k_is); (case t2_2 => k_is); (case s2_2 => k_is); (case d3_2 => k_is); (case t3_2 => k_is); (case s3_2 => k_is); (case d4_2 => k_is); (case t4_2 => k_is); (case s4_2 => k_is); (case d5_2 => k_is); (case t5_2 => k_is); (case s5_2 => k_is); (case d6_2 => k_is); (case t6_2 => k_is); (case s6_2 => k_is); (case d7_2 => k_is); (case t7_2 => k_is); (case s7_2 => k_is); (case d8_2 => k_is); (case t8_2 => k_is); (case s8_2 => k_is); (case d9_2 => k_is); (case t9_2 => k_is); (case s9_2 => k_is); (case d10_2 => k_is); (case t10_2 => k_is); (case s10_2 => k_is); (case dtf_2 => k_is); (case ttf_2 => k_is); (case btf_2 => k_is); (case stf_2 => k_is); (case drd_2 => k_is); (case trd_2 => k_is); (case brd_2 => k_is); (case srd_2 => k_is)
      (case hc_4 => exact rfl)
      (case hg_4 => k_is); (case hk_4 => k_is); (case hs_4 => k_is); (case hd_4 => k_is); (case ha_4 => k_is); (case hn_4 => k_is); (case ht_4 => k_is); (case hm_4 => k_is); (case me_4 => k_is); (case sv_4 => k_is); (case d0_4 => k_is); (case t0_4 => k_is); (case s0_4 => k_is); (case d1_4 => k_is); (case t1_4 => k_is); (case s1_4 => k_is); (case d2_4 => k_is); (case t2_4 => k_is); (case s2_4 => k_is); (case d3_4 => k_is); (case t3_4 => k_is); (case s3_4 => k_is); (case d4_4 => k_is); (case t4_4 => k_is); (case s4_4 => k_is); (case d5_4 => k_is); (case t5_4 => k_is); (case s5_4 => k_is); (case d6_4 => k_is); (case t6_4 => k_is); (case s6_4 => k_is); (case d7_4 => k_is); (case t7_4 => k_is); (case s7_4 => k_is); (case d8_4 => k_is); (case t8_4 => k_is); (case s8_4 => k_is); (case d9_4 => k_is); (case t9_4 => k_is); (case s9_4 => k_is); (case d10_4 => k_is); (case t10_4 => k_is); (case s10_4 => k_is); (case dtf_4 => k_is); (case ttf_4 => k_is); (case btf_4 => k_is); (case stf_4 => k_is); (case drd_4 => k_is); (case trd_4 => k_is); (case brd_4 => k_is); (case srd_4 => k_is)
      (case hc_5 => exact rfl)
      (case hg_5 => k_is); (case hk_5 => k_is); (case hs_5 => k_is); (case hd_5 => k_is); (case ha_5 => k_is); (case hn_5 => k_is); (case ht_5 => k_is); (case hm_5 => k_is); (case me_5 => k_is); (case sv_5 => k_is); (case d0_5 => k_is); (case t0_5 => k_is); (case s0_5 => k_is); (case d1_5 => k_is); (case t1_5 => k_is); (case s1_5 => k_is); (case d2_5 => k_is); (case t2_5 => k_is); (case s2_5 => k_is); (case d3_5 => k_is); (case t3_5 => k_is); (case s3_5 => k_is); (case d4_5 => k_is); (case t4_5 => k_is); (case s4_5 => k_is); (case d5_5 => k_is); (case t5_5 => k_is); (case s5_5 => k_is); (case d6_5 => k_is); (case t6_5 => k_is); (case s6_5 => k_is); (case d7_5 => k_is); (case t7_5 => k_is); (case s7_5 => k_is); (case d8_5 => k_is); (case t8_5 => k_is); (case s8_5 => k_is); (case d9_5 => k_is); (case t9_5 => k_is); (case s9_5 => k_is); (case d10_5 => k_is); (case t10_5 => k_is); (case s10_5 => k_is); (case dtf_5 => k_is); (case ttf_5 => k_is); (case btf_5 => k_is); (case stf_5 => k_is); (case drd_5 => k_is); (case trd_5 => k_is); (case brd_5 => k_is); (case srd_5 => k_is)
    obtain ⟨C, tf, rd, KT, KO0, KO1, KO2, KO4, KO5, _⟩ := KA
    obtain ⟨t_MOST_KINDS, g_MOST_KINDS⟩ := g_MOST_KINDS
    obtain ⟨t_MOST_FULL, g_MOST_FULL⟩ := g_MOST_FULL
    obtain ⟨t_LEAST_FULL, g_LEAST_FULL⟩ := g_LEAST_FULL
    obtain ⟨t_MOST, g_MOST⟩ := g_MOST
    obtain ⟨t_MOST_DEEDS, g_MOST_DEEDS⟩ := g_MOST_DEEDS
    obtain ⟨t_MOST_PURSES, g_MOST_PURSES⟩ := g_MOST_PURSES
    obtain ⟨t_RIDE, g_RIDE⟩ := g_RIDE
    obtain ⟨C_NoCards, T_NoCards⟩ := T_NoCards
    obtain ⟨C_NoStamps, T_NoStamps⟩ := T_NoStamps
    obtain ⟨C_NoPurse, T_NoPurse⟩ := T_NoPurse
    obtain ⟨C_NoRow, T_NoRow⟩ := T_NoRow
    obtain ⟨C_NoNumber, T_NoNumber⟩ := T_NoNumber
    obtain ⟨C_NoPurses, T_NoPurses⟩ := T_NoPurses
    exact FR.all_ok hmg F_p_is_within F_p_are_cards F_p_refuse_no_cards F_p_are_stamps F_p_refuse_no_stamps F_p_period_of F_p_period_pays F_p_full_cards F_p_rides_wanted F_p_least_endless F_l_draws F_l_cell_at F_l_bag F_l_bags F_l_take F_l_kinds F_l_far_draw F_l_stamps_for F_l_had F_p_purse_fits F_p_refuse_no_purse F_p_most_by_shares F_p_pays_back F_p_greatest F_p_rides_in_all F_p_left F_p_all_rides F_l_refused F_p_is_kind F_p_is_deed F_p_is_row F_p_refuse_no_row F_p_after_ride F_p_after_giving F_p_after_deed F_p_behind F_p_refuse_no_number F_p_least_rides F_p_least_loan F_p_can_have F_l_by_purse F_p_are_purses F_p_refuse_no_purses F_p_put_together F_p_together F_p_apart F_p_is_purse F_l_by_cards F_l_law hne T mkC kcC F_m_init b_isinstance b_int b_bool b_len b_tuple b_all b_sum b_zip b_range b_max b_min b_ValueError b_str b_list g_MOST_KINDS g_MOST_FULL g_LEAST_FULL g_MOST g_MOST_DEEDS g_MOST_PURSES g_RIDE T_NoCards T_NoStamps T_NoPurse T_NoRow T_NoNumber T_NoPurses KT KO0 KO1 KO2 KO4 KO5
