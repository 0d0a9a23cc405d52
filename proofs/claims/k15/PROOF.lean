import PyProof.Rows.All
import HandS.TupSets
import KE.KDictKeyed
import HandS.SetKeys
import Wide.All
import OpenK.AllK
import Wide.FinOn
import PyProof.EqAt
import PyProof.EqKinds
import PyProof.TupleCall
import HandS.Base
import HandS.Call
import HandS.List
import HandS.Comp
import HandS.Ends
import HandS.Iter
import HandS.Exc
import HandS.Words
import HandS.WordsList
import HandS.WordsExc
import HandS.Dict
import HandS.TupMul
import HandS.Conv
import HandS.IsInst
import KE.GoesMore
import KE.GoesEnum
import PyProof.EnumMake
import HandS.Zip
import HandS.Deep
import HandS.ExcIs
import HandS.HotCalls
import HandS.HeadHook1
import HandS.FStr
import PyProof.FactsAll.list_3
import HandS.Finally
import KE.KDictDisplayH
import HandS.Set
import HandS.Strs
import HandS.Style
import HandS.HeadHook2
import KE.KStateDown
import HandS.Head0
import HandS.Head1
import HandS.Head2
import HandS.HeadEnd
import HandS.Defaults
import PySem.Challenge.RW_gatehands_k15_small_tries_counted
set_option Elab.async false
set_option linter.all false
set_option maxRecDepth 100000
set_option maxHeartbeats 2000000

/-! Tables of sets, of any size: a slot is always found. -/
namespace Dl
open PySem L2
/-! ### the round i -> 5 i + 1 of a power of two -/
def five : Nat → Nat
  | 0 => 0
  | n + 1 => five n * 5 + 1
theorem five_four (n : Nat) : 4 * five n + 1 = 5 ^ n := by
  induction n with
  | zero => rfl
  | succ n ih =>
    show 4 * (five n * 5 + 1) + 1 = 5 ^ (n + 1)
    rw [Nat.pow_succ, ← ih]
    omega
theorem five_add (a : Nat) : ∀ b, five (a + b) = five a * 5 ^ b + five b
  | 0 => by simp [five]
  | b + 1 => by
    show five (a + b) * 5 + 1 = _
    rw [five_add a b, Nat.pow_succ]
    show _ = five a * (5 ^ b * 5) + (five b * 5 + 1)
    rw [Nat.add_mul, Nat.mul_assoc, Nat.add_assoc]
theorem five_odd (n : Nat) : five n % 2 = n % 2 := by
  induction n with
  | zero => rfl
  | succ n ih =>
    show (five n * 5 + 1) % 2 = (n + 1) % 2
    omega
theorem five_div : ∀ (e n : Nat), 2 ^ e ∣ five n → 2 ^ e ∣ n
  | 0, n, _ => by simp
  | e + 1, n, h => by
    have h2 : 2 ∣ five n := Nat.dvd_trans ⟨2 ^ e, by rw [Nat.pow_succ, Nat.mul_comm]⟩ h
    have hn : n % 2 = 0 := by rw [← five_odd n]; exact Nat.mod_eq_zero_of_dvd h2
    obtain ⟨k, rfl⟩ : ∃ k, n = k + k := ⟨n / 2, by omega⟩
    have e1 : five (k + k) = five k * (5 ^ k + 1) := by rw [five_add, Nat.mul_add, Nat.mul_one]
    have e2 : 5 ^ k + 1 = 2 * (2 * five k + 1) := by
      have := five_four k
      omega
    rw [e1, e2, Nat.pow_succ] at h
    have h3 : 2 ^ e * 2 ∣ (five k * (2 * five k + 1)) * 2 := by
      rw [show five k * (2 * (2 * five k + 1)) = (five k * (2 * five k + 1)) * 2 by rw [Nat.mul_left_comm, Nat.mul_comm 2]] at h
      exact h
    have h4 : 2 ^ e ∣ five k * (2 * five k + 1) := Nat.dvd_of_mul_dvd_mul_right (by decide) h3
    have co : Nat.Coprime (2 ^ e) (2 * five k + 1) := Nat.Coprime.pow_left e (by
      show Nat.gcd 2 (2 * five k + 1) = 1
      rw [Nat.gcd_rec]
      have : (2 * five k + 1) % 2 = 1 := by omega
      rw [this]
      rfl)
    have h5 := five_div e k (Nat.Coprime.dvd_of_dvd_mul_right co h4)
    rw [Nat.pow_succ]
    obtain ⟨c, hc⟩ := h5
    exact ⟨c, by rw [hc]; rw [Nat.mul_assoc, Nat.mul_comm 2 c, ← Nat.mul_assoc, Nat.mul_two]⟩
theorem lcgI_val (m i : Nat) : ∀ k, lcgI m i k % (m + 1) = (i * 5 ^ k + five k) % (m + 1)
  | 0 => by simp [lcgI, five]
  | k + 1 => by
    show (lcgI m i k * 5 + 1) % (m + 1) % (m + 1) = _
    rw [Nat.mod_mod, Nat.add_mod, Nat.mul_mod, lcgI_val m i k, ← Nat.mul_mod, ← Nat.add_mod, Nat.pow_succ]
    show _ = (i * (5 ^ k * 5) + (five k * 5 + 1)) % (m + 1)
    rw [Nat.add_mul, Nat.mul_assoc, Nat.add_assoc]
theorem lcgI_inj {m e i : Nat} (hm : m + 1 = 2 ^ e) {a d : Nat} (h : lcgI m i a % (m + 1) = lcgI m i (a + d) % (m + 1)) (hd : d ≤ m) : d = 0 := by
  rw [lcgI_val, lcgI_val] at h
  have e1 : i * 5 ^ (a + d) + five (a + d) = (i * 5 ^ a + five a) + 5 ^ a * (five d * (4 * i + 1)) := by
    have f := five_four d
    rw [Nat.add_comm a d, five_add, Nat.pow_add, ← f]
    generalize 5 ^ a = p
    generalize five d = x
    have : i * ((4 * x + 1) * p) = i * p + p * (x * (4 * i)) := by
      rw [Nat.add_mul, Nat.one_mul, Nat.mul_add, Nat.add_comm]
      congr 1
      simp only [Nat.mul_comm, Nat.mul_left_comm, Nat.mul_assoc]
    rw [this, Nat.mul_add x, Nat.mul_one, Nat.mul_add p, Nat.mul_comm x p]
    omega
  rw [e1] at h
  have h2 : (m + 1) ∣ 5 ^ a * (five d * (4 * i + 1)) := by
    have := Nat.sub_mod_eq_zero_of_mod_eq h.symm
    rw [Nat.add_sub_cancel_left] at this
    exact Nat.dvd_of_mod_eq_zero this
  rw [hm] at h2
  have co1 : Nat.Coprime (2 ^ e) (5 ^ a) := Nat.Coprime.pow e a (by decide)
  have co2 : Nat.Coprime (2 ^ e) (4 * i + 1) := Nat.Coprime.pow_left e (by
    show Nat.gcd 2 (4 * i + 1) = 1
    rw [Nat.gcd_rec]
    have : (4 * i + 1) % 2 = 1 := by omega
    rw [this]
    rfl)
  have h3 := five_div e d (Nat.Coprime.dvd_of_dvd_mul_right co2 (Nat.Coprime.dvd_of_dvd_mul_left co1 h2))
  rcases Nat.eq_zero_or_pos d with z | z
  · exact z
  · have := Nat.le_of_dvd z h3
    omega
/-- few slots taken: one of the first runs begins at a free one -/
theorem runs_free {m e : Nat} (hm : m + 1 = 2 ^ e) {b : Nat} (hb : b < 2 ^ 64) (ps : List Nat) (hl : ps.length ≤ m) : ∃ n, n ≤ 12 + ps.length ∧ runI m b n ∉ ps := by
  refine Classical.byContradiction fun hno => ?_
  have all : ∀ k, k ≤ ps.length → runI m b (12 + k) ∈ ps := fun k hk => Classical.byContradiction fun z => hno ⟨12 + k, by omega, z⟩
  have nd : ((List.range (ps.length + 1)).map fun k => runI m b (12 + k)).Nodup := by
    refine List.pairwise_map.mpr (List.Pairwise.imp_of_mem (fun {x y} hx hy hne he => hne ?_) List.nodup_range)
    have hx := List.mem_range.mp hx
    have hy := List.mem_range.mp hy
    rw [runI_tail hb, runI_tail hb] at he
    rcases Nat.le_total x y with q | q
    · obtain ⟨d, rfl⟩ : ∃ d, y = x + d := ⟨y - x, by omega⟩
      have := lcgI_inj hm (i := runI m b 12) (a := x) (d := d) (by rw [he]) (by omega)
      omega
    · obtain ⟨d, rfl⟩ : ∃ d, x = y + d := ⟨x - y, by omega⟩
      have := lcgI_inj hm (i := runI m b 12) (a := y) (d := d) (by rw [he]) (by omega)
      omega
  have := nat_nodup_len _ ps nd fun x hx => by
    obtain ⟨k, hk, rfl⟩ := List.mem_map.mp hx
    have := List.mem_range.mp hk
    exact all k (by omega)
  rw [List.length_map, List.length_range] at this
  omega

/-! ### a table in which every hash is found again -/
def Pw (m : Nat) : Prop := ∃ e, m + 1 = 2 ^ e ∧ 3 ≤ e
theorem Pw.odd {m : Nat} (h : Pw m) : m % 2 = 1 := by
  obtain ⟨e, h1, h2⟩ := h
  obtain ⟨k, rfl⟩ : ∃ k, e = k + 1 := ⟨e - 1, by omega⟩
  rw [Nat.pow_succ] at h1
  omega
theorem way_top (m : Nat) (h : Int) (k : Nat) : way m h k ≤ m := by
  have h0 : SetTable.bits h % (m + 1) ≤ m := Nat.le_of_lt_succ (Nat.mod_lt _ (Nat.succ_pos _))
  obtain ⟨r1, r2, _⟩ := runEnd_bd h0
  have q := nth_in (m := m) k (runAt m (SetTable.bits h % (m + 1)) (SetTable.bits h)) (by
    unfold runAt
    dsimp only
    omega)
  exact Nat.le_trans (Nat.le_add_right _ _) q
structure Tab (t : SetTable) (hs : List Int) : Prop where
  up : Ris t.place.toList
  nod : t.dummies = #[]
  len : t.place.size = hs.length
  pw : Pw t.mask
  top : ∀ x ∈ t.place.toList, x ≤ t.mask
  met : ∀ (i : Nat) (h : Int) (j : Nat), hs[i]? = some h → t.place.toList[i]? = some j → ∃ k, way t.mask h k = j ∧ ∀ c, c < k → way t.mask h c ∈ t.place.toList
section
variable {t : SetTable} {hs : List Int} {h : Int} {K : Nat}
theorem Tab.len' (T : Tab t hs) : t.place.toList.length = hs.length := by rw [Array.length_toList]; exact T.len
/-- where the way meets an empty slot first -/
theorem Tab.gap (T : Tab t hs) (hl : hs.length ≤ t.mask) (h : Int) : ∃ K, K ≤ 10 * (12 + hs.length) ∧ way t.mask h K ∉ t.place.toList ∧ ∀ c, c < K → way t.mask h c ∈ t.place.toList := by
  obtain ⟨e, he, _⟩ := T.pw
  obtain ⟨n, hn, hf⟩ := runs_free he (bits_lt h) t.place.toList (by rw [T.len']; exact hl)
  obtain ⟨k, hk, ek⟩ := run_nth t.mask (SetTable.bits h) n
  have hw : way t.mask h k = runI t.mask (SetTable.bits h) n := congrArg SetTable.Probe.j ek
  obtain ⟨K, q1, q2, q3⟩ := st_least (p := fun c => way t.mask h c ∉ t.place.toList) k (by rw [hw]; exact hf)
  rw [T.len'] at hn
  exact ⟨K, by omega, q2, fun c hc => Classical.byContradiction (q3 c hc)⟩
theorem Tab.ahead (T : Tab t hs) {i j : Nat} (hK : way t.mask h K ∉ t.place.toList) (hi : hs[i]? = some h) (hj : t.place.toList[i]? = some j) : ∃ c, c < K ∧ way t.mask h c = j := by
  obtain ⟨c, ec, hb⟩ := T.met i h j hi hj
  refine ⟨c, Nat.lt_of_not_le fun z => ?_, ec⟩
  rcases Nat.lt_or_eq_of_le z with y | y
  · exact hK (hb K y)
  · rw [y, ec] at hK
    exact hK (List.mem_of_getElem? hj)
/-- one more, at the first empty slot of its way -/
theorem Tab.put (T : Tab t hs) (hK : way t.mask h K ∉ t.place.toList) (hb : ∀ c, c < K → way t.mask h c ∈ t.place.toList) {p : Nat} (hp : p = SetTable.below t.place (way t.mask h K)) :
    p ≤ hs.length ∧ Tab (t.put (way t.mask h K)).1 (hs.take p ++ h :: hs.drop p) ∧ (t.put (way t.mask h K)).1.fill = hs.length + 1 := by
  generalize hj : way t.mask h K = j at hK hp ⊢
  have hjm : j ≤ t.mask := by rw [← hj]; exact way_top _ _ _
  have c1 := (below_cut T.up j).1
  rw [← hp] at c1
  have hpt : p ≤ t.place.toList.length := by rw [Array.length_toList]; exact c1
  have hph : p ≤ hs.length := by rw [← T.len']; exact hpt
  have hne : t.place[SetTable.below t.place j]? ≠ some j := fun z => hK (List.mem_of_getElem? (by rw [Array.getElem?_toList]; exact z))
  have pl : (t.put j).1.place.toList = t.place.toList.take p ++ j :: t.place.toList.drop p := by rw [hp]; exact put_place t j
  have size' : (t.put j).1.place.size = hs.length + 1 := by rw [← Array.length_toList, pl, len_ins _ hpt, T.len']
  have more : ∀ {x : Nat}, x ∈ t.place.toList → x ∈ (t.put j).1.place.toList := fun hx => by rw [pl]; exact mem_ins.2 (.inr hx)
  have dm := put_dm T.nod j
  refine ⟨hph, ⟨ris_insert T.up hne, dm, by rw [len_ins _ hph]; exact size', T.pw, fun x hx => ?_, fun i g q h1 h2 => ?_⟩, ?_⟩
  · rw [pl] at hx
    exact (mem_ins.1 hx).elim (fun z => by rw [z]; exact hjm) (T.top x)
  · show ∃ c, way t.mask g c = q ∧ ∀ c', c' < c → way t.mask g c' ∈ (t.put j).1.place.toList
    rw [tins_get hs hph] at h1
    rw [pl, tins_get _ hpt] at h2
    have old : ∀ n, hs[n]? = some g → t.place.toList[n]? = some q → ∃ c, way t.mask g c = q ∧ ∀ c', c' < c → way t.mask g c' ∈ (t.put j).1.place.toList := fun n a b => by
      obtain ⟨c, ec, hc⟩ := T.met n g q a b
      exact ⟨c, ec, fun c' z => more (hc c' z)⟩
    rcases Nat.lt_trichotomy i p with z | z | z
    · rw [if_pos z] at h1 h2
      exact old i h1 h2
    · rw [if_neg (by omega), if_pos z] at h1 h2
      cases h1
      cases h2
      exact ⟨K, hj, fun c' y => more (hb c' y)⟩
    · rw [if_neg (by omega), if_neg (by omega)] at h1 h2
      exact old (i - 1) h1 h2
  · show (t.put j).1.place.size + (t.put j).1.dummies.size = hs.length + 1
    rw [size', dm]
    rfl
end
/-! ### a table laid anew -/
section
variable {m : Nat}
theorem free_slot {ow : Array (Option Nat)} (hm : Pw m) (h : Int) {ps : List Nat} (hps : ∀ j, j ≤ m → oAt ow j ≠ none → j ∈ ps) (hl : ps.length ≤ m) :
    ∃ K, SetTable.layClean.free m ow (SetTable.turns m) (SetTable.bits h % (m + 1)) (SetTable.bits h) = some (way m h K) ∧ oAt ow (way m h K) = none ∧ ∀ c, c < K → oAt ow (way m h c) ≠ none := by
  obtain ⟨e, he, _⟩ := hm
  obtain ⟨n, hn, hf⟩ := runs_free he (bits_lt h) ps hl
  have hw : way m h (off m (SetTable.bits h % (m + 1)) (SetTable.bits h) n) = runI m (SetTable.bits h) n := by
    refine (congrArg SetTable.Probe.j (nth_off m n _ _)).trans ?_
    rw [itL_run]
    rfl
  have hfree : oAt ow (way m h (off m (SetTable.bits h % (m + 1)) (SetTable.bits h) n)) = none := by
    rw [hw]
    exact Classical.byContradiction fun z => hf (hps _ (runI_le _ _ _) z)
  obtain ⟨K, q1, q2, q3⟩ := st_least (p := fun c => oAt ow (way m h c) = none) _ hfree
  refine ⟨K, free_spec m ow (SetTable.turns m) n _ _ K ?_ q1 (fun c hc => ?_) ?_, q2, q3⟩
  · unfold SetTable.turns
    omega
  · cases z : oAt ow (nth m (runAt m (SetTable.bits h % (m + 1)) (SetTable.bits h)) c).j with
    | none => exact absurd z (q3 c hc)
    | some _ => rfl
  · show (oAt ow (way m h K)).isNone = true
    rw [q2]
    rfl
theorem own_next (hm : Pw m) {dn : List Int} {ow : Array (Option Nat)} (W : Own m dn ow) (hl : dn.length ≤ m) (h : Int) :
    ∃ j, SetTable.layClean.free m ow (SetTable.turns m) (SetTable.bits h % (m + 1)) (SetTable.bits h) = some j ∧ Own m (dn ++ [h]) (ow.setIfInBounds j (some dn.length)) := by
  obtain ⟨ps, lp, inp⟩ := W.ps
  obtain ⟨K, q1, q2, q3⟩ := free_slot hm h inp (by omega)
  refine ⟨_, q1, ?_⟩
  have hj := way_top m h K
  generalize hjj : way m h K = j at q2 hj ⊢
  have hin : j < ow.size := by rw [W.sz]; omega
  have at1 := oAt_set_self (some dn.length) hin
  have at2 : ∀ {i : Nat}, i ≠ j → oAt (ow.setIfInBounds j (some dn.length)) i = oAt ow i := fun z => oAt_set_ne _ z
  have stay : ∀ {i : Nat}, oAt ow i ≠ none → oAt (ow.setIfInBounds j (some dn.length)) i ≠ none := fun {i} z y => by
    by_cases c : i = j
    · rw [c] at z; exact z q2
    · rw [at2 c] at y; exact z y
  refine ⟨by rw [Array.size_setIfInBounds]; exact W.sz, fun i k hi e => ?_, fun k hk => ?_, j :: ps, by simp [lp], fun i hi e => ?_⟩
  · by_cases c : i = j
    · rw [c, at1] at e
      cases e
      exact ⟨h, K, by simp, by rw [hjj, c], fun k' hk' => stay (q3 k' hk')⟩
    · rw [at2 c] at e
      obtain ⟨g, k', a1, a2, a3⟩ := W.at_ i k hi e
      exact ⟨g, k', by rw [List.getElem?_append_left (List.getElem?_eq_some_iff.mp a1).1]; exact a1, a2, fun c' hc' => stay (a3 c' hc')⟩
  · rw [List.length_append] at hk
    rcases Nat.lt_or_ge k dn.length with c | c
    · obtain ⟨i, hi, e⟩ := W.all k c
      exact ⟨i, hi, by rw [at2 fun z => by rw [z, q2] at e; cases e]; exact e⟩
    · have : k = dn.length := by simp at hk; omega
      rw [this]
      exact ⟨j, hj, at1⟩
  · by_cases c : i = j
    · rw [c]; exact List.mem_cons_self
    · rw [at2 c] at e
      exact List.mem_cons_of_mem _ (inp i hi e)
theorem own_all (hm : Pw m) : ∀ (rs dn : List Int) (ow : Array (Option Nat)), Own m dn ow → dn.length + rs.length ≤ m →
    ∃ ow', rs.foldl (stepF m) (some (ow, dn.length)) = some (ow', (dn ++ rs).length) ∧ Own m (dn ++ rs) ow'
  | [], dn, ow, W, _ => ⟨ow, by simp, by simpa using W⟩
  | h :: rs, dn, ow, W, hl => by
    rw [List.length_cons] at hl
    obtain ⟨j, e, W1⟩ := own_next hm W (by omega) h
    obtain ⟨ow', f, W2⟩ := own_all hm rs (dn ++ [h]) _ W1 (by simp; omega)
    have ea : dn ++ [h] ++ rs = dn ++ h :: rs := by simp
    rw [ea] at f W2
    refine ⟨ow', ?_, W2⟩
    rw [List.foldl_cons, stepF_some e]
    simpa using f
theorem clean_all (hm : Pw m) {hs : Array Int} (hn : hs.size ≤ m) : ∃ ow, SetTable.layClean m hs = some ow ∧ Own m hs.toList ow := by
  obtain ⟨ow, f, W⟩ := own_all hm hs.toList [] _ (Own.init m) (by simpa using hn)
  refine ⟨ow, ?_, by simpa using W⟩
  rw [layClean_eq]
  have f' : hs.toList.foldl (stepF m) (some (Array.replicate (m + 1) none, 0)) = some (ow, ([] ++ hs.toList).length) := f
  rw [f']
  rfl
theorem relaid_all (t : SetTable) {hs : Array Int} {wanted : Nat} (hw : SetTable.sizeAbove wanted - 1 = m) (hm : Pw m) (hn : hs.size ≤ m) :
    ∃ t' order, t.relaid hs wanted = some (t', order) ∧ order.toList.Perm (List.range hs.size) ∧ Tab t' (order.toList.map fun i => hs.getD i 0) ∧ t'.mask = m ∧ t'.led = t.led ∧ t'.plain = t.plain := by
  obtain ⟨ow, e, W⟩ := clean_all hm hn
  generalize hLv : liveOf m ow = Lv
  have mem : ∀ {j k : Nat}, (j, k) ∈ Lv ↔ j ≤ m ∧ oAt ow j = some k := fun {j k} => by rw [← hLv]; exact mem_live W.sz
  have hr : t.relaid hs wanted = some (tabOf t m ow, (Lv.map (·.2)).toArray) := by
    rw [relaid_eq, hw, e, ← hLv]
    rfl
  have rr := ris_live (fun j => ow.getD j none) (List.range (m + 1)) (by
    unfold Ris
    first | exact List.pairwise_lt_range | exact List.pairwise_lt_range _)
  have r1 : Ris (Lv.map (·.1)) := by rw [← hLv]; exact rr.1
  have r2 : ∀ x ∈ Lv.map (·.1), x ∈ List.range (m + 1) := by rw [← hLv]; exact rr.2
  have pl : (tabOf t m ow).place.toList = Lv.map (·.1) := by rw [← hLv]; rfl
  have cnt : Lv.length = hs.size := by
    obtain ⟨ps, p1, p2⟩ := W.ps
    have nd : (Lv.map (·.1)).Nodup := List.Pairwise.imp (fun h => Nat.ne_of_lt h) r1
    have a := nat_nodup_len _ ps nd fun x hx => by
      obtain ⟨⟨y, k⟩, hq, rfl⟩ := List.mem_map.mp hx
      obtain ⟨b1, b2⟩ := mem.1 hq
      exact p2 y b1 (by rw [b2]; exact fun z => nomatch z)
    have b := nat_nodup_len (List.range hs.size) (Lv.map (·.2)) List.nodup_range fun k hk => by
      obtain ⟨j, b1, b2⟩ := W.all k (by rw [Array.length_toList]; exact List.mem_range.mp hk)
      exact List.mem_map.mpr ⟨(j, k), mem.2 ⟨b1, b2⟩, rfl⟩
    have hz : hs.toList.length = hs.size := Array.length_toList
    rw [List.length_map, p1, hz] at a
    rw [List.length_map, List.length_range] at b
    omega
  refine ⟨_, _, hr, perm_range hs.size _ (by rw [List.length_map]; exact cnt) fun k hk => ?_, ⟨by rw [pl]; exact r1, rfl, ?_, hm, fun x hx => ?_, fun i h j h1 h2 => ?_⟩, rfl, rfl, rfl⟩
  · obtain ⟨j, b1, b2⟩ := W.all k (by rw [Array.length_toList]; exact hk)
    exact List.mem_map.mpr ⟨(j, k), mem.2 ⟨b1, b2⟩, rfl⟩
  · rw [← Array.length_toList, pl, List.length_map, List.length_map, List.length_map]
  · rw [pl] at hx
    exact Nat.le_of_lt_succ (List.mem_range.mp (r2 x hx))
  · rw [pl, List.getElem?_map] at h2
    have h1' : ((Lv.map (·.2)).map fun i => hs.getD i 0)[i]? = some h := h1
    rw [List.getElem?_map, List.getElem?_map] at h1'
    cases hq : Lv[i]? with
    | none => rw [hq] at h2; cases h2
    | some q =>
      obtain ⟨y, k⟩ := q
      rw [hq] at h1' h2
      cases h2
      obtain ⟨b1, b2⟩ := mem.1 (List.mem_of_getElem? hq)
      obtain ⟨g, K, a1, a2, a3⟩ := W.at_ y k b1 b2
      have eg : hs.getD k 0 = g := by
        rw [Array.getD_eq_getD_getElem?, ← Array.getElem?_toList, a1]
        rfl
      have : h = g := by
        have := Option.some.inj h1'
        rw [← this]
        exact eg
      subst this
      refine ⟨K, a2, fun c hc => ?_⟩
      show way m h c ∈ (tabOf t m ow).place.toList
      rw [pl]
      cases z : oAt ow (way m h c) with
      | none => exact absurd z (a3 c hc)
      | some k2 => exact List.mem_map.mpr ⟨(way m h c, k2), mem.2 ⟨way_top m h c, z⟩, rfl⟩
end
/-- the new table's size -/
theorem sizeGo (n : Nat) : ∀ (f e : Nat), 3 ≤ e → n < 2 ^ (e + f) → ∃ d, SetTable.sizeAbove.go n f (2 ^ e) = 2 ^ d ∧ e ≤ d ∧ n < 2 ^ d ∧ (d = e ∨ 2 ^ d ≤ 2 * n)
  | 0, e, he, h => ⟨e, rfl, Nat.le_refl _, h, .inl rfl⟩
  | f + 1, e, he, h => by
    unfold SetTable.sizeAbove.go
    by_cases c : 2 ^ e ≤ n
    · rw [if_pos c, ← Nat.pow_succ]
      obtain ⟨d, h1, h2, h3, h4⟩ := sizeGo n f (e + 1) (by omega) (by rw [show e + 1 + f = e + (f + 1) by omega]; exact h)
      refine ⟨d, h1, by omega, h3, .inr ?_⟩
      rcases h4 with z | z
      · rw [z, Nat.pow_succ]; omega
      · exact z
    · rw [if_neg c]
      exact ⟨e, rfl, Nat.le_refl _, by omega, .inl rfl⟩
theorem sizeAbove_pw {n : Nat} (h : n < 2 ^ 60) : ∃ d, SetTable.sizeAbove n = 2 ^ d ∧ 3 ≤ d ∧ n < 2 ^ d ∧ (d = 3 ∨ 2 ^ d ≤ 2 * n) :=
  sizeGo n 64 3 (by decide) (Nat.lt_of_lt_of_le h (Nat.pow_le_pow_right (by decide) (by decide)))
theorem Pw.size {n m : Nat} (h : n < 2 ^ 60) (hm : SetTable.sizeAbove n - 1 = m) : Pw m ∧ n ≤ m ∧ m + 1 = SetTable.sizeAbove n ∧ (SetTable.sizeAbove n = 8 ∨ SetTable.sizeAbove n ≤ 2 * n) := by
  obtain ⟨d, h1, h2, h3, h4⟩ := sizeAbove_pw h
  have hp : 0 < 2 ^ d := Nat.pow_pos (by decide)
  rw [h1] at hm ⊢
  refine ⟨⟨d, by omega, h2⟩, by omega, by omega, ?_⟩
  rcases h4 with z | z
  · subst z; exact .inl rfl
  · exact .inr z
end Dl

/-! Sets of nested tuples of ints. -/
namespace Dl
open PySem PySem.Spec PyProof.Rows L2
/-! ### keys without texts -/
mutual
def numK : NestedKey → Bool
  | .num _ => true
  | .tup ks => numKs ks
  | .none => false
  | .text _ => false
def numKs : List NestedKey → Bool
  | [] => true
  | k :: ks => numK k && numKs ks
end
section
variable {P : Program} {w : World}
def ClsAt (P : Program) (w : World) (n : Nat) (s : Shared) (v : Value) : Prop := ∀ (A : Around) (E : Value → Shared → Prop) (Q : Bool → Shared → Prop), Q false s → wpAny (model P w) A (ofAClassStatement n v) Q E s
def HvAt (P : Program) (w : World) (n : Nat) (s : Shared) (v : Value) : Prop := ∀ (A : Around) (E : Value → Shared → Prop) (Q : Bool → Shared → Prop), Q true s → wpAny (model P w) A (hashByValue n v) Q E s
theorem ClsAt.seq {n m : Nat} {s : Shared} {a : Addr} {o : Obj} {vs : Array Value} (ho : s.heap.get? a = some o) (hc : o.cls = .type "tuple") (hd : o.data = .seq vs m) (hq : ∀ v ∈ vs.toList, ClsAt P w n s v) : ClsAt P w (n + 1) s (.ref a) := fun A E Q h => by
  have hT : s.TypeIs (.ref a) "tuple" := ⟨o, ho, hc⟩
  unfold ofAClassStatement
  refine wpAny_bind (wpAny_typeOf hT ?_)
  dsimp only
  have e : (("tuple" : String) == "tuple") = true := by decide
  simp only [e, if_true, Bool.not_true, Bool.false_eq_true, if_false]
  show wpAny _ _ (seqItems? (.ref a) >>= _) _ _ s
  refine wpAny_bind (wpAny_seqItems ho hd (wpAny_bind ?_))
  show wpAny _ _ (forIn vs _ _) _ _ s
  rw [← Array.forIn_toList]
  refine wpAny_forIn_list _ (fun left r s' => r.1 = none ∧ s' = s ∧ ∀ v ∈ left, ClsAt P w n s v) _ (fun v left r s' ⟨hr, es, all⟩ => ?_) (fun r s' ⟨hr, es, _⟩ => ?_) _ _ ⟨rfl, rfl, hq⟩
  · refine wpAny_bind ?_
    rw [es]
    refine all v List.mem_cons_self _ _ _ ?_
    simp only [Bool.false_eq_true, if_false]
    exact wpAny_pure ⟨rfl, rfl, fun u hu => all u (List.mem_cons_of_mem _ hu)⟩
  · obtain ⟨r1, r2⟩ := r
    cases hr
    rw [es]
    exact wpAny_pure h
theorem HvAt.seq {n m : Nat} {s : Shared} {a : Addr} {o : Obj} {vs : Array Value} (ho : s.heap.get? a = some o) (hc : o.cls = .type "tuple") (hd : o.data = .seq vs m) (hq : ∀ v ∈ vs.toList, HvAt P w n s v) : HvAt P w (n + 1) s (.ref a) := fun A E Q h => by
  have hT : s.TypeIs (.ref a) "tuple" := ⟨o, ho, hc⟩
  unfold hashByValue
  refine wpAny_bind (wpAny_specialOf hT F.slot_tuple_hash.lookup ?_)
  show wpAny _ _ (seqItems? (.ref a) >>= _) _ _ s
  refine wpAny_bind (wpAny_seqItems ho hd (wpAny_bind ?_))
  show wpAny _ _ (forIn vs _ _) _ _ s
  rw [← Array.forIn_toList]
  refine wpAny_forIn_list _ (fun left r s' => r.1 = none ∧ s' = s ∧ ∀ v ∈ left, HvAt P w n s v) _ (fun v left r s' ⟨hr, es, all⟩ => ?_) (fun r s' ⟨hr, es, _⟩ => ?_) _ _ ⟨rfl, rfl, hq⟩
  · refine wpAny_bind ?_
    rw [es]
    refine all v List.mem_cons_self _ _ _ ?_
    simp only [Bool.not_true, Bool.false_eq_true, if_false]
    exact wpAny_pure ⟨rfl, rfl, fun u hu => all u (List.mem_cons_of_mem _ hu)⟩
  · obtain ⟨r1, r2⟩ := r
    cases hr
    rw [es]
    exact wpAny_pure h
mutual
theorem cls_key : ∀ (k : NestedKey) (v : Value) (n : Nat) (s : Shared), NestedIs s.heap k v → k.depth ≤ n → ClsAt P w n s v
  | .none, _, n, s, x, _ => fun A E Q h => by cases x; cases n <;> exact wpAny_pure h
  | .num i, _, n, s, x, _ => fun A E Q h => by cases x <;> cases n <;> exact wpAny_pure h
  | .text y, _, n, s, x, _ => fun A E Q h => by cases x; cases n <;> exact wpAny_pure h
  | .tup ks, _, n, s, x, hn => by
    cases x with
    | tup hg hc hd hk =>
      simp only [NestedKey.depth] at hn
      cases n with
      | zero => omega
      | succ n => exact .seq hg hc hd (cls_keys ks _ n s hk (by omega))
theorem cls_keys : ∀ (ks : List NestedKey) (vs : List Value) (n : Nat) (s : Shared), NestedAll s.heap ks vs → NestedKey.depthAll ks ≤ n → ∀ v ∈ vs, ClsAt P w n s v
  | [], _, n, s, x, _, v, hv => by cases x; cases hv
  | k :: ks, _, n, s, x, hn, v, hv => by
    cases x with
    | cons x1 x2 =>
      simp only [NestedKey.depthAll] at hn
      rcases List.mem_cons.mp hv with e | hv
      · rw [e]; exact cls_key k _ n s x1 (by omega)
      · exact cls_keys ks _ n s x2 (by omega) v hv
end
mutual
theorem hv_key : ∀ (k : NestedKey) (v : Value) (n : Nat) (s : Shared), NestedIs s.heap k v → numK k = true → k.depth ≤ n → HvAt P w n s v
  | .none, _, n, s, x, hn, _ => by simp [numK] at hn
  | .num i, _, n, s, x, _, _ => fun A E Q h => by cases x <;> cases n <;> exact wpAny_pure h
  | .text y, _, n, s, x, hn, _ => by simp [numK] at hn
  | .tup ks, _, n, s, x, hk', hn => by
    cases x with
    | tup hg hc hd hk =>
      simp only [NestedKey.depth] at hn
      cases n with
      | zero => omega
      | succ n => exact .seq hg hc hd (hv_keys ks _ n s hk (by simpa [numK] using hk') (by omega))
theorem hv_keys : ∀ (ks : List NestedKey) (vs : List Value) (n : Nat) (s : Shared), NestedAll s.heap ks vs → numKs ks = true → NestedKey.depthAll ks ≤ n → ∀ v ∈ vs, HvAt P w n s v
  | [], _, n, s, x, _, _, v, hv => by cases x; cases hv
  | k :: ks, _, n, s, x, hk, hn, v, hv => by
    cases x with
    | cons x1 x2 =>
      simp only [NestedKey.depthAll] at hn
      simp only [numKs, Bool.and_eq_true] at hk
      rcases List.mem_cons.mp hv with e | hv
      · rw [e]; exact hv_key k _ n s x1 hk.1 (by omega)
      · exact hv_keys ks _ n s x2 hk.2 (by omega) v hv
end
/-- a value that is a key -/
structure IsK (h : Heap) (k : NestedKey) (v : Value) : Prop where
  n : NestedIs h k v
  nk : numK k = true
  dp : k.depth ≤ 8
theorem seen_key {A : Around} {E : Value → Shared → Prop} {s : Shared} {k : NestedKey} {x : Value} {Q : Bool → Shared → Prop} (hx : IsK s.heap k x) {ys : List Value} (hy : ∀ y ∈ ys, ∃ k', IsK s.heap k' y) (h : Q false s) :
    wpAny (model P w) A (searchCouldBeSeen x ys) Q E s := by
  unfold searchCouldBeSeen
  refine wpAny_bind ?_
  refine wpAny_forIn_list _ (fun left r s' => r.1 = none ∧ s' = s ∧ ∀ y ∈ left, ∃ k', IsK s.heap k' y) _ (fun v left r s' ⟨hr, es, all⟩ => ?_) (fun r s' ⟨hr, es, _⟩ => ?_) _ _ ⟨rfl, rfl, hy⟩
  · obtain ⟨k', hv⟩ := all v List.mem_cons_self
    have all' : ∀ y ∈ left, ∃ k', IsK s.heap k' y := fun u hu => all u (List.mem_cons_of_mem _ hu)
    rw [es]
    dsimp only
    by_cases hb : ((match x, v with
      | .ref a, .ref b => a == b
      | _, _ => false) || (carriedByValue x && carriedByValue v)) = true
    · exact wp_if_pos hb (wpAny_pure ⟨rfl, rfl, all'⟩)
    · refine wp_if_neg hb ?_
      refine wpAny_bind (quiet_key k x 8 s hx.n hx.dp _ _ _ ?_)
      simp only [Bool.not_true, Bool.false_eq_true, if_false]
      refine wpAny_bind (quiet_key k' v 8 s hv.n hv.dp _ _ _ ?_)
      simp only [Bool.not_true, Bool.false_eq_true, if_false]
      refine wpAny_bind (cls_key k x 8 s hx.n hx.dp _ _ _ ?_)
      simp only [Bool.false_eq_true, if_false]
      refine wpAny_bind (cls_key k' v 8 s hv.n hv.dp _ _ _ ?_)
      simp only [Bool.false_eq_true, if_false]
      exact wpAny_pure ⟨rfl, rfl, all'⟩
  · obtain ⟨r1, r2⟩ := r
    cases hr
    rw [es]
    exact wpAny_pure h
end
/-! ### the set -/
abbrev KV := NestedKey × Value
def rowsK (w : World) (L : List KV) : List (Int × Value) := L.map fun x => (x.1.hash w, x.2)
abbrev hashK (w : World) (L : List KV) : List Int := L.map fun x => x.1.hash w
structure SetK (w : World) (h : Heap) (a : Addr) (L : List KV) (es : Array (Int × Value)) (ep : Nat) (t : SetTable) : Prop where
  ob : ∃ o, h.get? a = some o ∧ o.ExactSet ∧ o.data = .set es ep t
  rows : es.toList = rowsK w L
  tab : Tab t (hashK w L)
  nd : (L.map (·.1)).Nodup
  val : ∀ x ∈ L, IsK h x.1 x.2
  rf : ∀ x ∈ L, ∃ b, x.2 = .ref b
  plain : t.plain = true
  led : w.params.followText "set-order" = true ∨ t.led = true
  room : L.length * 5 < t.mask * 3
  few : L.length ≤ 9000
section
variable {P : Program} {w : World} {A : Around} {E : Value → Shared → Prop} {s : Shared} {a : Addr} {L : List KV} {es : Array (Int × Value)} {ep : Nat} {t : SetTable}
theorem SetK.size {h : Heap} (R : SetK w h a L es ep t) : es.size = L.length := by
  have z := congrArg List.length R.rows
  unfold rowsK at z
  rwa [Array.length_toList, List.length_map] at z
theorem SetK.fit {h : Heap} (R : SetK w h a L es ep t) : t.fits es.size = true := by
  have z1 := R.tab.len
  have z2 := R.size
  have z3 := R.room
  rw [List.length_map] at z1
  unfold SetTable.fits SetTable.fill
  rw [R.tab.nod, Bool.and_eq_true, beq_iff_eq, decide_eq_true_eq]
  show t.place.size = es.size ∧ t.place.size + 0 ≤ t.mask
  omega
theorem SetK.row {h : Heap} (R : SetK w h a L es ep t) {i : Nat} {p : KV} (e : L[i]? = some p) : es[i]? = some (p.1.hash w, p.2) := by
  rw [← Array.getElem?_toList, R.rows]
  unfold rowsK
  rw [List.getElem?_map, e]
  rfl
theorem SetK.stands {h : Heap} (R : SetK w h a L es ep t) : ¬ t.gaveWay = true := by
  unfold SetTable.gaveWay
  rw [R.tab.pw.odd]
  decide
abbrev wayP (m : Nat) (h : Int) (c : Nat) : SetTable.Probe := nth m (runAt m (SetTable.bits h % (m + 1)) (SetTable.bits h)) c
theorem wayP_dummy (m : Nat) (h : Int) (c : Nat) : (wayP m h c).dummy = none := by
  have z : ∀ (n : Nat) (p : SetTable.Probe), p.dummy = none → (nth m p n).dummy = none := fun n => by
    induction n with
    | zero => exact fun p q => q
    | succ n ih =>
      refine fun p q => ih (adv m p) ?_
      unfold adv
      split <;> exact q
  exact z c _ rfl
theorem wayP_add (m : Nat) (h : Int) (c d : Nat) : nth m (wayP m h c) d = wayP m h (c + d) := (nth_add m c _ d).symm
/-- the search, from the c-th place of the way on -/
theorem search_k (R : SetK w s.heap a L es ep t) {x : Value} {k : NestedKey} (hx : IsK s.heap k x) (hu : A.units + 8 < cLine) (ad : Bool) {K : Nat} (hKf : K < 10 * SetTable.turns t.mask)
    (hK : way t.mask (k.hash w) K ∉ t.place.toList) (hKb : ∀ c, c < K → way t.mask (k.hash w) c ∈ t.place.toList) {Q : SetFound → Shared → Prop}
    (hin : k ∈ L.map (·.1) → ∀ r : Option Nat, r.isSome = !ad → Q (.there r) s) (hout : k ∉ L.map (·.1) → Q (.free (way t.mask (k.hash w) K) false) s) :
    ∀ (f c : Nat) (st : Option SetTable.Probe), st.getD (t.probeStart (k.hash w)) = wayP t.mask (k.hash w) c → c ≤ K → K - c < f →
      (∀ (i : Nat) p, L[i]? = some p → p.1 = k → ∃ c', c ≤ c' ∧ c' < K ∧ t.place.toList[i]? = some (way t.mask (k.hash w) c')) →
      wpAny (model P w) A (setSearchFrom a x (k.hash w) ad f st) Q E s
  | 0, c, st, _, _, hf, _ => absurd hf (Nat.not_lt_zero _)
  | f + 1, c, st, hst, hc, hf, hre => by
    obtain ⟨o, ho, hex, hd⟩ := R.ob
    rw [setSearchFrom_succ]
    refine wpAny_bind (wpAny_setState_of ho hd R.fit ?_)
    dsimp only
    refine wp_if_neg R.stands ?_
    try refine wpAny_bind (wpAny_pure ?_)
    generalize hg : k.hash w = g at hst hK hKb hout hre ⊢
    have at1 : ∀ d, (nth t.mask (wayP t.mask g c) d).j = way t.mask g (c + d) := fun d => congrArg SetTable.Probe.j (wayP_add t.mask g c d)
    have stored : ∀ (i : Nat) p, L[i]? = some p → (fun i => (es[i]?.map (·.1)).getD 0) i = p.1.hash w := fun i p hp => by
      show (es[i]?.map (·.1)).getD 0 = _
      rw [R.row hp]
      rfl
    have spec := go_spec t R.tab.up R.tab.nod (fun i => (es[i]?.map (·.1)).getD 0) g (10 * SetTable.turns t.mask) (K - c) _ (wayP_dummy t.mask g c) (by omega)
      (fun d hd' => by rw [at1]; exact hKb (c + d) (by omega)) (by rw [at1, show c + (K - c) = K by omega]; exact hK)
    rcases spec with ⟨d, i, hdK, hi, hh, hno, hpr⟩ | ⟨hno, hpr⟩
    · rw [at1] at hi hpr
      rw [wayP_add] at hpr
      have hpr' : t.probe (fun i => (es[i]?.map (·.1)).getD 0) g (st.getD (t.probeStart g)) = some (.candidate (way t.mask g (c + d)) i (wayP t.mask g (c + (d + 1)))) := by rw [hst]; exact hpr
      rw [hpr']
      dsimp only
      have hil : i < L.length := by
        have z1 := (List.getElem?_eq_some_iff.mp hi).1
        have z2 := R.tab.len'
        rw [List.length_map] at z2
        omega
      obtain ⟨p, hp⟩ : ∃ p, L[i]? = some p := ⟨_, List.getElem?_eq_getElem hil⟩
      have hm : p ∈ L := List.mem_of_getElem? hp
      have hv := R.val p hm
      obtain ⟨b, hb⟩ := R.rf p hm
      have rest : wpAny (model P w) A (searchRest a x g ad f es t (way t.mask g (c + d)) i (wayP t.mask g (c + (d + 1)))) Q E s := by
        unfold searchRest
        rw [R.row hp]
        dsimp only
        have z1 := hv.dp
        refine wpAny_bind (wpAny_holding (eqAt_key p.1 k A s _ _ hv.n hx.n (by omega) _ _ _ _ ?_))
        rw [← NestedKey.decide_eq]
        refine wpAny_bind (wpAny_setState_of ho hd R.fit ?_)
        dsimp only
        have live : t.slot (way t.mask g (c + d)) = .live i := slot_live R.tab.up hi
        by_cases same : p.1 = k
        · have hkm : k ∈ L.map (·.1) := List.mem_map.mpr ⟨p, hm, same⟩
          cases ad with
          | true =>
            refine wp_if_pos (by simp [same]) ?_
            exact wpAny_pure (hin hkm none rfl)
          | false =>
            refine wp_if_neg (by simp) ?_
            try refine wpAny_bind (wpAny_pure ?_)
            rw [sameMem]
            dsimp only
            simp only [if_true, live, R.row hp, hb]
            refine wpAny_bind (wpAny_isSame_ref_self (wpAny_bind (wpAny_pure ?_)))
            simp only [if_true]
            refine wp_if_pos (by simp [same]) ?_
            exact wpAny_pure (hin hkm (some i) rfl)
        · refine wp_if_neg (by simp [same]) ?_
          try refine wpAny_bind (wpAny_pure ?_)
          rw [sameMem]
          dsimp only
          simp only [if_true, live, R.row hp, hb]
          refine wpAny_bind (wpAny_isSame_ref_self (wpAny_bind (wpAny_pure ?_)))
          simp only [if_true]
          refine wp_if_neg (by simp [same]) ?_
          rw [← hg]
          refine search_k R hx hu ad hKf (by rw [hg]; exact hK) (by rw [hg]; exact hKb) hin (by rw [hg]; exact hout) f (c + (d + 1)) _ (by rw [hg]; rfl) (by omega) (by omega) fun i0 p0 h0 hk0 => ?_
          rw [hg]
          obtain ⟨c', a1, a2, a3⟩ := hre i0 p0 h0 hk0
          refine ⟨c', ?_, a2, a3⟩
          rcases Nat.lt_trichotomy c' (c + d) with z | z | z
          · exfalso
            refine hno (c' - c) i0 (by omega) (by rw [at1, show c + (c' - c) = c' by omega]; exact a3) ?_
            exact (stored i0 p0 h0).trans (by rw [hk0, hg])
          · exfalso
            rw [z] at a3
            have s0 := slot_live R.tab.up a3
            rw [live] at s0
            injection s0 with s0
            rw [← s0, hp] at h0
            cases h0
            exact same hk0
          · omega
      by_cases hl : t.led = true
      · refine wp_if_neg (by simp [hl]) ?_
        try refine wpAny_bind (wpAny_pure ?_)
        exact rest
      · refine wp_if_pos (by simp [hl]) ?_
        refine wpAny_bind (seen_key hx (fun y hy => ?_) ?_)
        · obtain ⟨e, he, ee⟩ := List.mem_map.mp hy
          have he1 : e ∈ es ∧ e.1 = g := by simpa using he
          have he2 : e ∈ es.toList := by simpa using he1.1
          rw [R.rows] at he2
          obtain ⟨p2, hp2, e2⟩ := List.mem_map.mp he2
          refine ⟨p2.1, ?_⟩
          rw [← ee, ← e2]
          exact R.val p2 hp2
        · refine wp_if_neg (by decide) ?_
          try refine wpAny_bind (wpAny_pure ?_)
          exact rest
    · rw [at1, show c + (K - c) = K by omega] at hpr
      have hpr' : t.probe (fun i => (es[i]?.map (·.1)).getD 0) g (st.getD (t.probeStart g)) = some (.empty (way t.mask g K) none) := by rw [hst]; exact hpr
      rw [hpr']
      dsimp only
      refine wpAny_pure (hout fun hmem => ?_)
      obtain ⟨p0, h0, hk0⟩ := List.mem_map.mp hmem
      obtain ⟨i0, e0⟩ := List.getElem?_of_mem h0
      obtain ⟨c', a1, a2, a3⟩ := hre i0 p0 e0 hk0
      refine hno (c' - c) i0 (by omega) (by rw [at1, show c + (c' - c) = c' by omega]; exact a3) ?_
      exact (stored i0 p0 e0).trans (by rw [hk0, hg])
end

/-! ### adding -/
section
variable {P : Program} {w : World} {A : Around} {E : Value → Shared → Prop} {s : Shared} {a : Addr} {L : List KV} {es : Array (Int × Value)} {ep : Nat} {t : SetTable}
theorem IsK.same {h h' : Heap} {k : NestedKey} {v : Value} {o : Obj} (x : IsK h k v) (ho : h.get? a = some o) (hd : o.data = .set es ep t) (hs : Heap.SameBut a h h') : IsK h' k v :=
  ⟨NestedIs.at (fun b ob vs n hb hc => (hs.2 b fun e => by
    rw [e, ho] at hb
    cases hb
    rw [hd] at hc
    cases hc).trans hb) k v x.n, x.nk, x.dp⟩
theorem order_kv (w : World) (L : List KV) (es : Array (Int × Value)) (order : Array Nat) (hr : es.toList = rowsK w L) (hp : order.toList.Perm (List.range L.length)) :
    ∃ L2, (order.filterMap (es[·]?)).toList = rowsK w L2 ∧ L2.Perm L ∧ hashK w L2 = order.toList.map fun i => (es.map (·.1)).getD i 0 := by
  have ent : ∀ i : Nat, es[i]? = (L[i]?).map fun x : KV => (x.1.hash w, x.2) := fun i => by
    rw [← Array.getElem?_toList, hr]
    unfold rowsK
    rw [List.getElem?_map]
  have hsz : es.size = L.length := by
    have z := congrArg List.length hr
    unfold rowsK at z
    rwa [Array.length_toList, List.length_map] at z
  have step : ∀ l : List Nat, (∀ i ∈ l, i < L.length) → l.filterMap (fun i => es[i]?) = rowsK w (l.filterMap fun i => L[i]?) ∧ hashK w (l.filterMap fun i => L[i]?) = l.map fun i => (es.map (·.1)).getD i 0 := fun l => by
    induction l with
    | nil => exact fun _ => ⟨rfl, rfl⟩
    | cons i l ih =>
      intro hl
      have hi := hl i List.mem_cons_self
      obtain ⟨q1, q2⟩ := ih fun j hj => hl j (List.mem_cons_of_mem _ hj)
      have e1 : L[i]? = some L[i] := List.getElem?_eq_getElem hi
      have e2 : es[i]? = some ((L[i]).1.hash w, (L[i]).2) := by rw [ent, e1]; rfl
      refine ⟨by rw [List.filterMap_cons_some e2, List.filterMap_cons_some (f := fun i => L[i]?) e1, q1]; rfl, ?_⟩
      rw [List.filterMap_cons_some (f := fun i => L[i]?) e1, List.map_cons]
      show _ :: hashK w _ = _
      rw [q2]
      have e5 : (es.map (·.1))[i]? = some ((L[i]).1.hash w) := by rw [Array.getElem?_map, e2]; rfl
      simp [Array.getD_eq_getD_getElem?, e5]
  obtain ⟨q1, q2⟩ := step order.toList fun i hi => List.mem_range.mp (hp.mem_iff.mp hi)
  refine ⟨_, by rw [Array.toList_filterMap]; exact q1, ?_, q2⟩
  have z : (List.range L.length).filterMap (fun i => L[i]?) = L := by
    have pre : ∀ n, n ≤ L.length → (List.range n).filterMap (fun i => L[i]?) = L.take n := fun n => by
      induction n with
      | zero => exact fun _ => rfl
      | succ n ih =>
        intro hn
        rw [List.range_succ, List.filterMap_append, ih (by omega), List.take_succ, List.getElem?_eq_getElem (show n < L.length from hn), List.filterMap_cons_some (List.getElem?_eq_getElem (show n < L.length from hn))]
        rfl
    rw [pre _ (Nat.le_refl _), List.take_length]
  have := hp.filterMap fun i => L[i]?
  rw [z] at this
  exact this
theorem relay_k {o : Obj} (ho : s.heap.get? a = some o) (hex : o.ExactSet) (hd : o.data = .set es ep t) (hrows : es.toList = rowsK w L) (T : Tab t (hashK w L)) (hfl : es.size ≤ t.mask) (nd : (L.map (·.1)).Nodup)
    (val : ∀ x ∈ L, IsK s.heap x.1 x.2) (rf : ∀ x ∈ L, ∃ b, x.2 = .ref b) (pl : t.plain = true) (ld : w.params.followText "set-order" = true ∨ t.led = true) (few : L.length ≤ 9000) (h0 : 1 ≤ L.length) {Q : Unit → Shared → Prop}
    (hQ : ∀ h' L' es' ep' t', Heap.SameBut a s.heap h' → SetK w h' a L' es' ep' t' → L'.Perm L → Q () { s with heap := h' }) : wpAny (model P w) A (setRelay a (SetTable.grown L.length)) Q E s := by
  have hsl : es.size = L.length := by
    have z := congrArg List.length hrows
    unfold rowsK at z
    rwa [Array.length_toList, List.length_map] at z
  have hg : SetTable.grown L.length = L.length * 4 := if_neg (by omega)
  obtain ⟨m, hm⟩ : ∃ m, SetTable.sizeAbove (L.length * 4) - 1 = m := ⟨_, rfl⟩
  obtain ⟨pw, hlow, hm1, hup⟩ := Pw.size (n := L.length * 4) (by omega) hm
  have hfit : t.fits es.size = true := by
    have z1 := T.len
    rw [List.length_map] at z1
    unfold SetTable.fits SetTable.fill
    rw [T.nod, Bool.and_eq_true, beq_iff_eq, decide_eq_true_eq]
    show t.place.size = es.size ∧ t.place.size + 0 ≤ t.mask
    omega
  obtain ⟨t', order, e, hp, T', em, el, epl⟩ := relaid_all t (hs := es.map (·.1)) (wanted := L.length * 4) hm pw (by rw [Array.size_map]; omega)
  rw [Array.size_map, hsl] at hp
  obtain ⟨L2, r1, r2, r3⟩ := order_kv w L es order hrows hp
  rw [← r3] at T'
  have hs2 : (order.filterMap (es[·]?)).size = es.size := by
    have z := congrArg List.length r1
    unfold rowsK at z
    rw [Array.length_toList, List.length_map, r2.length_eq] at z
    rw [z, hsl]
  rw [hg, setRelay_eq]
  refine wpAny_bind (wpAny_setState_of ho hd hfit ?_)
  dsimp only
  refine wp_if_neg (by rw [sizeLine_eq]; omega) ?_
  try refine wpAny_bind (wpAny_pure ?_)
  rw [e]
  dsimp only
  refine wpAny_bind ?_
  refine wp_if_neg (by rw [hs2]; simp) ?_
  try refine wpAny_bind (wpAny_pure ?_)
  refine wpAny_pure ?_
  dsimp only
  refine wpAny_storeSet_of ho hd ?_ (by rw [hs2, hsl, sizeLine_eq]; omega)
  have sb : Heap.SameBut a s.heap (s.heap.update a (Obj.putSet (order.filterMap (es[·]?)) t')) := Heap.SameBut.update ..
  exact hQ _ L2 _ (ep + 1) t' sb ⟨⟨_, store_at ho hd, ⟨hex.1, hex.2.1, hex.2.2⟩, rfl⟩, r1, T', (r2.map (·.1)).nodup_iff.mpr nd, fun x hx => (val x (r2.mem_iff.mp hx)).same ho hd sb, fun x hx => rf x (r2.mem_iff.mp hx), epl.trans pl, by rw [el]; exact ld, by rw [r2.length_eq, em]; omega, by rw [r2.length_eq]; exact few⟩ r2
theorem find_k (R : SetK w s.heap a L es ep t) {x : Value} {k : NestedKey} (hx : IsK s.heap k x) (hu : A.units + 8 < cLine) (ad : Bool) {Q : SetFound → Shared → Prop}
    (hin : k ∈ L.map (·.1) → ∀ r : Option Nat, r.isSome = !ad → Q (.there r) s)
    (hout : ∀ K, k ∉ L.map (·.1) → way t.mask (k.hash w) K ∉ t.place.toList → (∀ c, c < K → way t.mask (k.hash w) c ∈ t.place.toList) → Q (.free (way t.mask (k.hash w) K) false) s) :
    wpAny (model P w) A (setSearch a x (k.hash w) ad) Q E s := by
  have h1 := R.room
  have h2 := R.few
  have lh : (hashK w L).length = L.length := List.length_map _
  obtain ⟨K, hKf, hK, hKb⟩ := R.tab.gap (by omega) (k.hash w)
  rw [lh] at hKf
  unfold setSearch
  refine search_k R hx hu ad (by unfold SetTable.turns; omega) hK hKb hin (fun hn => hout K hn hK hKb) 100000 0 none rfl (Nat.zero_le _) (by omega) fun i p hp hk => ?_
  have hi : (hashK w L)[i]? = some (k.hash w) := by rw [List.getElem?_map, hp, ← hk]; rfl
  have hil : i < t.place.toList.length := by
    rw [R.tab.len', lh]
    exact (List.getElem?_eq_some_iff.mp hp).1
  have hj := List.getElem?_eq_getElem hil
  obtain ⟨c, hc, e⟩ := R.tab.ahead hK hi hj
  exact ⟨c, Nat.zero_le _, hc, by rw [hj, e]⟩
theorem add_k (R : SetK w s.heap a L es ep t) {b : Addr} {k : NestedKey} (hx : IsK s.heap k (.ref b)) (hu : A.units + 8 < cLine) (hfew : L.length < 9000) {Q : Bool → Shared → Prop}
    (hQ : ∀ r h' L' es' ep' t', Heap.SameBut a s.heap h' → SetK w h' a L' es' ep' t' → (k ∈ L.map (·.1) → L' = L ∧ h' = s.heap) → (k ∉ L.map (·.1) → L'.Perm ((k, .ref b) :: L)) → Q r { s with heap := h' }) :
    wpAny (model P w) A (setAddHashed a (.ref b) (k.hash w)) Q E s := by
  obtain ⟨o, ho, hex, hd⟩ := R.ob
  have hsl := R.size
  have hroom := R.room
  have lh : (hashK w L).length = L.length := List.length_map _
  unfold setAddHashed
  refine wpAny_holding ?_
  rw [show (100000 : Nat) = 99999 + 1 from rfl, setAddHashedIn_succ]
  refine wpAny_bind (wpAny_setState_of ho hd R.fit ?_)
  dsimp only
  refine wp_if_neg (by simp [byScan, Value.scannable]) ?_
  try refine wpAny_bind (wpAny_pure ?_)
  refine wpAny_bind (find_k R hx hu true (fun hm r _ => ?_) fun K hm hK hb => ?_)
  · dsimp only
    exact wpAny_pure (hQ false s.heap L es ep t (Heap.SameBut.refl a s.heap) R (fun _ => ⟨rfl, rfl⟩) fun z => absurd hm z)
  · dsimp only
    refine wpAny_bind (wpAny_setState_of ho hd R.fit ?_)
    dsimp only
    obtain ⟨q2, q3, q9⟩ := R.tab.put hK hb rfl
    have pl1 : (t.put (way t.mask (k.hash w) K)).1.plain = true := R.plain
    have mk1 : (t.put (way t.mask (k.hash w) K)).1.mask = t.mask := rfl
    have ld1 : w.params.followText "set-order" = true ∨ (t.put (way t.mask (k.hash w) K)).1.led = true := R.led
    have p1 : (t.put (way t.mask (k.hash w) K)).2 = SetTable.below t.place (way t.mask (k.hash w) K) := rfl
    generalize hpt : t.put (way t.mask (k.hash w) K) = pt at q3 q9 pl1 mk1 ld1 p1 ⊢
    obtain ⟨t1, p⟩ := pt
    dsimp only at q3 q9 pl1 mk1 ld1 p1 ⊢
    rw [← p1] at q2 q3
    clear hpt p1
    first
      | (refine wpAny_bind ?_; refine wp_if_pos pl1 ?_; refine hv_key k _ 8 s hx.n hx.nk hx.dp _ _ _ ?_)
      | refine wp_if_pos pl1 (wpAny_bind (hv_key k _ 8 s hx.n hx.nk hx.dp _ _ _ ?_))
    simp only [if_true]
    have hin : (SetTable.insertAt es p (k.hash w, Value.ref b)).toList = rowsK w (L.take p ++ (k, .ref b) :: L.drop p) := by
      rw [SetTable.toList_insertAt, R.rows]
      unfold rowsK
      rw [List.map_append, List.map_cons, List.map_take, List.map_drop]
    have pm := put_perm L p (k, Value.ref b)
    have hlen : (L.take p ++ (k, Value.ref b) :: L.drop p).length = L.length + 1 := pm.length_eq
    have hhs : hashK w (L.take p ++ (k, Value.ref b) :: L.drop p) = (hashK w L).take p ++ k.hash w :: (hashK w L).drop p := by
      show List.map _ _ = _
      rw [List.map_append, List.map_cons, List.map_take, List.map_drop]
    rw [← hhs] at q3
    have nd1 : ((L.take p ++ (k, Value.ref b) :: L.drop p).map (·.1)).Nodup := by
      refine (pm.map (·.1)).nodup_iff.mpr ?_
      rw [List.map_cons]
      exact List.nodup_cons.mpr ⟨hm, R.nd⟩
    have hes : (SetTable.insertAt es p (k.hash w, Value.ref b)).size = L.length + 1 := by
      have z := congrArg List.length hin
      unfold rowsK at z
      rwa [Array.length_toList, List.length_map, hlen] at z
    generalize SetTable.insertAt es p (k.hash w, Value.ref b) = es1 at hin hes ⊢
    generalize L.take p ++ (k, Value.ref b) :: L.drop p = L1 at pm hlen q3 nd1 hin
    refine wpAny_bind (wpAny_storeSet_of ho hd ?_ (by rw [hes, sizeLine_eq]; omega))
    have sb : Heap.SameBut a s.heap (s.heap.update a (Obj.putSet es1 t1)) := Heap.SameBut.update ..
    have ho1 := store_at (es' := es1) (t' := t1) ho hd
    generalize s.heap.update a (Obj.putSet es1 t1) = h1 at sb ho1 ⊢
    have val1 : ∀ x ∈ L1, IsK h1 x.1 x.2 := fun x hm1 => by
      rcases List.mem_cons.mp (pm.mem_iff.mp hm1) with e | z
      · rw [e]; exact hx.same ho hd sb
      · exact (R.val x z).same ho hd sb
    have rf1 : ∀ x ∈ L1, ∃ c, x.2 = .ref c := fun x hm1 => by
      rcases List.mem_cons.mp (pm.mem_iff.mp hm1) with e | z
      · rw [e]; exact ⟨b, rfl⟩
      · exact R.rf x z
    rw [lh] at q9
    by_cases hf : t1.tooFull = true
    · first
        | (refine wpAny_bind ?_; refine wp_if_pos (by simp [hf]) ?_)
        | (refine wp_if_pos (by simp [hf]) ?_; refine wpAny_bind ?_)
      rw [hsl, ← hlen]
      refine relay_k (s := { s with heap := h1 }) ho1 ⟨hex.1, hex.2.1, hex.2.2⟩ rfl hin q3 (by rw [hes, mk1]; omega) nd1 val1 rf1 pl1 ld1 (by omega) (by omega) ?_
      intro h2 L2 es2 ep2 t2 sb2 R2 pm2
      exact wpAny_pure (hQ true h2 L2 es2 ep2 t2 (sb.trans sb2) R2 (fun z => absurd z hm) fun _ => pm2.trans pm)
    · first
        | refine wp_if_neg (by simp [hf]) ?_
        | (refine wpAny_bind ?_; refine wp_if_neg (by simp [hf]) ?_; refine wpAny_pure ?_)
      refine wpAny_pure (hQ true h1 L1 es1 (ep + 1) t1 sb ⟨⟨_, ho1, ⟨hex.1, hex.2.1, hex.2.2⟩, rfl⟩, hin, q3, nd1, val1, rf1, pl1, ld1, ?_, by omega⟩ (fun z => absurd z hm) fun _ => pm)
      have z := hf
      unfold SetTable.tooFull at z
      rw [decide_eq_true_eq, q9] at z
      omega
/-- in -/
theorem has_k (R : SetK w s.heap a L es ep t) {b : Addr} {k : NestedKey} (hx : IsK s.heap k (.ref b)) (hu : A.units + 8 < cLine) {Q : Option Nat → Shared → Prop} (hQ : ∀ r : Option Nat, r.isSome = decide (k ∈ L.map (·.1)) → Q r s) :
    wpAny (model P w) A (setFind a (.ref b) (k.hash w)) Q E s := by
  obtain ⟨o, ho, hex, hd⟩ := R.ob
  unfold setFind
  rw [show (100000 : Nat) = 99999 + 1 from rfl]
  unfold setFindIn
  refine wpAny_bind (wpAny_setState_of ho hd R.fit ?_)
  dsimp only
  refine wp_if_neg (by simp [byScan, Value.scannable]) ?_
  try refine wpAny_bind (wpAny_pure ?_)
  refine wpAny_bind (find_k R hx hu false (fun hm r hr => ?_) fun K hm hK hb => ?_)
  · dsimp only
    exact wpAny_pure (hQ r (by rw [hr, decide_eq_true hm]; rfl))
  · dsimp only
    exact wpAny_pure (hQ none (by rw [decide_eq_false hm]; rfl))
/-- set() -/
theorem new_k {h : Heap} (ho : h.get? a = some { cls := .type "set", dict := none, data := .set #[] 0 (.fresh 0 0 (!w.params.followText "set-order")) }) : SetK w h a [] #[] 0 (.fresh 0 0 (!w.params.followText "set-order")) := by
  refine ⟨⟨_, ho, ⟨rfl, rfl, rfl⟩, rfl⟩, rfl, ⟨List.Pairwise.nil, rfl, rfl, ⟨3, rfl, Nat.le_refl _⟩, fun x hx => (nomatch hx), fun i h j hi => by simp at hi⟩, List.nodup_nil, fun x hx => (nomatch hx), fun x hx => (nomatch hx), rfl, ?_, by show 0 * 5 < 7 * 3; decide, Nat.zero_le _⟩
  show _ ∨ (!w.params.followText "set-order") = true
  cases w.params.followText "set-order"
  · exact .inr rfl
  · exact .inl rfl
end
end Dl

/-! Sets of nested tuples of ints, as objects: what stands at one address; add, in, not in. -/
namespace Dl
open PySem PySem.Spec PyProof.Rows L2
/-- what stands at the address alone -/
def SetN (w : World) (h : Heap) (a : Addr) (L : List KV) : Prop := ∃ (L' : List KV) (es : Array (Int × Value)) (ep : Nat) (t : SetTable), L'.Perm L ∧ (∃ o, h.get? a = some o ∧ o.ExactSet ∧ o.data = .set es ep t) ∧
  ∀ g : Heap, (∀ o, h.get? a = some o → g.get? a = some o) → (∀ x ∈ L, IsK g x.1 x.2) → SetK w g a L' es ep t
section
variable {P : Program} {w : World} {A : Around} {E : Value → Shared → Prop} {s : Shared} {a b : Addr} {L : List KV} {k : NestedKey}
theorem SetN.of {h : Heap} {L' : List KV} {es : Array (Int × Value)} {ep : Nat} {t : SetTable} (R : SetK w h a L' es ep t) (p : L'.Perm L) : SetN w h a L := by
  obtain ⟨o, ho, hex, hd⟩ := R.ob
  exact ⟨L', es, ep, t, p, ⟨o, ho, hex, hd⟩, fun g hg hv => ⟨⟨o, hg _ ho, hex, hd⟩, R.rows, R.tab, R.nd, fun x hx => hv x (p.mem_iff.mp hx), R.rf, R.plain, R.led, R.room, R.few⟩⟩
theorem SetN.stay {h g : Heap} (R : SetN w h a L) (hg : ∀ o, h.get? a = some o → g.get? a = some o) : SetN w g a L := by
  obtain ⟨L', es, ep, t, p, ⟨o, ho, r⟩, q⟩ := R
  exact ⟨L', es, ep, t, p, ⟨o, hg _ ho, r⟩, fun g' hg' hv => q g' (fun o' ho' => by
    rw [ho] at ho'
    cases ho'
    exact hg' _ (hg _ ho)) hv⟩
theorem SetN.full {h : Heap} (R : SetN w h a L) (hv : ∀ x ∈ L, IsK h x.1 x.2) : ∃ L' es ep t, L'.Perm L ∧ SetK w h a L' es ep t := by
  obtain ⟨L', es, ep, t, p, _, q⟩ := R
  exact ⟨L', es, ep, t, p, q h (fun o ho => ho) hv⟩
theorem SetN.typeIs (R : SetN w s.heap a L) : s.TypeIs (.ref a) "set" := by
  obtain ⟨L', es, ep, t, p, ⟨o, ho, hex, hd⟩, q⟩ := R
  exact ⟨o, ho, hex.1⟩
theorem SetN.noDict (R : SetN w s.heap a L) : ∀ b, Value.ref a = .ref b → ∃ ob, s.heap.get? b = some ob ∧ ob.dict = none := fun b e => by
  injection e with e
  subst e
  obtain ⟨L', es, ep, t, p, ⟨o, ho, hex, hd⟩, q⟩ := R
  exact ⟨o, ho, hex.2.1⟩
theorem SetN.nd {h : Heap} (R : SetN w h a L) (hv : ∀ x ∈ L, IsK h x.1 x.2) : (L.map (·.1)).Nodup := by
  obtain ⟨L', es, ep, t, p, R⟩ := R.full hv
  exact (p.map (·.1)).nodup_iff.mp R.nd
theorem roomK (hu : A.units + 8 < cLine) : (nestedKind P w).room A := hu
theorem IsK.kind {h : Heap} (hx : IsK h k (.ref b)) : (nestedKind P w).is h k b := ⟨hx.n, hx.dp⟩
theorem hashN (k : NestedKey) : (nestedKind P w).hash k = k.hash w := rfl
/-- a.add(b) -/
theorem n_add {Q : Value → Shared → Prop} (R : SetN w s.heap a L) (hv : ∀ x ∈ L, IsK s.heap x.1 x.2) (hx : IsK s.heap k (.ref b)) (hu : A.units + 64 < cLine) (hfew : L.length < 9000)
    (h0 : k ∈ L.map (·.1) → ∀ t, SetN w s.heap a L → Q .none { s with toks := t }) (h1 : k ∉ L.map (·.1) → ∀ h' t, Heap.SameBut a s.heap h' → SetN w h' a (L ++ [(k, .ref b)]) → s.toks ≤ t → Q .none { s with heap := h', toks := t }) :
    wpAny (model P w) A (call (.builtin "set.add") [.ref a, .ref b]) Q E s := by
  obtain ⟨L', es, ep, t, p, RK⟩ := R.full hv
  have pl : L'.length = L.length := p.length_eq
  have pm : k ∈ L'.map (·.1) ↔ k ∈ L.map (·.1) := (p.map (·.1)).mem_iff
  refine wpAny_call_entry F.slot_set_add R.typeIs F.entry_set_add ?_ (F.args_set_add_2 _ _)
  unfold Builtin.«set.add» Builtin.Frozenset.oneOther Builtin.Frozenset.addrOf setAdd
  simp only [bind_assoc, List.isEmpty_nil]
  refine wpAny_bind (wpAny_pure (wpAny_bind (wpAny_pure (wpAny_bind (wpAny_holding ?_)))))
  refine wpAny_bind ((nestedKind P w).pyHash (roomK (by show A.units + 1 + 8 < cLine; omega)) hx.kind ?_)
  rw [hashN]
  refine add_k (s := { s with toks := s.toks + (nestedKind P w).draws k }) RK hx (by show A.units + 1 + 8 < cLine; omega) (by omega) fun r h' L1 es' ep' t' sb R1 c1 c2 => ?_
  show wpAny _ _ (ret Value.none) _ _ _
  refine wpAny_pure ⟨_, rfl, ?_⟩
  by_cases hm : k ∈ L.map (·.1)
  · obtain ⟨e1, e2⟩ := c1 (pm.mpr hm)
    have e2' : h' = s.heap := e2
    rw [e2']
    exact h0 hm _ R
  · have := c2 fun z => hm (pm.mp z)
    refine h1 hm h' _ sb (SetN.of R1 ?_) (Nat.le_add_right _ _)
    exact this.trans ((List.Perm.cons _ p).trans (List.perm_append_comm (l₁ := [_]) (l₂ := L)))
theorem n_has {neg : Bool} {Q : Value → Shared → Prop} (R : SetN w s.heap a L) (hv : ∀ x ∈ L, IsK s.heap x.1 x.2) (hx : IsK s.heap k (.ref b)) (hu : A.units + 64 < cLine)
    (h : ∀ t, Q (.bool (if neg then !decide (k ∈ L.map (·.1)) else decide (k ∈ L.map (·.1)))) { s with toks := s.toks + t }) : wpAny (model P w) A (compareOp (if neg then .NotIn else .In) (.ref b) (.ref a)) Q E s := by
  obtain ⟨L', es, ep, t, p, RK⟩ := R.full hv
  have pm : decide (k ∈ L'.map (·.1)) = decide (k ∈ L.map (·.1)) := by
    have := (p.map (·.1)).mem_iff (a := k)
    by_cases z : k ∈ L.map (·.1)
    · rw [decide_eq_true z, decide_eq_true (this.mpr z)]
    · rw [decide_eq_false z, decide_eq_false fun y => z (this.mp y)]
  have go : ∀ Q' : Bool → Shared → Prop, (∀ t, Q' (decide (k ∈ L.map (·.1))) { s with toks := s.toks + t }) → wpAny (model P w) A (contains (.ref a) (.ref b)) Q' E s := fun Q' h => by
    unfold contains
    with_reducible refine wpAny_holding ?_
    have hne : ¬ (some (Value.builtin "set.__contains__") == some Value.none) = true := by rw [beq_builtin_none]; exact fun z => nomatch z
    refine wpAny_bind (wpAny_specialOf R.typeIs F.slot_set_contains.lookup ?_)
    refine wp_if_neg hne ?_
    refine wpAny_bind (wpAny_callSpecialUnlessNone?_slot (name := Str.ofString "__contains__") R.typeIs F.slot_set_contains (wpAny_call_entry F.slot_set_contains R.typeIs entry_set_contains ?_ (F.args_set_contains_2 _ _)))
    unfold Builtin.«frozenset.__contains__» Builtin.Frozenset.oneOther Builtin.Frozenset.addrOf Builtin.Frozenset.withSetAsKey setContains
    simp only [bind_assoc, List.isEmpty_nil]
    refine wpAny_bind (wpAny_pure (wpAny_bind (wpAny_pure (wpAny_bind (wpAny_tryCatch (wpAny_holding ?_))))))
    refine wpAny_bind ((nestedKind P w).pyHash (roomK (by show A.units + 1 + 8 < cLine; omega)) hx.kind ?_)
    rw [hashN]
    refine wpAny_bind (has_k (s := { s with toks := s.toks + (nestedKind P w).draws k }) RK hx (by show A.units + 1 + 8 < cLine; omega) fun r hr => ?_)
    refine wpAny_pure ?_
    show wpAny _ _ (ret (Value.bool r.isSome)) _ _ _
    rw [hr, pm]
    exact wpAny_pure ⟨_, rfl, wpAny_truthy_bool (h _)⟩
  cases neg with
  | true =>
    show wpAny _ _ (do return .bool (!(← contains (.ref a) (.ref b)))) Q E s
    exact wpAny_bind (go _ fun t => wpAny_pure (h t))
  | false =>
    show wpAny _ _ (do return .bool (← contains (.ref a) (.ref b))) Q E s
    exact wpAny_bind (go _ fun t => wpAny_pure (h t))
end
end Dl

/-! Data level: what the defs do with plain data (None, bools, ints, texts, lists and tuples of these, instances that stay as they are), without addresses. -/
namespace Dl
open PySem L2

class KOf where
  K : PySem.W.Frag
  Pr : Program
  w : World
/-- plain data -/
inductive D where
  | non | bl (b : Bool) | int (i : Int) | str (s : Str) | lst (xs : List D) | tup (xs : List D)
  | obj (C : Addr) (ns : List Str) (xs : List D)
  | dcI (is : List Int) (xs : List D)
  | dcT (ks xs : List D)
  | raw (v : V)
mutual
/-- data as a key of a dict -/
def keyOf : D → Option NestedKey
  | .non => some .none
  | .int i => some (.num i)
  | .str x => some (.text x)
  | .tup xs => (keysOf xs).map .tup
  | _ => none
def keysOf : List D → Option (List NestedKey)
  | [] => some []
  | d :: r => match keyOf d, keysOf r with
    | some k, some ks => some (k :: ks)
    | _, _ => none
end
variable [KOf]
/-- a tuple of the written part -/
def WrT (a : Addr) (xs : List V) : Prop := ∃ (o : Obj) (its : Array Value) (n : Nat), KOf.K.lookup a = some o ∧ o.cls = .type "tuple" ∧ o.data = .seq its n ∧ its.size ≤ sizeLine ∧ Vals xs its.toList
def TupAt (B : Addr → Prop) (H : Hp) (a : Addr) (xs : List V) : Prop := (¬ B a ∧ H a = some (.tup xs)) ∨ WrT a xs
theorem TupAt.sq {B : Addr → Prop} {H : Hp} {a : Addr} {xs : List V} (h : TupAt B H a xs) : SqT KOf.K H a xs := h.elim (fun z => SqT.of z.2) .inr
theorem TupAt.of {B : Addr → Prop} {H : Hp} {a : Addr} {xs : List V} (n : ¬ B a) (h : H a = some (.tup xs)) : TupAt B H a xs := .inl ⟨n, h⟩
/-- a dict whose keys are tuples, by its entries -/
def dNO (p : Addr) (xs : List (NestedKey × Addr × Value)) : HO := .ext fun h => ∃ o es ep, h.get? p = some o ∧ o.ExactDict ∧ o.data = .dict es ep ∧ es.toList = xs.map (entryOfKey (nestedKind KOf.Pr KOf.w))
/-- a set of nested tuples of ints, by its members -/
def sNO (p : Addr) (L : List KV) : HO := .ext fun h => SetN KOf.w h p L
structure DctX (p : Addr) (xs : List (NestedKey × Addr × Value)) (ps : List Addr) (ks : List NestedKey) (vs : List V) : Prop where
  eks : xs.map (·.1) = ks
  eps : xs.map (·.2.1) = ps
  evs : Vals vs (xs.map (·.2.2))
  nd : ks.Nodup
  sm : (p == sysModules) = false
  sz : xs.length ≤ sizeLine
  dp : ∀ k ∈ ks, k.depth ≤ 8
def DctN (H : Hp) (p : Addr) (ps : List Addr) (ks : List NestedKey) (vs : List V) : Prop := ∃ xs, H p = some (dNO p xs) ∧ DctX p xs ps ks vs

section
mutual
inductive Rep (B : Addr → Prop) (H : Hp) : V → D → Prop
  | non : Rep B H .non .non
  | bl (b : Bool) : Rep B H (.bl b) (.bl b)
  | int (i : Int) : Rep B H (.int i) (.int i)
  | str (x : Str) : Rep B H (.str x) (.str x)
  | lst {a : Addr} {xs : List V} {ds : List D} : ¬ B a → H a = some (.lst xs) → RepL B H xs ds → Rep B H (.ref a) (.lst ds)
  | tup {a : Addr} {xs : List V} {ds : List D} : TupAt B H a xs → RepL B H xs ds → Rep B H (.ref a) (.tup ds)
  | obj {a C dx : Addr} {ns : List Str} {vs : List V} {ds : List D} : ¬ B a → H a = some (.ins C dx (ns.zip vs)) → ns.length = vs.length → RepL B H vs ds → Rep B H (.ref a) (.obj C ns ds)
  | dcI {a : Addr} {is : List Int} {vs : List V} {ds : List D} : ¬ B a → H a = some (.dK ((is.map Sum.inl).zip vs)) → is.length = vs.length → is.Nodup → RepL B H vs ds → Rep B H (.ref a) (.dcI is ds)
  | dcT {a : Addr} {ps : List Addr} {nks : List NestedKey} {vs : List V} {ks ds : List D} : ¬ B a → DctN H a ps nks vs → keysOf ks = some nks → RepL B H (ps.map V.ref) ks → RepL B H vs ds → Rep B H (.ref a) (.dcT ks ds)
  | raw (v : V) : Rep B H v (.raw v)
inductive RepL (B : Addr → Prop) (H : Hp) : List V → List D → Prop
  | nil : RepL B H [] []
  | cons {v : V} {vs : List V} {d : D} {ds : List D} : Rep B H v d → RepL B H vs ds → RepL B H (v :: vs) (d :: ds)
end
end

/-- what stood outside B stands -/
def Kept (B : Addr → Prop) (H H' : Hp) : Prop := ∀ b o, H b = some o → ¬ B b → H' b = some o
theorem Kept.refl (B : Addr → Prop) (H : Hp) : Kept B H H := fun _ _ h _ => h
theorem Kept.trans {B : Addr → Prop} {H H1 H2 : Hp} (a : Kept B H H1) (b : Kept B H1 H2) : Kept B H H2 := fun c o h n => b c o (a c o h n) n
theorem Kept.wide {B B' : Addr → Prop} {H H' : Hp} (a : Kept B H H') (h : ∀ b, B b → B' b) : Kept B' H H' := fun c o e n => a c o e fun z => n (h c z)
theorem Kept.new {B : Addr → Prop} {H : Hp} {p : Addr} {o : HO} (h : H p = none) : Kept B H (upd H p o) := fun c u e _ => by rw [upd_ne (ne_of_none e h)]; exact e
theorem Kept.put {B : Addr → Prop} {H : Hp} {p : Addr} {o : HO} (h : B p) : Kept B H (upd H p o) := fun c u e n => by rw [upd_ne (fun z => n (by rw [z]; exact h))]; exact e
theorem Kept.putNew {B : Addr → Prop} {H H' : Hp} {p : Addr} {o : HO} (e : Kept B H H') (h : H p = none) : Kept B H (upd H' p o) := fun c u q n => by rw [upd_ne (ne_of_none q h)]; exact e c u q n

theorem Kept.rd {B : Addr → Prop} {H H' : Hp} {a : Addr} {u : HO} (k : Kept B H H') (n : ¬ B a) (h : Rd H a u) : Rd H' a u := by
  rcases h with h | ⟨o, h⟩
  · exact .inl (k _ _ h n)
  · exact .inr ⟨o, k _ _ h n⟩
theorem rd_there {H : Hp} {a : Addr} {u : HO} (h : H a = some u) : H a ≠ none := by
  rw [h]; exact fun z => nomatch z
theorem TupAt.keep {B : Addr → Prop} {H H' : Hp} (k : Kept B H H') {a : Addr} {xs : List V} (h : TupAt B H a xs) : TupAt B H' a xs := h.elim (fun z => .inl ⟨z.1, k _ _ z.2 z.1⟩) .inr
theorem TupAt.less {B B' : Addr → Prop} {H : Hp} (k : ∀ b, B' b → B b ∨ H b = none) {a : Addr} {xs : List V} (h : TupAt B H a xs) : TupAt B' H a xs := h.elim (fun z => .inl ⟨fun q => (k _ q).elim z.1 (rd_there z.2), z.2⟩) .inr
theorem DctN.keep {B : Addr → Prop} {H H' : Hp} (k : Kept B H H') {a : Addr} {ps : List Addr} {ks : List NestedKey} {vs : List V} (n : ¬ B a) (h : DctN H a ps ks vs) : DctN H' a ps ks vs := let ⟨xs, e, x⟩ := h; ⟨xs, k _ _ e n, x⟩
theorem DctN.there {H : Hp} {a : Addr} {ps : List Addr} {ks : List NestedKey} {vs : List V} (h : DctN H a ps ks vs) : H a ≠ none := let ⟨_, e, _⟩ := h; rd_there e

section
variable {B B' : Addr → Prop} {H H' : Hp}
mutual
theorem Rep.keep (k : Kept B H H') : ∀ {v : V} {d : D}, Rep B H v d → Rep B H' v d
  | _, _, .non => .non
  | _, _, .bl b => .bl b
  | _, _, .int i => .int i
  | _, _, .str x => .str x
  | _, _, .lst n s r => .lst n (k _ _ s n) (RepL.keep k r)
  | _, _, .tup s r => .tup (s.keep k) (RepL.keep k r)
  | _, _, .obj n s l r => .obj n (k _ _ s n) l (RepL.keep k r)
  | _, _, .dcI n s l nd r => .dcI n (k _ _ s n) l nd (RepL.keep k r)
  | _, _, .dcT n s e q r => .dcT n (s.keep k n) e (RepL.keep k q) (RepL.keep k r)
  | _, _, .raw v => .raw v
theorem RepL.keep (k : Kept B H H') : ∀ {vs : List V} {ds : List D}, RepL B H vs ds → RepL B H' vs ds
  | _, _, .nil => .nil
  | _, _, .cons r t => .cons (Rep.keep k r) (RepL.keep k t)
end
mutual
/-- other addresses shut out: fewer, or such as nothing stands at -/
theorem Rep.less (k : ∀ b, B' b → B b ∨ H b = none) : ∀ {v : V} {d : D}, Rep B H v d → Rep B' H v d
  | _, _, .non => .non
  | _, _, .bl b => .bl b
  | _, _, .int i => .int i
  | _, _, .str x => .str x
  | _, _, .lst n s r => .lst (fun z => (k _ z).elim n (rd_there s)) s (RepL.less k r)
  | _, _, .tup s r => .tup (s.less k) (RepL.less k r)
  | _, _, .obj n s l r => .obj (fun z => (k _ z).elim n (fun q => by rw [s] at q; cases q)) s l (RepL.less k r)
  | _, _, .dcI n s l nd r => .dcI (fun z => (k _ z).elim n (rd_there s)) s l nd (RepL.less k r)
  | _, _, .dcT n s e q r => .dcT (fun z => (k _ z).elim n s.there) s e (RepL.less k q) (RepL.less k r)
  | _, _, .raw v => .raw v
theorem RepL.less (k : ∀ b, B' b → B b ∨ H b = none) : ∀ {vs : List V} {ds : List D}, RepL B H vs ds → RepL B' H vs ds
  | _, _, .nil => .nil
  | _, _, .cons r t => .cons (Rep.less k r) (RepL.less k t)
end
theorem RepL.length : ∀ {vs : List V} {ds : List D}, RepL B H vs ds → vs.length = ds.length
  | _, _, .nil => rfl
  | _, _, .cons _ t => congrArg (· + 1) (RepL.length t)
theorem RepL.at : ∀ {vs : List V} {ds : List D} {i : Nat} {d : D}, RepL B H vs ds → ds[i]? = some d → ∃ v, vs[i]? = some v ∧ Rep B H v d
  | _, _, 0, _, .cons r _, e => by
    have e' := Option.some.inj e
    subst e'
    exact ⟨_, rfl, r⟩
  | _, _, i + 1, _, .cons _ t, e => by
    obtain ⟨v, e1, r⟩ := RepL.at (i := i) t (by simpa using e)
    exact ⟨v, by simpa using e1, r⟩
theorem RepL.atV : ∀ {vs : List V} {ds : List D} {i : Nat} {v : V}, RepL B H vs ds → vs[i]? = some v → ∃ d, ds[i]? = some d ∧ Rep B H v d
  | _, _, 0, _, .cons r _, e => by
    have e' := Option.some.inj e
    subst e'
    exact ⟨_, rfl, r⟩
  | _, _, i + 1, _, .cons _ t, e => by
    obtain ⟨v, e1, r⟩ := RepL.atV (i := i) t (by simpa using e)
    exact ⟨v, by simpa using e1, r⟩
theorem RepL.app : ∀ {vs ws : List V} {ds es : List D}, RepL B H vs ds → RepL B H ws es → RepL B H (vs ++ ws) (ds ++ es)
  | _, _, _, _, .nil, s => s
  | _, _, _, _, .cons r t, s => .cons r (RepL.app t s)
theorem RepL.take : ∀ {vs : List V} {ds : List D} (n : Nat), RepL B H vs ds → RepL B H (vs.take n) (ds.take n)
  | _, _, 0, _ => .nil
  | _, _, _ + 1, .nil => .nil
  | _, _, n + 1, .cons r t => .cons r (RepL.take n t)
theorem RepL.drop : ∀ {vs : List V} {ds : List D} (n : Nat), RepL B H vs ds → RepL B H (vs.drop n) (ds.drop n)
  | _, _, 0, r => r
  | _, _, _ + 1, .nil => .nil
  | _, _, n + 1, .cons _ t => RepL.drop n t
theorem RepL.set {v : V} {d : D} (r : Rep B H v d) : ∀ {vs : List V} {ds : List D} (i : Nat), RepL B H vs ds → RepL B H (vs.set i v) (ds.set i d)
  | _, _, _, .nil => .nil
  | _, _, 0, .cons _ t => .cons r t
  | _, _, i + 1, .cons q t => .cons q (RepL.set r i t)
theorem RepL.rep {vs : List V} {ds : List D} (r : RepL B H vs ds) : ∀ n : Nat, RepL B H (List.replicate n vs).flatten (List.replicate n ds).flatten
  | 0 => .nil
  | n + 1 => by
    rw [List.replicate_succ, List.replicate_succ, List.flatten_cons, List.flatten_cons]
    exact r.app (RepL.rep r n)
end

/-! ### what may change: the dice (one list of ints, at δ), and lists of one's own (at M) -/
def DiceAt (H : Hp) (a : Addr) : Prop := ∃ ns : List Int, H a = some (.lst (ns.map V.int)) ∧ 2 ≤ ns.length
abbrev Bn (δ : Option Addr) (M : List Addr) : Addr → Prop := fun a => δ = some a ∨ a ∈ M
def Ext (δ : Option Addr) (H H' : Hp) : Prop := Kept (fun a => δ = some a) H H' ∧ ∀ a, δ = some a → DiceAt H a → DiceAt H' a
theorem Ext.refl {δ : Option Addr} (H : Hp) : Ext δ H H := ⟨Kept.refl _ H, fun _ _ h => h⟩
theorem Ext.trans {δ : Option Addr} {H H1 H2 : Hp} (a : Ext δ H H1) (b : Ext δ H1 H2) : Ext δ H H2 := ⟨a.1.trans b.1, fun c e h => b.2 c e (a.2 c e h)⟩
theorem Ext.new {δ : Option Addr} {H : Hp} {p : Addr} {o : HO} (h : H p = none) : Ext δ H (upd H p o) := ⟨Kept.new h, fun a _ ⟨ns, e, l⟩ => ⟨ns, by rw [upd_ne (ne_of_none e h)]; exact e, l⟩⟩
theorem Ext.kept {δ : Option Addr} {M : List Addr} {H H' : Hp} (e : Ext δ H H') : Kept (Bn δ M) H H' := e.1.wide fun _ h => Or.inl h
theorem Ext.free {δ : Option Addr} {H H' : Hp} {p : Addr} (e : Ext δ H H') (hd : ∀ a, δ = some a → DiceAt H a) (h : H' p = none) : H p = none := by
  cases q : H p with
  | none => rfl
  | some o =>
    by_cases hp : δ = some p
    · obtain ⟨ns, z, _⟩ := e.2 p hp (hd p hp)
      rw [h] at z; cases z
    · rw [e.1 p o q hp] at h; cases h

/-- what an object of one's own holds: a list, a dict (keys ints, or tuples), a set of ints -/
inductive OC where
  | lst (xs : List D) | dI (is : List Int) (xs : List D) | dT (ks xs : List D) | set (S : Int → Bool) (n : Nat) | st (ks : List D) | ins (C dx : Addr) (ns : List Str) (xs : List D)
/-- a slot: plain data, an object of one's own (its place, what it holds), one that only another one of these holds, the dice -/
inductive S where
  | d (x : D) | obj (p : Addr) (o : OC) | gh (p : Addr) (o : OC) | dice
abbrev S.own (p : Addr) (xs : List D) : S := .obj p (.lst xs)
def S.adr : S → Option Addr
  | .obj p _ => some p
  | .gh p _ => some p
  | _ => none
def S.hid : S → Bool
  | .gh _ _ => true
  | _ => false
def noOwn : List S → Bool
  | [] => true
  | .obj _ _ :: _ => false
  | .gh _ _ :: _ => false
  | _ :: r => noOwn r
structure XD where
  cls : Value
  fs : Option (List Str × List D)
abbrev Sl := List (Option S)
/-- what leaves a def; which lists of one's own were made ahead of the loop -/
structure Ct where
  ex : XD → Prop
  lk : Addr → Prop
structure Env where
  c : Ct
  sl : Sl

def RepO (B : Addr → Prop) (H : Hp) (p : Addr) : OC → Prop
  | .lst ds => ∃ vs, H p = some (.lst vs) ∧ RepL B H vs ds
  | .dI is ds => ∃ vs, H p = some (.dK ((is.map Sum.inl).zip vs)) ∧ is.length = vs.length ∧ is.Nodup ∧ RepL B H vs ds
  | .dT ks ds => ∃ ps nks vs, DctN H p ps nks vs ∧ keysOf ks = some nks ∧ RepL B H (ps.map V.ref) ks ∧ RepL B H vs ds
  | .set S n => H p = some (.set S n)
  | .st ks => ∃ (bs : List Addr) (nks : List NestedKey), H p = some (sNO p (nks.zip (bs.map Value.ref))) ∧ keysOf ks = some nks ∧ bs.length = nks.length ∧ RepL B H (bs.map V.ref) ks ∧ numKs nks = true ∧ ∀ k ∈ nks, k.depth ≤ 8
  | .ins C dx ns ds => ∃ vs, H p = some (.ins C dx (ns.zip vs)) ∧ ns.length = vs.length ∧ RepL B H vs ds
/-- .. while it stands, and what stands outside B -/
theorem RepO.keep {B : Addr → Prop} {H H' : Hp} {p : Addr} (k : Kept B H H') (e : ∀ o, H p = some o → H' p = some o) : ∀ {o : OC}, RepO B H p o → RepO B H' p o
  | .lst _, ⟨vs, h, r⟩ => ⟨vs, e _ h, r.keep k⟩
  | .dI _ _, ⟨vs, h, l, nd, r⟩ => ⟨vs, e _ h, l, nd, r.keep k⟩
  | .dT _ _, ⟨ps, nks, vs, ⟨xs, h, x⟩, q, r1, r2⟩ => ⟨ps, nks, vs, ⟨xs, e _ h, x⟩, q, r1.keep k, r2.keep k⟩
  | .set _ _, h => e _ h
  | .st _, ⟨bs, nks, h, x, l, r, y⟩ => ⟨bs, nks, e _ h, x, l, r.keep k, y⟩
  | .ins _ _ _ _, ⟨vs, h, l, r⟩ => ⟨vs, e _ h, l, r.keep k⟩
theorem RepO.less {B B' : Addr → Prop} {H : Hp} {p : Addr} (k : ∀ b, B' b → B b ∨ H b = none) : ∀ {o : OC}, RepO B H p o → RepO B' H p o
  | .lst _, ⟨vs, h, r⟩ => ⟨vs, h, r.less k⟩
  | .dI _ _, ⟨vs, h, l, nd, r⟩ => ⟨vs, h, l, nd, r.less k⟩
  | .dT _ _, ⟨ps, nks, vs, x, q, r1, r2⟩ => ⟨ps, nks, vs, x, q, r1.less k, r2.less k⟩
  | .set _ _, h => h
  | .st _, ⟨bs, nks, h, x, l, r, y⟩ => ⟨bs, nks, h, x, l, r.less k, y⟩
  | .ins _ _ _ _, ⟨vs, h, l, r⟩ => ⟨vs, h, l, r.less k⟩
theorem RepO.there {B : Addr → Prop} {H : Hp} {p : Addr} : ∀ {o : OC}, RepO B H p o → H p ≠ none
  | .lst _, ⟨_, h, _⟩ => rd_there h
  | .dI _ _, ⟨_, h, _⟩ => rd_there h
  | .dT _ _, ⟨_, _, _, ⟨_, h, _⟩, _⟩ => rd_there h
  | .set _ _, h => rd_there (u := .set _ _) h
  | .st _, ⟨_, _, h, _⟩ => rd_there h
  | .ins _ _ _ _, ⟨_, h, _⟩ => rd_there h
/-- plain data from here on -/
def OC.frz : OC → Option D
  | .lst xs => some (.lst xs)
  | .dI is xs => some (.dcI is xs)
  | .dT ks xs => some (.dcT ks xs)
  | .set _ _ => none
  | .st _ => none
  | .ins C _ ns xs => some (.obj C ns xs)
theorem RepO.frz {B : Addr → Prop} {H : Hp} {p : Addr} (n : ¬ B p) : ∀ {o : OC} {d : D}, RepO B H p o → o.frz = some d → Rep B H (.ref p) d
  | .lst _, _, ⟨_, h, r⟩, e => by cases e; exact .lst n h r
  | .dI _ _, _, ⟨_, h, l, nd, r⟩, e => by cases e; exact .dcI n h l nd r
  | .dT _ _, _, ⟨_, _, _, x, q, r1, r2⟩, e => by cases e; exact .dcT n x q r1 r2
  | .set _ _, _, _, e => by cases e
  | .st _, _, _, e => by cases e
  | .ins _ _ _ _, _, ⟨_, h, l, r⟩, e => by cases e; exact .obj n h l r
section
variable (δ : Option Addr) (M : List Addr) (H : Hp)
inductive RepS : V → S → Prop
  | d {v : V} {x : D} : Rep (Bn δ M) H v x → RepS v (.d x)
  | obj {a : Addr} {o : OC} : a ∈ M → δ ≠ some a → RepO (Bn δ M) H a o → RepS (.ref a) (.obj a o)
  | gh {a : Addr} {o : OC} : a ∈ M → δ ≠ some a → RepO (Bn δ M) H a o → RepS (.ref a) (.gh a o)
  | dice {a : Addr} : δ = some a → DiceAt H a → RepS (.ref a) .dice
def RepX (d : Option Addr) (x : XD) : Prop := match x.fs with
  | none => d = none
  | some (ns, ds) => ∃ dd vs, d = some dd ∧ H dd = some (.xd (ns.zip vs)) ∧ ns.length = vs.length ∧ RepL (Bn δ M) H vs ds
/-- the state: what is known of the slots; what leaves -/
structure RE (E : XK) (σ : L2.St) (ρ : Env) : Prop where
  len : σ.length ≤ ρ.sl.length
  rep : ∀ (i : Nat) (s : S), ρ.sl[i]? = some (some s) → ∃ v, (s.hid = false → σ[i]? = some (some v)) ∧ RepS δ M H v s
  one : ∀ (i j : Nat) (p : Addr) (s t : S), ρ.sl[i]? = some (some s) → ρ.sl[j]? = some (some t) → s.adr = some p → t.adr = some p → i = j
  okM : ∀ b, b ∈ M → ∃ o, H b = some o
  okd : ∀ a, δ = some a → DiceAt H a
  en : ∃ (He : Hp) (Me : List Addr), Ext δ He H ∧ (∀ b, b ∈ Me → b ∈ M ∧ He b ≠ none) ∧ (∀ (i : Nat) (p : Addr) (s : S), ρ.sl[i]? = some (some s) → s.adr = some p → He p = none) ∧ ∀ cls d H' fs, Ext δ He H' → RepX δ Me H' d ⟨cls, fs⟩ → ρ.c.ex ⟨cls, fs⟩ → E cls d H'
end
section
variable {δ : Option Addr} {M : List Addr} {H H' : Hp} {E : XK} {σ : L2.St} {ρ : Env}
theorem bn_cons {p : Addr} (h : H p = none) : ∀ b, Bn δ (p :: M) b → Bn δ M b ∨ H b = none := fun b z => by
  rcases z with z | z
  · exact .inl (.inl z)
  · rcases List.mem_cons.mp z with z | z
    · exact .inr (by rw [z]; exact h)
    · exact .inl (.inr z)
theorem bn_tail {p : Addr} : ∀ b, Bn δ M b → Bn δ (p :: M) b ∨ H b = none := fun b z => .inl (z.elim .inl fun q => .inr (List.mem_cons_of_mem _ q))
theorem RepS.ext (e : Ext δ H H') {v : V} {s : S} (r : RepS δ M H v s) : RepS δ M H' v s := by
  cases r with
  | d r => exact .d (r.keep e.kept)
  | obj m n r => exact .obj m n (r.keep e.kept fun o h => e.1 _ _ h n)
  | gh m n r => exact .gh m n (r.keep e.kept fun o h => e.1 _ _ h n)
  | dice h q => exact .dice h (e.2 _ h q)
/-- more is shut out -/
theorem RepS.wide {p : Addr} (h : H p = none) {v : V} {s : S} (r : RepS δ M H v s) : RepS δ (p :: M) H v s := by
  cases r with
  | d r => exact .d (r.less (bn_cons h))
  | obj m n r => exact .obj (List.mem_cons_of_mem _ m) n (r.less (bn_cons h))
  | gh m n r => exact .gh (List.mem_cons_of_mem _ m) n (r.less (bn_cons h))
  | dice h q => exact .dice h q
theorem RepS.mem {v : V} {s : S} {p : Addr} (r : RepS δ M H v s) (e : s.adr = some p) : p ∈ M ∧ δ ≠ some p ∧ H p ≠ none := by
  cases r with
  | d => cases e
  | obj m n r => cases e; exact ⟨m, n, r.there⟩
  | gh m n r => cases e; exact ⟨m, n, r.there⟩
  | dice => cases e
theorem RE.ext (e : Ext δ H H') (r : RE δ M H E σ ρ) : RE δ M H' E σ ρ where
  len := r.len
  rep := fun i s q => by
    obtain ⟨v, h1, h2⟩ := r.rep i s q
    exact ⟨v, h1, h2.ext e⟩
  one := r.one
  okM := fun b hb => by
    obtain ⟨o, h⟩ := r.okM b hb
    by_cases hd : δ = some b
    · obtain ⟨ns, z, _⟩ := e.2 b hd (r.okd b hd)
      exact ⟨_, z⟩
    · exact ⟨o, e.1 b o h hd⟩
  okd := fun a h => e.2 a h (r.okd a h)
  en := let ⟨He, Me, a, m, b, c⟩ := r.en; ⟨He, Me, a.trans e, m, b, c⟩
theorem RepX.less {M' : List Addr} {d : Option Addr} {x : XD} (k : ∀ b, Bn δ M' b → Bn δ M b ∨ H b = none) (r : RepX δ M H d x) : RepX δ M' H d x := by
  unfold RepX at r ⊢
  split
  · rename_i z
    rw [z] at r
    exact r
  · rename_i ns ds z
    rw [z] at r
    obtain ⟨dd, vs, a1, a2, a3, a4⟩ := r
    exact ⟨dd, vs, a1, a2, a3, a4.less k⟩
theorem RE.ex (r : RE δ M H E σ ρ) (cls : Value) (d : Option Addr) (H' : Hp) (fs : Option (List Str × List D)) (e : Ext δ H H') (x : RepX δ M H' d ⟨cls, fs⟩) (q : ρ.c.ex ⟨cls, fs⟩) : E cls d H' :=
  let ⟨_, Me, a, m, _, c⟩ := r.en; c cls d H' fs (a.trans e) (x.less fun b z => .inl (z.elim .inl fun y => .inr (m b y).1)) q
theorem RE.fresh (r : RE δ M H E σ ρ) {p : Addr} (h : H p = none) : ¬ Bn δ M p := fun z => by
  rcases z with z | z
  · obtain ⟨ns, q, _⟩ := r.okd p z
    rw [h] at q; cases q
  · obtain ⟨o, q⟩ := r.okM p z
    rw [h] at q; cases q
end

/-! ### what evaluates to what -/
abbrev WE := Env → (D → Prop) → Prop
abbrev WT := Env → (Bool → Prop) → Prop
abbrev WA := Env → (List S → Prop) → Prop
section
variable (E : XK)
def AbsE (t : TE) (w : WE) : Prop := ∀ (δ : Option Addr) (M : List Addr) (σ : L2.St) (H : Hp) (ρ : Env), RE δ M H E σ ρ → ∀ (Φ : D → Prop) (Q : VK), w ρ Φ →
  (∀ v H' d, Ext δ H H' → Rep (Bn δ M) H' v d → Φ d → Q v H') → t σ H Q
def AbsT (t : TT) (w : WT) : Prop := ∀ (δ : Option Addr) (M : List Addr) (σ : L2.St) (H : Hp) (ρ : Env), RE δ M H E σ ρ → ∀ (Φ : Bool → Prop) (Q : Bool → Hp → Prop), w ρ Φ →
  (∀ b H', Ext δ H H' → Φ b → Q b H') → t σ H Q
def AbsA (n : Nat) (t : TA) (w : WA) : Prop := ∀ (δ : Option Addr) (M : List Addr) (σ : L2.St) (H : Hp) (ρ : Env), RE δ M H E σ ρ → ∀ (Φ : List S → Prop) (Q : List V → Hp → Prop), w ρ Φ →
  (∀ vs H' ss, Ext δ H H' → Paired (RepS δ M H') vs ss → ss.length = n → noOwn ss = true → Φ ss → Q vs H') → t σ H Q
/-- one that makes a new list: nothing else holds it -/
def AbsF (t : TE) (w : Env → (List D → Prop) → Prop) : Prop := ∀ (δ : Option Addr) (M : List Addr) (σ : L2.St) (H : Hp) (ρ : Env), RE δ M H E σ ρ → ∀ (Φ : List D → Prop) (Q : VK), w ρ Φ →
  (∀ p vs H' ds, H p = none → Ext δ H H' → H' p = some (.lst vs) → RepL (Bn δ (p :: M)) H' vs ds → Φ ds → Q (.ref p) H') → t σ H Q
end
section
variable (X : Cx) (E : XK)
structure DE (e : Expr) (t : TE) (w : WE) : Prop where
  p : PE X e t
  a : AbsE E t w
structure DT (e : Expr) (t : TT) (w : WT) : Prop where
  p : PT X e t
  a : AbsT E t w
structure DA (es : List Expr) (t : TA) (w : WA) : Prop where
  p : PA X es t
  a : AbsA E es.length t w
structure DF (e : Expr) (t : TE) (w : Env → (List D → Prop) → Prop) : Prop where
  p : PE X e t
  a : AbsF E t w
end

/-! ### slots -/
def look : List (Option S) → Nat → Option S
  | [], _ => none
  | s :: _, 0 => s
  | _ :: r, i + 1 => look r i
theorem look_get : ∀ {l : List (Option S)} {i : Nat} {s : S}, look l i = some s → l[i]? = some (some s)
  | [], _, _, h => by cases h
  | s :: _, 0, _, h => by
    have h' : s = some _ := h
    rw [h']; rfl
  | _ :: r, i + 1, _, h => by
    have := look_get (l := r) (i := i) h
    simpa using this
def setS : List (Option S) → Nat → S → List (Option S)
  | [], _, _ => []
  | _ :: r, 0, s => some s :: r
  | x :: r, i + 1, s => x :: setS r i s
theorem setS_set : ∀ (l : List (Option S)) (i : Nat) (s : S), setS l i s = l.set i (some s)
  | [], _, _ => rfl
  | _ :: _, 0, _ => rfl
  | x :: r, i + 1, s => by
    show x :: setS r i s = x :: r.set i (some s)
    rw [setS_set r i s]
def wVar (i : Nat) : WE := fun ρ Φ => match look ρ.sl i with
  | some (.d x) => Φ x
  | _ => False
def wC (d : D) : WE := fun _ Φ => Φ d
section
variable {X : Cx} {E : XK}
theorem de_var (i : Nat) {x : Str} {pos : Pos} (hN : X.N[i]? = some x := by rfl) (hv : Vis X.env.scope x := by first | exact Or.inl rfl | exact Or.inr (Or.inl rfl) | exact Or.inr (Or.inr rfl)) (hd : (x == ("__debug__" : Str)) = false := by decide)
    (hcd : (x == ("__classdict__" : Str)) = false := by decide) : DE X E (.Name x pos) (tVar i) (wVar i) := by
  refine ⟨pe_var hN hv hd hcd, fun δ M σ H ρ R Φ Q h k => ?_⟩
  unfold wVar at h
  split at h
  · rename_i x hl
    obtain ⟨v, e, r⟩ := R.rep _ _ (look_get hl)
    cases r with
    | d r => exact ⟨v, e rfl, k v H x (Ext.refl H) r h⟩
  · exact h.elim
theorem de_int {i j pos} : DE X E (.Constant (.int i) j pos) (tC (.int i)) (wC (.int i)) := ⟨pe_int, fun δ M σ H ρ R Φ Q h k => k _ H _ (Ext.refl H) (.int i) h⟩
theorem de_bl {i j pos} : DE X E (.Constant (.bool i) j pos) (tC (.bl i)) (wC (.bl i)) := ⟨pe_bl, fun δ M σ H ρ R Φ Q h k => k _ H _ (Ext.refl H) (.bl i) h⟩
theorem de_str {i j pos} : DE X E (.Constant (.str i) j pos) (tC (.str i)) (wC (.str i)) := ⟨pe_str, fun δ M σ H ρ R Φ Q h k => k _ H _ (Ext.refl H) (.str i) h⟩
theorem de_non {j pos} : DE X E (.Constant .none j pos) (tC .non) (wC .non) := ⟨pe_non, fun δ M σ H ρ R Φ Q h k => k _ H _ (Ext.refl H) .non h⟩
end
end Dl

namespace Dl
open PySem L2
variable [KOf]

/-! ### operators -/
def Fr (δ : Option Addr) (M : List Addr) (H : Hp) : Prop := ∀ p, H p = none → ¬ Bn δ M p
theorem RE.fr {δ : Option Addr} {M : List Addr} {H : Hp} {E : XK} {σ : L2.St} {ρ : Env} (r : RE δ M H E σ ρ) : Fr δ M H := fun _ h => r.fresh h
abbrev WR := D → D → (D → Prop) → Prop
def AbsR (r : R2) (wr : WR) : Prop := ∀ (δ : Option Addr) (M : List Addr) (H : Hp), Fr δ M H → ∀ x y d f, Rep (Bn δ M) H x d → Rep (Bn δ M) H y f → ∀ (Φ : D → Prop) (Q : VK), wr d f Φ →
  (∀ v H' g, Ext δ H H' → Rep (Bn δ M) H' v g → Φ g → Q v H') → r x y H Q
def wOp (wr : WR) (wa wb : WE) : WE := fun ρ Φ => wa ρ fun d => wb ρ fun f => wr d f Φ
section
variable {K : PySem.W.Frag} {E : XK} {ta tb tc : TE} {wa wb wc : WE} {r r' : R2} {wr wr' : WR}
theorem abs_op (hr : AbsR r wr) (ha : AbsE E ta wa) (hb : AbsE E tb wb) : AbsE E (tOp r ta tb) (wOp wr wa wb) := fun δ M σ H ρ R Φ Q h k =>
  ha δ M σ H ρ R _ _ h fun v H1 d e1 r1 h1 => hb δ M σ H1 ρ (R.ext e1) _ _ h1 fun u H2 f e2 r2 h2 =>
    hr δ M H2 ((R.ext e1).ext e2).fr v u d f (r1.keep e2.kept) r2 Φ Q h2 fun v' H' g e3 r3 h3 => k v' H' g ((e1.trans e2).trans e3) r3 h3
def wI0 (g : Int → Int → D) : WR := fun d f Φ => match d, f with
  | .int i, .int j => Φ (g i j)
  | _, _ => False
def wI (C : Int → Int → Prop) (g : Int → Int → D) : WR := fun d f Φ => match d, f with
  | .int i, .int j => C i j ∧ Φ (g i j)
  | _, _ => False
theorem ar_i0 {g : Int → Int → V} {g' : Int → Int → D} (hg : ∀ B H i j, Rep B H (g i j) (g' i j)) : AbsR (rI0 g) (wI0 g') := by
  intro δ M H fr x y d f rx ry Φ Q h k
  cases rx <;> cases ry <;> first | exact False.elim h | skip
  exact ⟨_, _, rfl, rfl, k _ H _ (Ext.refl H) (hg _ _ _ _) h⟩
theorem ar_i {C : Int → Int → Prop} {g : Int → Int → V} {g' : Int → Int → D} (hg : ∀ B H i j, Rep B H (g i j) (g' i j)) : AbsR (rI C g) (wI C g') := by
  intro δ M H fr x y d f rx ry Φ Q h k
  cases rx <;> cases ry <;> first | exact False.elim h | skip
  exact ⟨_, _, rfl, rfl, h.1, k _ H _ (Ext.refl H) (hg _ _ _ _) h.2⟩
theorem ar_add : AbsR (rI0 fun i j => .int (i + j)) (wI0 fun i j => .int (i + j)) := ar_i0 fun _ _ _ _ => .int _
theorem ar_sub : AbsR (rI0 fun i j => .int (i - j)) (wI0 fun i j => .int (i - j)) := ar_i0 fun _ _ _ _ => .int _
theorem ar_mul : AbsR (rI CMul fun i j => .int (i * j)) (wI CMul fun i j => .int (i * j)) := ar_i fun _ _ _ _ => .int _
theorem ar_mod : AbsR (rI (fun _ j => 0 < j) fun i j => .int (i % j)) (wI (fun _ j => 0 < j) fun i j => .int (i % j)) := ar_i fun _ _ _ _ => .int _
theorem ar_fdiv : AbsR (rI CDiv fun i j => .int (i / j)) (wI CDiv fun i j => .int (i / j)) := ar_i fun _ _ _ _ => .int _
theorem ar_pow : AbsR (rI CPow fun i j => .int (i ^ j.toNat)) (wI CPow fun i j => .int (i ^ j.toNat)) := ar_i fun _ _ _ _ => .int _
theorem ar_lt : AbsR (rI0 fun i j => .bl (decide (i < j))) (wI0 fun i j => .bl (decide (i < j))) := ar_i0 fun _ _ _ _ => .bl _
theorem ar_le : AbsR (rI0 fun i j => .bl (decide (i ≤ j))) (wI0 fun i j => .bl (decide (i ≤ j))) := ar_i0 fun _ _ _ _ => .bl _
theorem ar_gt : AbsR (rI0 fun i j => .bl (decide (j < i))) (wI0 fun i j => .bl (decide (j < i))) := ar_i0 fun _ _ _ _ => .bl _
theorem ar_ge : AbsR (rI0 fun i j => .bl (decide (j ≤ i))) (wI0 fun i j => .bl (decide (j ≤ i))) := ar_i0 fun _ _ _ _ => .bl _
/-- == of bools, ints, texts, None -/
def eqS : D → D → Option Bool
  | .int i, .int j => some (decide (i = j))
  | .str i, .str j => some (decide (i = j))
  | .bl i, .bl j => some (decide (i = j))
  | .non, .non => some true
  | _, _ => none
def wEq : WR := fun d f Φ => match eqS d f with
  | some b => Φ (.bl b)
  | none => False
def wNe : WR := fun d f Φ => match eqS d f with
  | some b => Φ (.bl (!b))
  | none => False
theorem dec_inj {α β : Type} [DecidableEq α] [DecidableEq β] {g : α → β} (hg : ∀ a b, g a = g b → a = b) (a b : α) : decide (g a = g b) = decide (a = b) := by
  by_cases h : a = b
  · subst h; simp
  · rw [decide_eq_false h, decide_eq_false fun z => h (hg _ _ z)]
theorem eqS_is {B : Addr → Prop} {H : Hp} {x y : V} {d f : D} {b : Bool} (rx : Rep B H x d) (ry : Rep B H y f) (h : eqS d f = some b) : scal x y = true ∧ decide (x = y) = b := by
  cases rx <;> cases ry <;> first | (cases h; done) | skip
  · cases h; exact ⟨rfl, rfl⟩
  · cases h; exact ⟨rfl, dec_inj (fun _ _ z => V.bl.inj z) _ _⟩
  · cases h; exact ⟨rfl, dec_inj (fun _ _ z => V.int.inj z) _ _⟩
  · cases h; exact ⟨rfl, dec_inj (fun _ _ z => V.str.inj z) _ _⟩
theorem ar_eq : AbsR rEq wEq := by
  intro δ M H fr x y d f rx ry Φ Q h k
  unfold wEq at h
  split at h
  · rename_i b e
    obtain ⟨h1, h2⟩ := eqS_is rx ry e
    exact ⟨h1, k _ H _ (Ext.refl H) (by rw [h2]; exact .bl b) h⟩
  · exact h.elim
theorem ar_ne : AbsR rNe wNe := by
  intro δ M H fr x y d f rx ry Φ Q h k
  unfold wNe at h
  split at h
  · rename_i b e
    obtain ⟨h1, h2⟩ := eqS_is rx ry e
    exact ⟨h1, k _ H _ (Ext.refl H) (by rw [h2]; exact .bl _) h⟩
  · exact h.elim
end

section
variable {X : Cx} {E : XK} {a b c : Expr} {wa wb wc : WE} {ta tb tc : TE} {r r' : R2} {wr wr' : WR} {pos : Pos}
theorem de_op {op : Operator} (ho : OpR X (binaryOp op) r) (hr : AbsR r wr) (ha : DE X E a ta wa) (hb : DE X E b tb wb) : DE X E (.BinOp a op b pos) (tOp r ta tb) (wOp wr wa wb) := by
  obtain ⟨pa, aa⟩ := ha
  obtain ⟨pb, ab⟩ := hb
  exact ⟨pe_op ho pa pb, abs_op hr aa ab⟩
theorem de_cmp {op : CmpOp} (ho : OpR X (compareOp op) r) (hr : AbsR r wr) (ha : DE X E a ta wa) (hb : DE X E b tb wb) (hm : behindInMarks op b = false) : DE X E (.Compare a [op] [b] pos) (tOp r ta tb) (wOp wr wa wb) := by
  obtain ⟨pa, aa⟩ := ha
  obtain ⟨pb, ab⟩ := hb
  exact ⟨pe_cmpR ho pa pb hm, abs_op hr aa ab⟩
/-! ### tests -/
def wTest (w : WE) : WT := fun ρ Φ => w ρ fun d => match d with
  | .bl k => Φ k
  | _ => False
theorem dt_cmp {op : CmpOp} (ho : OpR X (compareOp op) r) (hr : AbsR r wr) (ha : DE X E a ta wa) (hb : DE X E b tb wb) (hm : behindInMarks op b = false) : DT X E (.Compare a [op] [b] pos) (tTest (tOp r ta tb)) (wTest (wOp wr wa wb)) := by
  obtain ⟨pa, aa⟩ := ha
  obtain ⟨pb, ab⟩ := hb
  refine ⟨pt_cmpR ho pa pb hm, fun δ M σ H ρ R Φ Q h k => ?_⟩
  refine abs_op hr aa ab δ M σ H ρ R _ _ h fun v H' d e r h' => ?_
  cases r <;> first | exact False.elim h' | exact ⟨_, rfl, k _ H' e h'⟩
theorem dt_val {e : Expr} (h : DE X E e ta wa) (he : ∀ whole, isTrue e X.env whole = (do let v ← whole; standAt e.pos; holding [v] (truthy v)) := by intro _; rfl) : DT X E e (tB ta) (wTest wa) := by
  obtain ⟨pa, aa⟩ := h
  refine ⟨pt_val pa he, fun δ M σ H ρ R Φ Q h k => ?_⟩
  refine aa δ M σ H ρ R _ _ h fun v H' d e r h' => ?_
  cases r <;> first | exact False.elim h' | exact ⟨_, rfl, k _ H' e h'⟩
/-- a < b < c -/
def wChain (wr wr' : WR) (wa wb wc : WE) : WE := fun ρ Φ => wa ρ fun d => wb ρ fun f => wr d f fun z => match z with
  | .bl k => if k = true then wc ρ fun g => wr' f g Φ else Φ (.bl false)
  | _ => False
theorem abs_chain (hr : AbsR r wr) (hr' : AbsR r' wr') (ha : AbsE E ta wa) (hb : AbsE E tb wb) (hc : AbsE E tc wc) : AbsE E (tChain r r' ta tb tc) (wChain wr wr' wa wb wc) := fun δ M σ H ρ R Φ Q h k =>
  ha δ M σ H ρ R _ _ h fun v H1 d e1 r1 h1 => hb δ M σ H1 ρ (R.ext e1) _ _ h1 fun u H2 f e2 r2 h2 =>
    hr δ M H2 ((R.ext e1).ext e2).fr v u d f (r1.keep e2.kept) r2 _ _ h2 fun v' H3 g e3 r3 h3 => by
      cases r3 <;> first | exact False.elim h3 | skip
      rename_i b
      refine ⟨b, rfl, ?_⟩
      cases b with
      | false => exact k _ H3 _ ((e1.trans e2).trans e3) (.bl false) h3
      | true =>
        have h3' : wc ρ fun g => wr' f g Φ := h3
        exact hc δ M σ H3 ρ (((R.ext e1).ext e2).ext e3) _ _ h3' fun u' H4 g' e4 r4 h4 =>
          hr' δ M H4 ((((R.ext e1).ext e2).ext e3).ext e4).fr u u' f g' (r2.keep (e3.trans e4).kept) r4 Φ Q h4 fun w' H5 g5 e5 r5 h5 => k w' H5 g5 ((((e1.trans e2).trans e3).trans e4).trans e5) r5 h5
theorem de_chain {op op' : CmpOp} (ho : OpR X (compareOp op) r) (hr : AbsR r wr) (ho' : OpR X (compareOp op') r') (hr' : AbsR r' wr') (ha : DE X E a ta wa) (hb : DE X E b tb wb) (hc : DE X E c tc wc)
    (hm : lastMarks [op, op'] [b, c] = false := by with_unfolding_all rfl) : DE X E (.Compare a [op, op'] [b, c] pos) (tChain r r' ta tb tc) (wChain wr wr' wa wb wc) := by
  obtain ⟨pa, aa⟩ := ha
  obtain ⟨pb, ab⟩ := hb
  obtain ⟨pc, ac⟩ := hc
  exact ⟨pe_chain ho ho' pa pb pc hm, abs_chain hr hr' aa ab ac⟩
theorem dt_chain {op op' : CmpOp} (ho : OpR X (compareOp op) r) (hr : AbsR r wr) (ho' : OpR X (compareOp op') r') (hr' : AbsR r' wr') (ha : DE X E a ta wa) (hb : DE X E b tb wb) (hc : DE X E c tc wc)
    (hm : lastMarks [op, op'] [b, c] = false := by with_unfolding_all rfl) : DT X E (.Compare a [op, op'] [b, c] pos) (tTest (tChain r r' ta tb tc)) (wTest (wChain wr wr' wa wb wc)) := by
  obtain ⟨pa, aa⟩ := ha
  obtain ⟨pb, ab⟩ := hb
  obtain ⟨pc, ac⟩ := hc
  refine ⟨pt_chain ho ho' pa pb pc hm, fun δ M σ H ρ R Φ Q h k => ?_⟩
  refine abs_chain hr hr' aa ab ac δ M σ H ρ R _ _ h fun v H' d e r h' => ?_
  cases r <;> first | exact False.elim h' | exact ⟨_, rfl, k _ H' e h'⟩
/-- and, or, not of tests -/
structure DW (X : Cx) (E : XK) (e : Expr) (t : TT) (w : WT) : Prop where
  p : PW X e t
  a : AbsT E t w
variable {va vb : WT} {qa qb : TT} {rest : List Expr}
def wAnd (va vb : WT) : WT := fun ρ Φ => va ρ fun k => if k = true then vb ρ Φ else Φ false
def wOr (va vb : WT) : WT := fun ρ Φ => va ρ fun k => if k = true then Φ true else vb ρ Φ
def wNot (va : WT) : WT := fun ρ Φ => va ρ fun k => Φ (!k)
theorem DW.pt {e : Expr} (h : DW X E e qa va) : DT X E e qa va := ⟨h.p.pt, h.a⟩
theorem dw_and1 (ha : DT X E a qa va) : DW X E (.BoolOp .And [a] pos) qa va := ⟨pw_and1 ha.p, ha.a⟩
theorem dw_or1 (ha : DT X E a qa va) : DW X E (.BoolOp .Or [a] pos) qa va := ⟨pw_or1 ha.p, ha.a⟩
theorem dw_and (ha : DT X E a qa va) (hb : DW X E (.BoolOp .And (b :: rest) pos) qb vb) : DW X E (.BoolOp .And (a :: b :: rest) pos) (tAnd qa qb) (wAnd va vb) := by
  obtain ⟨pa, aa⟩ := ha
  obtain ⟨pb, ab⟩ := hb
  refine ⟨pw_and pa pb, fun δ M σ H ρ R Φ Q h k => ?_⟩
  refine aa δ M σ H ρ R _ _ h fun c H1 e1 h1 => ?_
  cases c with
  | true => exact ab δ M σ H1 ρ (R.ext e1) _ _ h1 fun c' H2 e2 h2 => k c' H2 (e1.trans e2) h2
  | false => exact k false H1 e1 h1
theorem dw_or (ha : DT X E a qa va) (hb : DW X E (.BoolOp .Or (b :: rest) pos) qb vb) : DW X E (.BoolOp .Or (a :: b :: rest) pos) (tOr qa qb) (wOr va vb) := by
  obtain ⟨pa, aa⟩ := ha
  obtain ⟨pb, ab⟩ := hb
  refine ⟨pw_or pa pb, fun δ M σ H ρ R Φ Q h k => ?_⟩
  refine aa δ M σ H ρ R _ _ h fun c H1 e1 h1 => ?_
  cases c with
  | false => exact ab δ M σ H1 ρ (R.ext e1) _ _ h1 fun c' H2 e2 h2 => k c' H2 (e1.trans e2) h2
  | true => exact k true H1 e1 h1
theorem dt_not (ha : DT X E a qa va) : DT X E (.UnaryOp .Not a pos) (tNot qa) (wNot va) := by
  obtain ⟨pa, aa⟩ := ha
  exact ⟨pt_not pa, fun δ M σ H ρ R Φ Q h k => aa δ M σ H ρ R _ _ h fun c H1 e1 h1 => k (!c) H1 e1 h1⟩
/-- .. as values -/
def wAndV (wa wb : WE) : WE := fun ρ Φ => wa ρ fun d => match d with
  | .bl k => if k = true then wb ρ Φ else Φ (.bl false)
  | _ => False
def wOrV (wa wb : WE) : WE := fun ρ Φ => wa ρ fun d => match d with
  | .bl k => if k = true then Φ (.bl true) else wb ρ Φ
  | _ => False
def wNotV (wa : WE) : WE := fun ρ Φ => wa ρ fun d => match d with
  | .bl k => Φ (.bl (!k))
  | _ => False
theorem de_one {op : BoolOp} (ha : DE X E a ta wa) : DE X E (.BoolOp op [a] pos) ta wa := ⟨pe_one ha.p, ha.a⟩
theorem de_and (ha : DE X E a ta wa) (hb : DE X E (.BoolOp .And (b :: rest) pos) tb wb) : DE X E (.BoolOp .And (a :: b :: rest) pos) (tAndV ta tb) (wAndV wa wb) := by
  obtain ⟨pa, aa⟩ := ha
  obtain ⟨pb, ab⟩ := hb
  refine ⟨pe_and pa pb, fun δ M σ H ρ R Φ Q h k => ?_⟩
  refine aa δ M σ H ρ R _ _ h fun v H1 d e1 r1 h1 => ?_
  cases r1 <;> first | exact False.elim h1 | skip
  rename_i c
  refine ⟨c, rfl, ?_⟩
  cases c with
  | true => exact ab δ M σ H1 ρ (R.ext e1) _ _ h1 fun v' H2 d' e2 r2 h2 => k v' H2 d' (e1.trans e2) r2 h2
  | false => exact k _ H1 _ e1 (.bl false) h1
theorem de_or (ha : DE X E a ta wa) (hb : DE X E (.BoolOp .Or (b :: rest) pos) tb wb) : DE X E (.BoolOp .Or (a :: b :: rest) pos) (tOrV ta tb) (wOrV wa wb) := by
  obtain ⟨pa, aa⟩ := ha
  obtain ⟨pb, ab⟩ := hb
  refine ⟨pe_or pa pb, fun δ M σ H ρ R Φ Q h k => ?_⟩
  refine aa δ M σ H ρ R _ _ h fun v H1 d e1 r1 h1 => ?_
  cases r1 <;> first | exact False.elim h1 | skip
  rename_i c
  refine ⟨c, rfl, ?_⟩
  cases c with
  | false => exact ab δ M σ H1 ρ (R.ext e1) _ _ h1 fun v' H2 d' e2 r2 h2 => k v' H2 d' (e1.trans e2) r2 h2
  | true => exact k _ H1 _ e1 (.bl true) h1
theorem de_not (ha : DE X E a ta wa) : DE X E (.UnaryOp .Not a pos) (tNotV ta) (wNotV wa) := by
  obtain ⟨pa, aa⟩ := ha
  refine ⟨pe_not pa, fun δ M σ H ρ R Φ Q h k => ?_⟩
  refine aa δ M σ H ρ R _ _ h fun v H1 d e1 r1 h1 => ?_
  cases r1 <;> first | exact False.elim h1 | exact ⟨_, rfl, k _ H1 _ e1 (.bl _) h1⟩
def wIfE (va : WT) (wa wb : WE) : WE := fun ρ Φ => va ρ fun k => if k = true then wa ρ Φ else wb ρ Φ
theorem de_ifExp {c : Expr} (hc : DT X E c qa va) (ha : DE X E a ta wa) (hb : DE X E b tb wb) : DE X E (.IfExp c a b pos) (tIf qa ta tb) (wIfE va wa wb) := by
  obtain ⟨pc, ac⟩ := hc
  obtain ⟨pa, aa⟩ := ha
  obtain ⟨pb, ab⟩ := hb
  refine ⟨pe_ifExp pc pa pb, fun δ M σ H ρ R Φ Q h k => ?_⟩
  refine ac δ M σ H ρ R _ _ h fun c H1 e1 h1 => ?_
  cases c with
  | true => exact aa δ M σ H1 ρ (R.ext e1) _ _ h1 fun v' H2 d' e2 r2 h2 => k v' H2 d' (e1.trans e2) r2 h2
  | false => exact ab δ M σ H1 ρ (R.ext e1) _ _ h1 fun v' H2 d' e2 r2 h2 => k v' H2 d' (e1.trans e2) r2 h2

/-! ### argument lists, displays -/
variable {e : Expr} {es : List Expr} {te : TE} {tl : TA} {w : WE} {ws : WA}
def wCons (w : WE) (ws : WA) : WA := fun ρ Φ => w ρ fun d => ws ρ fun ss => Φ (.d d :: ss)
def wDice (i : Nat) (ws : WA) : WA := fun ρ Φ => match look ρ.sl i with
  | some .dice => ws ρ fun ss => Φ (.dice :: ss)
  | _ => False
def wNil : WA := fun _ Φ => Φ []
theorem Paired.ext {δ : Option Addr} {M : List Addr} {H H' : Hp} (e : Ext δ H H') : ∀ {vs : List V} {ss : List S}, Paired (RepS δ M H) vs ss → Paired (RepS δ M H') vs ss
  | _, _, .nil => .nil
  | _, _, .cons r t => .cons (r.ext e) (Paired.ext e t)
theorem da_nil : DA X E [] tNil wNil := ⟨pa_nil, fun δ M σ H ρ R Φ Q h k => k [] H [] (Ext.refl H) .nil rfl rfl h⟩
theorem da_cons (ha : DE X E e te w) (hr : DA X E es tl ws) (hs : starEach (e :: es) X.env = (false, eval e X.env) :: starEach es X.env := by rfl) : DA X E (e :: es) (tCons te tl) (wCons w ws) := by
  obtain ⟨pa, aa⟩ := ha
  obtain ⟨pb, ab⟩ := hr
  refine ⟨pa_cons pa pb hs, fun δ M σ H ρ R Φ Q h k => ?_⟩
  exact aa δ M σ H ρ R _ _ h fun v H1 d e1 r1 h1 => ab δ M σ H1 ρ (R.ext e1) _ _ h1 fun vs H2 ss e2 r2 l2 n2 h2 => k _ H2 _ (e1.trans e2) (.cons (.d (r1.keep e2.kept)) r2) (congrArg (· + 1) l2) n2 h2
theorem da_dice (i : Nat) {x : Str} {p : Pos} (hr : DA X E es tl ws) (hN : X.N[i]? = some x := by rfl) (hv : Vis X.env.scope x := by first | exact Or.inl rfl | exact Or.inr (Or.inl rfl) | exact Or.inr (Or.inr rfl)) (hd : (x == ("__debug__" : Str)) = false := by decide)
    (hcd : (x == ("__classdict__" : Str)) = false := by decide) (hs : starEach (.Name x p :: es) X.env = (false, eval (.Name x p) X.env) :: starEach es X.env := by rfl) : DA X E (.Name x p :: es) (tCons (tVar i) tl) (wDice i ws) := by
  obtain ⟨pb, ab⟩ := hr
  refine ⟨pa_cons (pe_var hN hv hd hcd) pb hs, fun δ M σ H ρ R Φ Q h k => ?_⟩
  unfold wDice at h
  split at h
  · rename_i hl
    obtain ⟨v, ev, r⟩ := R.rep _ _ (look_get hl)
    exact ⟨v, ev rfl, ab δ M σ H ρ R _ _ h fun vs H2 ss e2 r2 l2 n2 h2 => k _ H2 _ e2 (.cons (r.ext e2) r2) (congrArg (· + 1) l2) n2 h2⟩
  · exact h.elim
def allD : List S → Option (List D)
  | [] => some []
  | .d x :: r => (allD r).map (x :: ·)
  | _ => none
theorem allD_rep {δ : Option Addr} {M : List Addr} {H : Hp} : ∀ {vs : List V} {ss : List S} {ds : List D}, Paired (RepS δ M H) vs ss → allD ss = some ds → RepL (Bn δ M) H vs ds
  | _, _, _, .nil, h => by cases h; exact .nil
  | _, _, _, .cons (.d r) t, h => by
    unfold allD at h
    cases q : allD _ with
    | none => rw [q] at h; cases h
    | some es => rw [q] at h; cases h; exact .cons r (allD_rep t q)
  | _, _, _, .cons (.obj ..) t, h => by cases h
  | _, _, _, .cons (.gh ..) t, h => by cases h
  | _, _, _, .cons (.dice ..) t, h => by cases h
def wTup (ws : WA) : WE := fun ρ Φ => ws ρ fun ss => match allD ss with
  | some ds => ds.length ≤ 100000 ∧ Φ (.tup ds)
  | none => False
def wLst (ws : WA) : Env → (List D → Prop) → Prop := fun ρ Φ => ws ρ fun ss => match allD ss with
  | some ds => ds.length ≤ 100000 ∧ Φ ds
  | none => False
theorem sz_of {n : Nat} (h : n ≤ 100000) : n ≤ sizeLine := Nat.le_trans h (by decide)
theorem sz_lt {n : Nat} (h : n < 100000) : n < sizeLine := Nat.lt_of_lt_of_le h (by decide)
theorem de_tup {x1} (h : DA X E es tl ws) : DE X E (.Tuple es x1 pos) (tTup tl) (wTup ws) := by
  obtain ⟨pa, aa⟩ := h
  refine ⟨pe_tup pa, fun δ M σ H ρ R Φ Q h k => ?_⟩
  refine aa δ M σ H ρ R _ _ h fun vs H1 ss e1 r1 _ _ h1 => ?_
  split at h1
  · rename_i ds ed
    have rl := allD_rep r1 ed
    refine ⟨by rw [rl.length]; exact sz_of h1.1, fun p hp => ?_⟩
    exact k _ _ _ (e1.trans (Ext.new hp)) (.tup (.of ((R.ext e1).fresh hp) upd_same) (rl.keep (Kept.new hp))) h1.2
  · exact h1.elim
theorem df_lst (h : DA X E es tl ws) : DF X E (.List es pos) (tLst tl) (wLst ws) := by
  obtain ⟨pa, aa⟩ := h
  refine ⟨pe_lst pa, fun δ M σ H ρ R Φ Q h k => ?_⟩
  refine aa δ M σ H ρ R _ _ h fun vs H1 ss e1 r1 _ _ h1 => ?_
  split at h1
  · rename_i ds ed
    have rl := allD_rep r1 ed
    refine ⟨by rw [rl.length]; exact sz_of h1.1, fun p hp => ?_⟩
    exact k p vs _ ds (e1.free R.okd hp) (e1.trans (Ext.new hp)) upd_same ((rl.less (bn_cons hp)).keep (Kept.new hp)) h1.2
  · exact h1.elim
/-- a new list as plain data -/
def wNew (w : Env → (List D → Prop) → Prop) : WE := fun ρ Φ => w ρ fun ds => Φ (.lst ds)
theorem DF.de {w : Env → (List D → Prop) → Prop} (h : DF X E e te w) : DE X E e te (wNew w) := by
  obtain ⟨p, a⟩ := h
  refine ⟨p, fun δ M σ H ρ R Φ Q h k => ?_⟩
  exact a δ M σ H ρ R _ _ h fun q vs H1 ds f e1 hq rl h1 => k _ H1 _ e1 (.lst (R.fresh f) hq (rl.less bn_tail)) h1

/-! ### subscripts, slices -/
def wIx : WR := fun d f Φ => match d, f with
  | .lst xs, .int i => ∃ x, atI xs i = some x ∧ Φ x
  | .tup xs, .int i => ∃ x, atI xs i = some x ∧ Φ x
  | _, _ => False
theorem RepL.atI {B : Addr → Prop} {H : Hp} {vs : List V} {ds : List D} {i : Int} {d : D} (r : RepL B H vs ds) (h : L2.atI ds i = some d) : ∃ v, L2.atI vs i = some v ∧ Rep B H v d := by
  unfold L2.atI at h ⊢
  rw [r.length]
  cases e : ixN ds.length i with
  | none => rw [e] at h; cases h
  | some j =>
    rw [e] at h
    exact r.at (show ds[j]? = some d from h)
def rIxLT (K : PySem.W.Frag) : R2 := fun x y H Q => rIxL K x y H Q ∨ rIxT K x y H Q
theorem ix_lt : IxR X (rIxLT X.K) := ix_list.or ix_tup
theorem ar_ix : AbsR (rIxLT KOf.K) wIx := by
  intro δ M H fr x y d f rx ry Φ Q h k
  cases rx <;> cases ry <;> first | exact False.elim h | skip
  · rename_i n s r i
    obtain ⟨z, e, h⟩ := h
    obtain ⟨v, e', r'⟩ := r.atI e
    exact .inl ⟨_, _, i, v, rfl, rfl, SqL.of s, e', k v H z (Ext.refl H) r' h⟩
  · rename_i s r i
    obtain ⟨z, e, h⟩ := h
    obtain ⟨v, e', r'⟩ := r.atI e
    exact .inr ⟨_, _, i, v, rfl, rfl, s.sq, e', k v H z (Ext.refl H) r' h⟩
theorem de_ix (ha : DE X E a ta wa) (hb : DE X E b tb wb) (hs : PlainIx b := by exact fun _ _ => rfl) (hK : X.K = KOf.K := by rfl) : DE X E (.Subscript a b pos) (tOp (rIxLT KOf.K) ta tb) (wOp wIx wa wb) := by
  obtain ⟨pa, aa⟩ := ha
  obtain ⟨pb, ab⟩ := hb
  exact ⟨pe_ix (hK ▸ ix_lt) pa pb hs, abs_op ar_ix aa ab⟩
/-- xs[e], xs a list of one's own -/
def wIxN (i : Nat) (wb : WE) : WE := fun ρ Φ => match look ρ.sl i with
  | some (.obj _ (.lst xs)) => wb ρ fun f => match f with
    | .int k => ∃ x, atI xs k = some x ∧ Φ x
    | _ => False
  | _ => False
theorem RE.own {δ : Option Addr} {M : List Addr} {H : Hp} {E : XK} {σ : L2.St} {ρ : Env} (R : RE δ M H E σ ρ) {i : Nat} {p : Addr} {ds : List D} (h : look ρ.sl i = some (.own p ds)) :
    ∃ vs, σ[i]? = some (some (.ref p)) ∧ p ∈ M ∧ δ ≠ some p ∧ H p = some (.lst vs) ∧ RepL (Bn δ M) H vs ds := by
  obtain ⟨v, e, r⟩ := R.rep _ _ (look_get h)
  cases r with
  | obj m n hp => obtain ⟨vs, hp, rl⟩ := hp; exact ⟨_, e rfl, m, n, hp, rl⟩
/-- .. of any kind -/
theorem RE.own' {δ : Option Addr} {M : List Addr} {H : Hp} {E : XK} {σ : L2.St} {ρ : Env} (R : RE δ M H E σ ρ) {i : Nat} {p : Addr} {o : OC} (h : look ρ.sl i = some (.obj p o)) :
    σ[i]? = some (some (.ref p)) ∧ p ∈ M ∧ δ ≠ some p ∧ RepO (Bn δ M) H p o := by
  obtain ⟨v, e, r⟩ := R.rep _ _ (look_get h)
  cases r with
  | obj m n hp => exact ⟨e rfl, m, n, hp⟩
theorem de_ixOwn (i : Nat) {x : Str} {p : Pos} (hb : DE X E b tb wb) (hs : PlainIx b := by exact fun _ _ => rfl) (hN : X.N[i]? = some x := by rfl) (hv : Vis X.env.scope x := by first | exact Or.inl rfl | exact Or.inr (Or.inl rfl) | exact Or.inr (Or.inr rfl)) (hd : (x == ("__debug__" : Str)) = false := by decide)
    (hcd : (x == ("__classdict__" : Str)) = false := by decide) : DE X E (.Subscript (.Name x p) b pos) (tOp (rIxL X.K) (tVar i) tb) (wIxN i wb) := by
  obtain ⟨pb, ab⟩ := hb
  refine ⟨pe_ix ix_list (pe_var hN hv hd hcd) pb hs, fun δ M σ H ρ R Φ Q h k => ?_⟩
  unfold wIxN at h
  split at h
  · rename_i q ds hl
    obtain ⟨vs, e, m, n, hp, rl⟩ := R.own hl
    refine ⟨_, e, ab δ M σ H ρ R _ _ h fun u H1 f e1 r1 h1 => ?_⟩
    cases r1 <;> first | exact False.elim h1 | skip
    obtain ⟨z, ez, h1⟩ := h1
    have hp1 := e1.1 _ _ hp n
    obtain ⟨v, ev, r'⟩ := (rl.keep e1.kept).atI ez
    exact ⟨_, _, _, v, rfl, rfl, SqL.of hp1, ev, k v H1 z e1 r' h1⟩
  · exact h.elim
def cutG {α : Type} (xs : List α) (lo hi : Option Int) : List α := (xs.drop (HT.sIx xs.length 0 lo)).take (HT.sIx xs.length xs.length hi - HT.sIx xs.length 0 lo)
theorem RepL.cut {B : Addr → Prop} {H : Hp} {vs : List V} {ds : List D} (r : RepL B H vs ds) (lo hi : Option Int) : RepL B H (cutV vs lo hi) (cutG ds lo hi) := by
  unfold cutV cutG
  rw [r.length]
  exact (r.drop _).take _
abbrev WO := Env → (Option Int → Prop) → Prop
structure DO (X : Cx) (E : XK) (e : Option Expr) (t : TO) (w : WO) : Prop where
  p : PO X e t
  a : ∀ (δ : Option Addr) (M : List Addr) (σ : L2.St) (H : Hp) (ρ : Env), RE δ M H E σ ρ → ∀ (Φ : Option Int → Prop) (Q : Option Int → Hp → Prop), w ρ Φ → (∀ o H', Ext δ H H' → Φ o → Q o H') → t σ H Q
def wNoP : WO := fun _ Φ => Φ none
def wPart (w : WE) : WO := fun ρ Φ => w ρ fun d => match d with
  | .int i => Φ (some i)
  | _ => False
theorem do_none : DO X E none tNoPart wNoP := ⟨po_none, fun δ M σ H ρ R Φ Q h k => k none H (Ext.refl H) h⟩
theorem do_some (h : DE X E e te w) : DO X E (some e) (tPart te) (wPart w) := by
  obtain ⟨p, a⟩ := h
  refine ⟨po_some p, fun δ M σ H ρ R Φ Q h k => ?_⟩
  refine a δ M σ H ρ R _ _ h fun v H1 d e1 r1 h1 => ?_
  cases r1 <;> first | exact False.elim h1 | exact ⟨_, rfl, k _ H1 e1 h1⟩
variable {lo hi : Option Expr} {wl wh : WO} {to tu : TO}
def wSlT (w : WE) (wl wh : WO) : WE := fun ρ Φ => w ρ fun d => wl ρ fun l => wh ρ fun h => match d with
  | .tup xs => ¬ (HT.sIx xs.length 0 l = 0 ∧ HT.sIx xs.length xs.length h = xs.length) ∧ Φ (.tup (cutG xs l h))
  | _ => False
def wSlL (w : WE) (wl wh : WO) : Env → (List D → Prop) → Prop := fun ρ Φ => w ρ fun d => wl ρ fun l => wh ρ fun h => match d with
  | .lst xs => Φ (cutG xs l h)
  | _ => False
theorem de_slT {p2 : Pos} (he : DE X E e te w) (hl : DO X E lo to wl) (hu : DO X E hi tu wh) (hK : X.K = KOf.K := by rfl) : DE X E (.Subscript e (.Slice lo hi none p2) pos) (tSl (rSlT KOf.K) te to tu) (wSlT w wl wh) := by
  obtain ⟨p, ae⟩ := he
  obtain ⟨pl, al⟩ := hl
  obtain ⟨ph, ah⟩ := hu
  refine ⟨pe_slice (hK ▸ sl_tup) p pl ph, fun δ M σ H ρ R Φ Q h k => ?_⟩
  refine ae δ M σ H ρ R _ _ h fun v H1 d e1 r1 h1 => ?_
  refine al δ M σ H1 ρ (R.ext e1) _ _ h1 fun l H2 e2 h2 => ?_
  refine ah δ M σ H2 ρ ((R.ext e1).ext e2) _ _ h2 fun u H3 e3 h3 => ?_
  have r3 := r1.keep (e2.trans e3).kept
  cases r3 <;> first | exact False.elim h3 | skip
  rename_i s rl
  refine ⟨_, _, rfl, s.sq, by rw [rl.length]; exact h3.1, fun q hq => ?_⟩
  have e := (e1.trans e2).trans e3
  exact k _ _ _ (e.trans (Ext.new hq)) (.tup (.of ((R.ext e).fresh hq) upd_same) ((rl.cut l u).keep (Kept.new hq))) h3.2
theorem df_slL {p2 : Pos} (he : DE X E e te w) (hl : DO X E lo to wl) (hu : DO X E hi tu wh) : DF X E (.Subscript e (.Slice lo hi none p2) pos) (tSl (rSlL X.K) te to tu) (wSlL w wl wh) := by
  obtain ⟨p, ae⟩ := he
  obtain ⟨pl, al⟩ := hl
  obtain ⟨ph, ah⟩ := hu
  refine ⟨pe_slice sl_list p pl ph, fun δ M σ H ρ R Φ Q h k => ?_⟩
  refine ae δ M σ H ρ R _ _ h fun v H1 d e1 r1 h1 => ?_
  refine al δ M σ H1 ρ (R.ext e1) _ _ h1 fun l H2 e2 h2 => ?_
  refine ah δ M σ H2 ρ ((R.ext e1).ext e2) _ _ h2 fun u H3 e3 h3 => ?_
  have r3 := r1.keep (e2.trans e3).kept
  cases r3 <;> first | exact False.elim h3 | skip
  rename_i n s rl
  refine ⟨_, _, rfl, SqL.of s, fun q hq => ?_⟩
  have e := (e1.trans e2).trans e3
  exact k q _ _ _ (e.free R.okd hq) (e.trans (Ext.new hq)) upd_same (((rl.cut l u).less (bn_cons hq)).keep (Kept.new hq)) h3
end
end Dl

namespace Dl
open PySem L2
variable [KOf]

/-! ### calls of built-ins -/
abbrev WCl := List S → (D → Prop) → Prop
def AbsC (r : List V → Hp → VK → Prop) (wc : WCl) : Prop := ∀ (δ : Option Addr) (M : List Addr) (H : Hp), Fr δ M H → ∀ vs ss, Paired (RepS δ M H) vs ss → ∀ (Φ : D → Prop) (Q : VK), wc ss Φ →
  (∀ v H' d, Ext δ H H' → Rep (Bn δ M) H' v d → Φ d → Q v H') → r vs H Q
def wCB (wc : WCl) (ws : WA) : WE := fun ρ Φ => ws ρ fun ss => wc ss Φ
section
variable {X : Cx} {E : XK} {e : Expr} {es : List Expr} {te : TE} {tl : TA} {w : WE} {ws : WA} {r : List V → Hp → VK → Prop} {wc : WCl} {x : Str} {p pos : Pos} {id T : String}
theorem abs_CB {n : Nat} (hr : AbsC r wc) (ha : AbsA E n tl ws) : AbsE E (tCB r tl) (wCB wc ws) := fun δ M σ H ρ R Φ Q h k =>
  ha δ M σ H ρ R _ _ h fun vs H1 ss e1 r1 _ _ h1 => hr δ M H1 (R.ext e1).fr vs ss r1 Φ Q h1 fun v H2 d e2 r2 h2 => k v H2 d (e1.trans e2) r2 h2
theorem de_callB (hc : CallR X (.builtin id) r) (hr : AbsC r wc) (hg : Gl X x) (hm : X.mg x = none) (hv : bootBuiltins x = some (.builtin id)) (ha : DA X E (e :: es) tl ws) (hn : x ≠ "__name__" := by decide) (hdb : (x == ("__debug__" : Str)) = false := by decide)
    (he : starEach (e :: es) X.env = (false, eval e X.env) :: starEach es X.env := by rfl) (hpl : (backTo pos (starEach es X.env)).any (·.1) = false := by rfl) : DE X E (.Call (.Name x p) (e :: es) [] pos) (tCB r tl) (wCB wc ws) :=
  ⟨pe_callB hc hg hm hv ha.p hn hdb he hpl, abs_CB hr ha.a⟩
theorem de_callTy (hc : CallR X (.type T) r) (hr : AbsC r wc) (hg : Gl X x) (hm : X.mg x = none) (hv : bootBuiltins x = some (.type T)) (ha : DA X E (e :: es) tl ws) (hn : x ≠ "__name__" := by decide) (hdb : (x == ("__debug__" : Str)) = false := by decide)
    (he : starEach (e :: es) X.env = (false, eval e X.env) :: starEach es X.env := by rfl) (hpl : (backTo pos (starEach es X.env)).any (·.1) = false := by rfl) : DE X E (.Call (.Name x p) (e :: es) [] pos) (tCB r tl) (wCB wc ws) :=
  ⟨pe_callTy hc hg hm hv ha.p hn hdb he hpl, abs_CB hr ha.a⟩
def wLen : WCl := fun ss Φ => match ss with
  | [.d (.lst xs)] => Φ (.int xs.length)
  | [.d (.tup xs)] => Φ (.int xs.length)
  | [.obj _ (.lst xs)] => Φ (.int xs.length)
  | _ => False
def wTupOf : WCl := fun ss Φ => match ss with
  | [.d (.lst xs)] => Φ (.tup xs)
  | [.d (.tup xs)] => Φ (.tup xs)
  | _ => False
def wAbs : WCl := fun ss Φ => match ss with
  | [.d (.int i)] => Φ (.int (if i < 0 then -i else i))
  | _ => False
def wIntOf : WCl := fun ss Φ => match ss with
  | [.d (.int i)] => Φ (.int i)
  | [.d (.bl k)] => Φ (.int (if k then 1 else 0))
  | _ => False
theorem paired1 {δ : Option Addr} {M : List Addr} {H : Hp} {vs : List V} {s : S} (h : Paired (RepS δ M H) vs [s]) : ∃ v, vs = [v] ∧ RepS δ M H v s := by
  cases h with
  | cons r t => cases t; exact ⟨_, rfl, r⟩
theorem ac_len : AbsC (fun xs H Q => ∃ p ys, xs = [.ref p] ∧ (SqL KOf.K H p ys ∨ SqT KOf.K H p ys) ∧ Q (.int ys.length) H) wLen := by
  intro δ M H fr vs ss r Φ Q h k
  unfold wLen at h
  split at h
  · obtain ⟨v, rfl, rr⟩ := paired1 r
    cases rr with
    | d rd => cases rd with
      | lst n s rl => exact ⟨_, _, rfl, .inl (SqL.of s), k _ H _ (Ext.refl H) (by rw [rl.length]; exact .int _) h⟩
  · obtain ⟨v, rfl, rr⟩ := paired1 r
    cases rr with
    | d rd => cases rd with
      | tup s rl => exact ⟨_, _, rfl, .inr s.sq, k _ H _ (Ext.refl H) (by rw [rl.length]; exact .int _) h⟩
  · obtain ⟨v, rfl, rr⟩ := paired1 r
    cases rr with
    | obj m n s => obtain ⟨vs, s, rl⟩ := s; exact ⟨_, _, rfl, .inl (SqL.of s), k _ H _ (Ext.refl H) (by rw [rl.length]; exact .int _) h⟩
  · exact h.elim
theorem ac_tuple : AbsC (fun xs H Q => ∃ p ys, xs = [.ref p] ∧ ((SqL KOf.K H p ys ∧ ∀ l, H l = none → Q (.ref l) (upd H l (.tup ys))) ∨ (SqT KOf.K H p ys ∧ Q (.ref p) H))) wTupOf := by
  intro δ M H fr vs ss r Φ Q h k
  unfold wTupOf at h
  split at h
  · obtain ⟨v, rfl, rr⟩ := paired1 r
    cases rr with
    | d rd => cases rd with
      | lst n s rl => exact ⟨_, _, rfl, .inl ⟨SqL.of s, fun l hl => k _ _ _ (Ext.new hl) (.tup (.of (fr l hl) upd_same) (rl.keep (Kept.new hl))) h⟩⟩
  · obtain ⟨v, rfl, rr⟩ := paired1 r
    cases rr with
    | d rd => cases rd with
      | tup s rl => exact ⟨_, _, rfl, .inr ⟨s.sq, k _ H _ (Ext.refl H) (.tup s rl) h⟩⟩
  · exact h.elim
theorem ac_abs : AbsC (fun xs H Q => ∃ i, xs = [.int i] ∧ Q (.int (if i < 0 then -i else i)) H) wAbs := by
  intro δ M H fr vs ss r Φ Q h k
  unfold wAbs at h
  split at h
  · obtain ⟨v, rfl, rr⟩ := paired1 r
    cases rr with
    | d rd => cases rd with
      | int i => exact ⟨_, rfl, k _ H _ (Ext.refl H) (.int _) h⟩
  · exact h.elim
theorem ac_int : AbsC (fun xs H Q => (∃ i, xs = [.int i] ∧ Q (.int i) H) ∨ ∃ k, xs = [.bl k] ∧ Q (.int (if k then 1 else 0)) H) wIntOf := by
  intro δ M H fr vs ss r Φ Q h k
  unfold wIntOf at h
  split at h
  · obtain ⟨v, rfl, rr⟩ := paired1 r
    cases rr with
    | d rd => cases rd with
      | int i => exact .inl ⟨_, rfl, k _ H _ (Ext.refl H) (.int _) h⟩
  · obtain ⟨v, rfl, rr⟩ := paired1 r
    cases rr with
    | d rd => cases rd with
      | bl b => exact .inr ⟨_, rfl, k _ H _ (Ext.refl H) (.int _) h⟩
  · exact h.elim
/-- list(xs): a new list -/
def wListOf (ws : WA) : Env → (List D → Prop) → Prop := fun ρ Φ => ws ρ fun ss => match ss with
  | [.d (.lst xs)] => Φ xs
  | [.d (.tup xs)] => Φ xs
  | _ => False
theorem df_listOf (hg : Gl X x) (hm : X.mg x = none) (hv : bootBuiltins x = some (.type "list")) (ha : DA X E (e :: es) tl ws) (hn : x ≠ "__name__" := by decide) (hdb : (x == ("__debug__" : Str)) = false := by decide)
    (he : starEach (e :: es) X.env = (false, eval e X.env) :: starEach es X.env := by rfl) (hpl : (backTo pos (starEach es X.env)).any (·.1) = false := by rfl) (hK : X.K = KOf.K := by rfl) :
    DF X E (.Call (.Name x p) (e :: es) [] pos) (tCB (fun xs H Q => ∃ p ys, xs = [.ref p] ∧ (SqL KOf.K H p ys ∨ SqT KOf.K H p ys) ∧ ∀ l, H l = none → Q (.ref l) (upd H l (.lst ys))) tl) (wListOf ws) := by
  refine ⟨pe_callTy (hK ▸ call_list_of) hg hm hv ha.p hn hdb he hpl, fun δ M σ H ρ R Φ Q h k => ?_⟩
  refine ha.a δ M σ H ρ R _ _ h fun vs H1 ss e1 r1 _ _ h1 => ?_
  split at h1
  · obtain ⟨v, rfl, r⟩ := paired1 r1
    cases r with
    | d r => cases r with
      | lst n s rl => exact ⟨_, _, rfl, .inl (SqL.of s), fun l hl => k l _ _ _ (e1.free R.okd hl) (e1.trans (Ext.new hl)) upd_same ((rl.less (bn_cons hl)).keep (Kept.new hl)) h1⟩
  · obtain ⟨v, rfl, r⟩ := paired1 r1
    cases r with
    | d r => cases r with
      | tup s rl => exact ⟨_, _, rfl, .inr s.sq, fun l hl => k l _ _ _ (e1.free R.okd hl) (e1.trans (Ext.new hl)) upd_same ((rl.less (bn_cons hl)).keep (Kept.new hl)) h1⟩
  · exact h1.elim

/-! ### fields -/
def wFld (C : Addr) (f : Str) (w : WE) : WE := fun ρ Φ => w ρ fun d => match d with
  | .obj C' ns xs => C' = C ∧ ∃ x, (ns.zip xs).lookup f = some x ∧ Φ x
  | _ => False
theorem RepL.field {B : Addr → Prop} {H : Hp} {f : Str} {x : D} : ∀ {ns : List Str} {vs : List V} {ds : List D}, RepL B H vs ds → (ns.zip ds).lookup f = some x → ∃ v, (ns.zip vs).lookup f = some v ∧ Rep B H v x
  | [], _, _, _, h => by cases h
  | _ :: _, _, _, .nil, h => by cases h
  | n :: ns, v :: vs, d :: ds, .cons r t, h => by
    show ∃ v', (((n, v) :: ns.zip vs).lookup f) = some v' ∧ Rep B H v' x
    have h' : (((n, d) :: ns.zip ds).lookup f) = some x := h
    rw [List.lookup_cons] at h' ⊢
    by_cases q : (f == n) = true
    · rw [q] at h' ⊢
      have e : d = x := Option.some.inj h'
      exact ⟨v, rfl, e ▸ r⟩
    · have q' : (f == n) = false := by simpa using q
      rw [q'] at h' ⊢
      exact RepL.field t h'
theorem de_fld {C : Addr} {f : Str} (c : Cls X.K C) (nA : NoAttr X.K C f) (he : DE X E e te w) (hb : attributeBase e f X.env (eval e X.env) = eval e X.env := by rfl) : DE X E (.Attribute e f pos) (tFld X.K te f) (wFld C f w) := by
  refine ⟨pe_fld he.p hb, fun δ M σ H ρ R Φ Q h k => ?_⟩
  refine he.a δ M σ H ρ R _ _ h fun v H1 d e1 r1 h1 => ?_
  cases r1 <;> first | exact False.elim h1 | skip
  rename_i n ho hl rl
  obtain ⟨rfl, z, hz, h1⟩ := h1
  obtain ⟨u, hu, ru⟩ := rl.field hz
  exact ⟨_, _, _, _, u, rfl, ho, c, nA, hu, k u H1 z e1 ru h1⟩

/-! ### the promises of defs over data -/
def spD (n : Nat) (P : List S → (D → Prop) → Prop) : L2.Sp := fun vs H Q _ => ∃ (δ : Option Addr) (M : List Addr) (ss : List S) (Φ : D → Prop), vs.length = n ∧ Paired (RepS δ M H) vs ss ∧ noOwn ss = true ∧ (∀ b, b ∈ M → ∃ o, H b = some o) ∧ (∀ a, δ = some a → DiceAt H a) ∧
  P ss Φ ∧ ∀ v H' d, Ext δ H H' → Rep (Bn δ M) H' v d → Φ d → Q v H'
/-- .. of such as may raise -/
def spX (n : Nat) (P : List S → (D → Prop) → (XD → Prop) → Prop) : L2.Sp := fun vs H Q E => ∃ (δ : Option Addr) (M : List Addr) (ss : List S) (Φ : D → Prop) (Ψ : XD → Prop), vs.length = n ∧ Paired (RepS δ M H) vs ss ∧ noOwn ss = true ∧ (∀ b, b ∈ M → ∃ o, H b = some o) ∧ (∀ a, δ = some a → DiceAt H a) ∧
  P ss Φ Ψ ∧ (∀ v H' d, Ext δ H H' → Rep (Bn δ M) H' v d → Φ d → Q v H') ∧ ∀ cls d H' fs, Ext δ H H' → RepX δ M H' d ⟨cls, fs⟩ → Ψ ⟨cls, fs⟩ → E cls d H'
def wCall (P : List S → (D → Prop) → Prop) (ws : WA) : WE := fun ρ Φ => ws ρ fun ss => P ss Φ
def wCallX (P : List S → (D → Prop) → (XD → Prop) → Prop) (ws : WA) : WE := fun ρ Φ => ws ρ fun ss => P ss Φ ρ.c.ex
theorem Paired.len {α β : Type} {F : α → β → Prop} {l₁ : List α} {l₂ : List β} (h : Paired F l₁ l₂) : l₁.length = l₂.length := Paired.length h
section
variable {CX : CXT} {k f : Nat} {fd : FuncData} {ps : List Str} {n : Nat} {P : List S → (D → Prop) → Prop} {PX : List S → (D → Prop) → (XD → Prop) → Prop}
theorem abs_call {E' : XK} (hn : es.length = n) (ha : AbsA E es.length tl ws) : AbsE E (tCall (spD n P) [] E' tl) (wCall P ws) := fun δ M σ H ρ R Φ Q h k =>
  ha δ M σ H ρ R _ _ h fun vs H1 ss e1 r1 l1 n1 h1 => by
    have R1 := R.ext e1
    show spD n P (vs ++ []) H1 Q E'
    rw [List.append_nil]
    exact ⟨δ, M, ss, Φ, (Paired.length r1).trans (l1.trans hn), r1, n1, R1.okM, R1.okd, h1, fun v H2 d e2 r2 h2 => k v H2 d (e1.trans e2) r2 h2⟩
theorem abs_callX (hn : es.length = n) (ha : AbsA E es.length tl ws) : AbsE E (tCall (spX n PX) [] E tl) (wCallX PX ws) := fun δ M σ H ρ R Φ Q h k =>
  ha δ M σ H ρ R _ _ h fun vs H1 ss e1 r1 l1 n1 h1 => by
    have R1 := R.ext e1
    show spX n PX (vs ++ []) H1 Q E
    rw [List.append_nil]
    exact ⟨δ, M, ss, Φ, ρ.c.ex, (Paired.length r1).trans (l1.trans hn), r1, n1, R1.okM, R1.okd, h1, fun v H2 d e2 r2 h2 => k v H2 d (e1.trans e2) r2 h2, R1.ex⟩
/-- f(..), nothing is raised -/
theorem de_call (F : FnOk X.prog X.w X.K X.mg X.base CX0 k f fd ps (spD n P)) (hr : Room k X.A) (hg : Gl X x) (hm : X.mg x = some (.ref f)) (hk : PySem.W.keepIn X.K (.ref f) = true) (hb : Binds X.K fd ps [])
    (ha : DA X E (e :: es) tl ws) (hn : (e :: es).length = n := by rfl) (hdb : (x == ("__debug__" : Str)) = false := by decide) (he : starEach (e :: es) X.env = (false, eval e X.env) :: starEach es X.env := by rfl) (hpl : (backTo pos (starEach es X.env)).any (·.1) = false := by rfl) :
    DE X E (.Call (.Name x p) (e :: es) [] pos) (tCall (spD n P) [] E0 tl) (wCall P ws) :=
  ⟨pe_call F hr hg hm hk hb .nil pass0 ha.p hdb he hpl, abs_call hn ha.a⟩
/-- f(..), what is raised leaves this def too -/
theorem de_callX (F : FnOk X.prog X.w X.K X.mg X.base CX k f fd ps (spX n PX)) (hr : Room k X.A) (hg : Gl X x) (hm : X.mg x = some (.ref f)) (hk : PySem.W.keepIn X.K (.ref f) = true) (hb : Binds X.K fd ps []) (hx : Passes CX X E)
    (ha : DA X E (e :: es) tl ws) (hn : (e :: es).length = n := by rfl) (hdb : (x == ("__debug__" : Str)) = false := by decide) (he : starEach (e :: es) X.env = (false, eval e X.env) :: starEach es X.env := by rfl) (hpl : (backTo pos (starEach es X.env)).any (·.1) = false := by rfl) :
    DE X E (.Call (.Name x p) (e :: es) [] pos) (tCall (spX n PX) [] E tl) (wCallX PX ws) :=
  ⟨pe_call F hr hg hm hk hb .nil hx ha.p hdb he hpl, abs_callX hn ha.a⟩
end
end

/-! ### statements -/
structure WEnds where
  nx : Sl → Prop
  rt : D → Prop
  bk : Sl → Prop := fun _ => False
  ct : Sl → Prop := fun _ => False
abbrev WS := Ct → WEnds → Sl → Prop
/-- what is kept since the entry: all but the dice and W -/
def KD (δ : Option Addr) (W : Addr → Prop) (H H' : Hp) : Prop := Kept (fun a => δ = some a ∨ W a) H H' ∧ ∀ a, δ = some a → DiceAt H a → DiceAt H' a
theorem KD.refl {δ : Option Addr} {W : Addr → Prop} (H : Hp) : KD δ W H H := ⟨Kept.refl _ H, fun _ _ h => h⟩
theorem KD.ext {δ : Option Addr} {W : Addr → Prop} {H H1 H2 : Hp} (a : KD δ W H H1) (b : Ext δ H1 H2) : KD δ W H H2 := ⟨a.1.trans (b.1.wide fun _ => Or.inl), fun c e h => b.2 c e (a.2 c e h)⟩
theorem KD.toExt {δ : Option Addr} {H H1 : Hp} (a : KD δ (fun _ => False) H H1) : Ext δ H H1 := ⟨a.1.wide fun _ h => h.elim id False.elim, a.2⟩
structure RS (δ : Option Addr) (M0 : List Addr) (H0 : Hp) (E : XK) (c : Ct) (σ : L2.St) (H : Hp) (l : Sl) : Prop where
  ex : ∃ M, (∀ b, b ∈ M0 → b ∈ M) ∧ (∀ b, b ∈ M → b ∈ M0 ∨ H0 b = none) ∧ RE δ M H E σ ⟨c, l⟩
  kd : KD δ c.lk H0 H
  d0 : ∀ a, δ = some a → DiceAt H0 a
  wr : ∀ (i : Nat) (p : Addr) (s : S), l[i]? = some (some s) → s.adr = some p → c.lk p ∨ H0 p = none
  wm : ∀ b, c.lk b → b ∈ M0
  m0 : ∀ b, b ∈ M0 → H0 b ≠ none
structure EOk (δ : Option Addr) (M0 : List Addr) (H0 : Hp) (E : XK) (c : Ct) (Φ : WEnds) (D : Ends) : Prop where
  nx : ∀ σ H l, RS δ M0 H0 E c σ H l → Φ.nx l → D.nx σ H
  rt : ∀ v H d, KD δ c.lk H0 H → Rep (Bn δ M0) H v d → Φ.rt d → D.rt v H
  bk : ∀ σ H l, RS δ M0 H0 E c σ H l → Φ.bk l → D.bk σ H
  ct : ∀ σ H l, RS δ M0 H0 E c σ H l → Φ.ct l → D.ct σ H
def AbsS (E : XK) (t : TS) (w : WS) : Prop := ∀ (δ : Option Addr) (M0 : List Addr) (H0 : Hp) (c : Ct) (Φ : WEnds) (D : Ends), EOk δ M0 H0 E c Φ D → ∀ σ H l, RS δ M0 H0 E c σ H l → w c Φ l → t D σ H
section
variable (X : Cx) (E : XK)
structure DS (s : Stmt) (t : TS) (w : WS) : Prop where
  p : PS X s t
  a : AbsS E t w
structure DSs (s : List Stmt) (t : TS) (w : WS) : Prop where
  p : PSs X s t
  a : AbsS E t w
end
section
variable {δ : Option Addr} {M0 : List Addr} {H0 H H' : Hp} {E : XK} {c : Ct} {σ : L2.St} {l : Sl}
theorem RS.ext (e : Ext δ H H') (r : RS δ M0 H0 E c σ H l) : RS δ M0 H0 E c σ H' l := ⟨let ⟨M, m, n, R⟩ := r.ex; ⟨M, m, n, R.ext e⟩, r.kd.ext e, r.d0, r.wr, r.wm, r.m0⟩
theorem bn_less {δ : Option Addr} {M0 M : List Addr} {H : Hp} (m : ∀ b, b ∈ M0 → b ∈ M) : ∀ b, Bn δ M0 b → Bn δ M b ∨ H b = none := fun b z => Or.inl (z.elim Or.inl fun q => Or.inr (m b q))
end
section
variable {X : Cx} {E : XK} {e : Expr} {te : TE} {w : WE} {pos : Pos} {st : Stmt} {rest : List Stmt} {t u : TS} {w1 w2 : WS}
def wNext : WS := fun _ Φ l => Φ.nx l
def wSeq (a b : WS) : WS := fun c Φ l => a c { Φ with nx := fun l' => b c Φ l' } l
theorem dss_nil : DSs X E [] tNext wNext := ⟨pss_nil, fun δ M0 H0 c Φ D ok σ H l R h => ok.nx σ H l R h⟩
theorem dss_cons (h1 : DS X E st t w1) (h2 : DSs X E rest u w2) : DSs X E (st :: rest) (tSeq t u) (wSeq w1 w2) :=
  ⟨pss_cons h1.p h2.p, fun δ M0 H0 c Φ D ok σ H l R h => h1.a δ M0 H0 c { Φ with nx := fun l' => w2 c Φ l' } { D with nx := u D } ⟨fun σ' H' l' R' h' => h2.a δ M0 H0 c Φ D ok σ' H' l' R' h', ok.rt, ok.bk, ok.ct⟩ σ H l R h⟩
theorem dss_one (h1 : DS X E st t w1) : DSs X E [st] t w1 := ⟨pss_one h1.p, h1.a⟩
theorem ds_pass : DS X E (.Pass pos) tNext wNext := ⟨ps_pass, fun δ M0 H0 c Φ D ok σ H l R h => ok.nx σ H l R h⟩
def wBreak : WS := fun _ Φ l => Φ.bk l
def wCont : WS := fun _ Φ l => Φ.ct l
theorem ds_break : DS X E (.Break pos) tBreak wBreak := ⟨ps_break, fun δ M0 H0 c Φ D ok σ H l R h => ok.bk σ H l R h⟩
theorem ds_continue : DS X E (.Continue pos) tCont wCont := ⟨ps_continue, fun δ M0 H0 c Φ D ok σ H l R h => ok.ct σ H l R h⟩
def wDrop (w : WE) : WS := fun c Φ l => w ⟨c, l⟩ fun _ => Φ.nx l
theorem ds_expr (he : DE X E e te w) (hs : swapsWith e none pos.line X.env = pure false := by rfl) : DS X E (.Expr e pos) (tDrop te) (wDrop w) :=
  ⟨ps_expr he.p hs, fun δ M0 H0 c Φ D ok σ H l R h => let ⟨M, m, n, Re⟩ := R.ex; he.a δ M σ H ⟨c, l⟩ Re _ _ h fun v H1 d e1 r1 h1 => ok.nx σ H1 l (R.ext e1) h1⟩
def wRet (w : WE) : WS := fun c Φ l => w ⟨c, l⟩ Φ.rt
theorem ds_ret (he : DE X E e te w) : DS X E (.Return (some e) pos) (tRet te) (wRet w) :=
  ⟨ps_ret he.p, fun δ M0 H0 c Φ D ok σ H l R h => let ⟨M, m, n, Re⟩ := R.ex; he.a δ M σ H ⟨c, l⟩ Re _ _ h fun v H1 d e1 r1 h1 => ok.rt v H1 d (R.kd.ext e1) (r1.less (bn_less m)) h1⟩
def wRetN : WS := fun _ Φ _ => Φ.rt .non
theorem ds_retN : DS X E (.Return none pos) tRetN wRetN := ⟨ps_retN, fun δ M0 H0 c Φ D ok σ H l R h => ok.rt .non H .non R.kd .non h⟩
def wIf (v : WT) (a b : WS) : WS := fun c Φ l => v ⟨c, l⟩ fun k => if k = true then a c Φ l else b c Φ l
theorem ds_if {c : Expr} {a b : List Stmt} {tc : TT} {wc : WT} (hc : DT X E c tc wc) (ha : DSs X E a t w1) (hb : DSs X E b u w2) : DS X E (.If c a b pos) (tIfS tc t u) (wIf wc w1 w2) := by
  refine ⟨ps_if hc.p ha.p hb.p, fun δ M0 H0 c Φ D ok σ H l R h => ?_⟩
  obtain ⟨M, m, n, Re⟩ := R.ex
  refine hc.a δ M σ H ⟨c, l⟩ Re _ _ h fun k H1 e1 h1 => ?_
  cases k with
  | true => exact ha.a δ M0 H0 c Φ D ok σ H1 l (R.ext e1) h1
  | false => exact hb.a δ M0 H0 c Φ D ok σ H1 l (R.ext e1) h1

/-! ### targets -/
abbrev WG := D → Sl → (Sl → Prop) → Prop
abbrev WGs := List D → Sl → (Sl → Prop) → Prop
/-- the slots outside ix are as they were -/
def Off (ix : List Nat) (σ σ' : L2.St) : Prop := σ'.length = σ.length ∧ ∀ j, j ∉ ix → σ'[j]? = σ[j]?
theorem Off.refl {ix : List Nat} (σ : L2.St) : Off ix σ σ := ⟨rfl, fun _ _ => rfl⟩
theorem Off.trans {ix : List Nat} {a b c : L2.St} (x : Off ix a b) (y : Off ix b c) : Off ix a c := ⟨y.1.trans x.1, fun j h => (y.2 j h).trans (x.2 j h)⟩
/-- no object of one's own comes in -/
def NoNew (l l' : Sl) : Prop := ∀ (i : Nat) (p : Addr) (s : S), l'[i]? = some (some s) → s.adr = some p → l[i]? = some (some s)
theorem NoNew.refl (l : Sl) : NoNew l l := fun _ _ _ h _ => h
theorem NoNew.trans {a b c : Sl} (x : NoNew a b) (y : NoNew b c) : NoNew a c := fun i p s h e => x i p s (y i p s h e) e
def AbsG (ix : List Nat) (g : TG) (w : WG) : Prop := ∀ (E : XK) (δ : Option Addr) (M : List Addr) (σ : L2.St) (H : Hp) (c : Ct) (l : Sl) (v : V) (d : D), RE δ M H E σ ⟨c, l⟩ → Rep (Bn δ M) H v d → ∀ (Φ : Sl → Prop) (Q : L2.St → Hp → Prop), w d l Φ →
  (∀ σ' l', RE δ M H E σ' ⟨c, l'⟩ → Off ix σ σ' → NoNew l l' → Φ l' → Q σ' H) → g v σ H Q
def AbsGs (ix : List Nat) (g : TGs) (w : WGs) : Prop := ∀ (E : XK) (δ : Option Addr) (M : List Addr) (σ : L2.St) (H : Hp) (c : Ct) (l : Sl) (vs : List V) (ds : List D), RE δ M H E σ ⟨c, l⟩ → RepL (Bn δ M) H vs ds → ∀ (Φ : Sl → Prop) (Q : L2.St → Hp → Prop), w ds l Φ →
  (∀ σ' l', RE δ M H E σ' ⟨c, l'⟩ → Off ix σ σ' → NoNew l l' → Φ l' → Q σ' H) → g vs σ H Q
structure DG (X : Cx) (ix : List Nat) (e : Expr) (g : TG) (w : WG) : Prop where
  p : PG X e g
  a : AbsG ix g w
structure DGs (X : Cx) (ix : List Nat) (es : List Expr) (g : TGs) (w : WGs) : Prop where
  p : PGs X es g
  a : AbsGs ix g w
/-- what stands in a slot behind a store -/
theorem setS_at {l : Sl} {i k : Nat} {s q : S} (z : (setS l i s)[k]? = some (some q)) : (k = i ∧ k < l.length ∧ q = s) ∨ (k ≠ i ∧ l[k]? = some (some q)) := by
  rw [setS_set] at z
  by_cases hk : i = k
  · subst hk
    rcases Nat.lt_or_ge i l.length with y | y
    · rw [List.getElem?_set_self y] at z
      exact .inl ⟨rfl, y, (Option.some.inj (Option.some.inj z)).symm⟩
    · rw [List.getElem?_eq_none (by rw [List.length_set]; exact y)] at z; cases z
  · rw [List.getElem?_set_ne hk] at z
    exact .inr ⟨fun z => hk z.symm, z⟩
theorem setS_len (l : Sl) (i : Nat) (s : S) : (setS l i s).length = l.length := by rw [setS_set, List.length_set]
theorem setS_own {l : Sl} {i : Nat} {s : S} (hs : s.adr = none) : NoNew l (setS l i s) := fun k p q z e => by
  rcases setS_at z with ⟨_, _, rfl⟩ | ⟨_, y⟩
  · rw [hs] at e; cases e
  · exact y
/-- a slot is written -/
theorem RE.setAny {δ : Option Addr} {M : List Addr} {H : Hp} {σ : L2.St} {c : Ct} {l : Sl} (R : RE δ M H E σ ⟨c, l⟩) (i : Nat) (hi : i < σ.length) {v : V} {s : S} (r : RepS δ M H v s)
    (one : ∀ p, s.adr = some p → ∀ (j : Nat) (t : S), j ≠ i → l[j]? = some (some t) → t.adr ≠ some p)
    (en : ∃ (He : Hp) (Me : List Addr), Ext δ He H ∧ (∀ b, b ∈ Me → b ∈ M ∧ He b ≠ none) ∧ (∀ (j : Nat) (p : Addr) (t : S), (setS l i s)[j]? = some (some t) → t.adr = some p → He p = none) ∧ ∀ cls d H' fs, Ext δ He H' → RepX δ Me H' d ⟨cls, fs⟩ → c.ex ⟨cls, fs⟩ → E cls d H') : RE δ M H E (σ.set i (some v)) ⟨c, setS l i s⟩ := by
  refine ⟨?_, fun j q z => ?_, fun j j' p t t' q q' e e' => ?_, R.okM, R.okd, en⟩
  · show (σ.set i (some v)).length ≤ (setS l i s).length
    rw [setS_len, List.length_set]
    exact R.len
  · rcases setS_at z with ⟨rfl, _, rfl⟩ | ⟨hj, z⟩
    · exact ⟨v, fun _ => List.getElem?_set_self hi, r⟩
    · obtain ⟨u, h1, h2⟩ := R.rep j q z
      exact ⟨u, fun y => by rw [List.getElem?_set_ne (Ne.symm hj)]; exact h1 y, h2⟩
  · rcases setS_at q with ⟨e1, _, e2⟩ | ⟨e1, e2⟩ <;> rcases setS_at q' with ⟨f1, _, f2⟩ | ⟨f1, f2⟩
    · exact e1.trans f1.symm
    · exact absurd e' (one p (by rw [← e2]; exact e) j' t' f1 f2)
    · exact absurd e (one p (by rw [← f2]; exact e') j t e1 e2)
    · exact R.one j j' p t t' e2 f2 e e'
theorem RE.set {δ : Option Addr} {M : List Addr} {H : Hp} {σ : L2.St} {c : Ct} {l : Sl} (R : RE δ M H E σ ⟨c, l⟩) (i : Nat) (hi : i < σ.length) {v : V} {d : D} (r : Rep (Bn δ M) H v d) : RE δ M H E (σ.set i (some v)) ⟨c, setS l i (.d d)⟩ :=
  R.setAny i hi (.d r) (fun _ z => nomatch z) (let ⟨He, Me, a, mm, b, q⟩ := R.en; ⟨He, Me, a, mm, fun j p t z e => b j p t (setS_own (s := .d d) rfl j p t z e) e, q⟩)
theorem noNew_put {l : Sl} (i : Nat) (d : D) : NoNew l (setS l i (.d d)) := setS_own rfl
def wgName (i : Nat) : WG := fun d l Φ => Φ (setS l i (.d d))
/-- a store into a slot that there is -/
def gNm (n i : Nat) : TG := fun v σ H Q => σ.length = n → gName i v σ H Q
theorem pg_nm {e : Expr} {i : Nat} (h : PG X e (gName i)) : PG X e (gNm X.N.length i) := ⟨fun pins s σ H v u Q I r q => h.run pins s σ H v u Q I r (q I.len)⟩
/-- a statement whose slots are all there -/
def tLen (n : Nat) (t : TS) : TS := fun D σ H => σ.length = n → t D σ H
theorem ps_len {s : Stmt} {t : TS} (h : PS X s t) : PS X s (tLen X.N.length t) := ⟨fun pins s σ H D I q => h.run pins s σ H D I (q I.len)⟩
theorem lt_of_at {α : Type} {l : List α} {i : Nat} {x : α} (h : l[i]? = some x) : i < l.length := (List.getElem?_eq_some_iff.mp h).1
theorem ag_name {ix : List Nat} {n i : Nat} (hn : i < n) (hm : i ∈ ix) : AbsG ix (gNm n i) (wgName i) := fun E δ M σ H c l v d R r Φ Q h k hl =>
  k _ _ (R.set i (by rw [hl]; exact hn) r) ⟨List.length_set, fun j hj => List.getElem?_set_ne fun z => hj (by rw [← z]; exact hm)⟩ (noNew_put i d) h
theorem dg_name {ix : List Nat} {i : Nat} {x : Str} {N : List Str} (hN : N.Nodup) (hi : N[i]? = some x) (hx : Loc X.env.scope x) (hf : X.fn x = true ∨ X.env.scope.names.lookup x = some .local := by first | exact .inl rfl | exact .inr rfl | assumption)
    (hm : i ∈ ix := by decide) (hX : X.N = N := by rfl) : DG X ix (.Name x pos) (gNm N.length i) (wgName i) := by
  subst hX
  exact ⟨pg_nm (pg_name hN hi hx hf), ag_name (lt_of_at hi) hm⟩
def wgNil : WGs := fun ds l Φ => match ds with
  | [] => Φ l
  | _ => False
def wgCons (w : WG) (ws : WGs) : WGs := fun ds l Φ => match ds with
  | d :: r => w d l fun l' => ws r l' Φ
  | [] => False
theorem dgs_nil {ix : List Nat} : DGs X ix [] gNil wgNil := ⟨pgs_nil, fun E δ M σ H c l vs ds R r Φ Q h k => by
  cases r with
  | nil => exact ⟨rfl, k σ l R (Off.refl σ) (NoNew.refl l) h⟩
  | cons => exact False.elim h⟩
theorem dgs_cons {ix : List Nat} {e : Expr} {es : List Expr} {g : TG} {gs : TGs} {w : WG} {ws : WGs} (h1 : DG X ix e g w) (h2 : DGs X ix es gs ws) (ha : (assignEach (e :: es) X.env).map (·.2) = assign e X.env :: (assignEach es X.env).map (·.2) := by rfl) : DGs X ix (e :: es) (gCons g gs) (wgCons w ws) := by
  refine ⟨pgs_cons h1.p h2.p ha, fun E δ M σ H c l vs ds R r Φ Q h k => ?_⟩
  cases r with
  | nil => exact False.elim h
  | cons r1 r2 =>
    exact ⟨_, _, rfl, h1.a E δ M σ H c l _ _ R r1 _ _ h fun σ1 ρ1 R1 o1 n1 h1' => h2.a E δ M σ1 H c ρ1 _ _ R1 r2 _ _ h1' fun σ2 ρ2 R2 o2 n2 h2' => k σ2 ρ2 R2 (o1.trans o2) (n1.trans n2) h2'⟩
def wgTup (n : Nat) (w : WGs) : WG := fun d l Φ => match d with
  | .tup xs => xs.length = n ∧ w xs l Φ
  | _ => False
theorem dg_tup {ix : List Nat} {es : List Expr} {k : Nat} {gs : TGs} {ws : WGs} {n : Nat} (hc : X.calm = true) (h : DGs X ix es gs ws) (hn : (assignEach es X.env).length = n := by rfl) (hst : (assignEach es X.env).findIdx? (·.1) = none := by rfl) (hK : X.K = KOf.K := by rfl) :
    DG X ix (.Tuple es k pos) (gTup KOf.K n gs) (wgTup n ws) := by
  refine ⟨hK ▸ pg_tup hc h.p hn hst, fun E δ M σ H c l v d R r Φ Q hw k => ?_⟩
  cases r <;> first | exact False.elim hw | skip
  rename_i s rl
  exact ⟨_, _, rfl, s.sq, by rw [rl.length]; exact hw.1, h.a E δ M σ H c l _ _ R rl Φ Q hw.2 k⟩
/-- x = e, a, b = e -/
def wAsg (w : WE) (g : WG) : WS := fun c Φ l => w ⟨c, l⟩ fun d => g d l Φ.nx
theorem RS.noNew {δ : Option Addr} {M0 M : List Addr} {H0 H : Hp} {c : Ct} {σ σ' : L2.St} {l l' : Sl} (R : RS δ M0 H0 E c σ H l) (m : ∀ b, b ∈ M0 → b ∈ M) (n : ∀ b, b ∈ M → b ∈ M0 ∨ H0 b = none) (Re : RE δ M H E σ' ⟨c, l'⟩) (nn : NoNew l l') : RS δ M0 H0 E c σ' H l' :=
  ⟨⟨M, m, n, Re⟩, R.kd, R.d0, fun i p s q e => R.wr i p s (nn i p s q e) e, R.wm, R.m0⟩
theorem abs_asg {ix : List Nat} {g : TG} {wg : WG} (he : AbsE E te w) (hg : AbsG ix g wg) : AbsS E (tAsg te g) (wAsg w wg) := fun δ M0 H0 c Φ D ok σ H l R h => by
  obtain ⟨M, m, n, Re⟩ := R.ex
  refine he δ M σ H ⟨c, l⟩ Re _ _ h fun v H1 d e1 r1 h1 => ?_
  have R1 := R.ext e1
  exact hg E δ M σ H1 c l v d (Re.ext e1) r1 _ _ h1 fun σ' ρ' R' _ n' h' => ok.nx σ' H1 ρ' (R1.noNew m n R' n') h'
theorem abs_nm {te : TE} {n i : Nat} {w : WS} (h : AbsS E (tAsg te (gNm n i)) w) : AbsS E (tLen n (tAsg te (gName i))) w := fun δ M0 H0 c Φ D ok σ H l R hw hl => by
  have := h δ M0 H0 c Φ { D with nx := fun σ' H' => D.nx σ' H' } ok σ H l R hw
  exact te_mono this hl
where
  te_mono {te : TE} {n i : Nat} {D : Ends} {σ : L2.St} {H : Hp} (h : tAsg te (gNm n i) D σ H) (hl : σ.length = n) : tAsg te (gName i) D σ H := by
    have e : (fun v H1 => gNm n i v σ H1 D.nx) = fun v H1 => gName i v σ H1 D.nx := by
      funext v H1
      exact propext ⟨fun z => z hl, fun z _ => z⟩
    show te σ H (fun v H1 => gName i v σ H1 D.nx)
    rw [← e]
    exact h
theorem ds_asg {ix : List Nat} {tg : Expr} {g : TG} {wg : WG} (he : DE X E e te w) (hg : DG X ix tg g wg) (hs : swapsWithSole [tg] e pos.line X.env = pure false := by rfl) (hw : swappedStores [tg] e X.env = pure none := by rfl)
    (h1 : (assignEach [tg] X.env).map (·.2) = [assign tg X.env] := by rfl) : DS X E (.Assign [tg] e pos) (tAsg te g) (wAsg w wg) := ⟨ps_asg he.p hg.p hs hw h1, abs_asg he.a hg.a⟩
theorem ds_set {i : Nat} {x : Str} {pos' : Pos} (hN : X.N.Nodup) (hi : X.N[i]? = some x) (hx : Loc X.env.scope x) (he : DE X E e te w) (hs : swapsWith e (some (.Name x pos')) pos.line X.env = pure false := by rfl) (hf : X.fn x = true ∨ X.env.scope.names.lookup x = some .local := by first | exact .inl rfl | exact .inr rfl | assumption) :
    DS X E (.Assign [.Name x pos'] e pos) (tLen X.N.length (tAsg te (gName i))) (wAsg w (wgName i)) :=
  ⟨ps_len (ps_set hN hi hx he.p hs hf), abs_nm (abs_asg he.a (ag_name (ix := [i]) (lt_of_at hi) (by simp)))⟩

/-! ### objects of one's own -/
/-- one that makes a new object of its own -/
def AbsO (E : XK) (t : TE) (w : Env → (OC → Prop) → Prop) : Prop := ∀ (δ : Option Addr) (M : List Addr) (σ : L2.St) (H : Hp) (ρ : Env), RE δ M H E σ ρ → ∀ (Φ : OC → Prop) (Q : VK), w ρ Φ →
  (∀ p H' o, H p = none → Ext δ H H' → RepO (Bn δ (p :: M)) H' p o → Φ o → Q (.ref p) H') → t σ H Q
structure DO1 (X : Cx) (E : XK) (e : Expr) (t : TE) (w : Env → (OC → Prop) → Prop) : Prop where
  p : PE X e t
  a : AbsO E t w
def wO (w : Env → (List D → Prop) → Prop) : Env → (OC → Prop) → Prop := fun ρ Φ => w ρ fun ds => Φ (.lst ds)
theorem AbsF.o {te : TE} {w : Env → (List D → Prop) → Prop} (h : AbsF E te w) : AbsO E te (wO w) := fun δ M σ H ρ R Φ Q hw k =>
  h δ M σ H ρ R _ _ hw fun p vs H1 ds hp e1 h1 rl hΦ => k p H1 (.lst ds) hp e1 ⟨vs, h1, rl⟩ hΦ
/-- x = [..], and x alone holds it -/
def wObj (w : Env → (OC → Prop) → Prop) (i : Nat) : WS := fun c Φ l => w ⟨c, l⟩ fun o => ∀ p, ¬ c.lk p → Φ.nx (setS l i (.obj p o))
def wOwn (w : Env → (List D → Prop) → Prop) (i : Nat) : WS := fun c Φ l => w ⟨c, l⟩ fun ds => ∀ p, ¬ c.lk p → Φ.nx (setS l i (.own p ds))
/-- a new object, not yet known to a slot -/
theorem RE.wide {δ : Option Addr} {M : List Addr} {H H1 : Hp} {σ : L2.St} {c : Ct} {l : Sl} {p : Addr} (Re : RE δ M H E σ ⟨c, l⟩) (hp : H p = none) (e1 : Ext δ H H1) (hp1 : H1 p ≠ none) : RE δ (p :: M) H1 E σ ⟨c, l⟩ := by
  have Re1 := Re.ext e1
  refine ⟨Re.len, fun j s q => ?_, Re.one, fun b hb => ?_, Re1.okd, ?_⟩
  · obtain ⟨v, g1, g2⟩ := Re.rep j s q
    exact ⟨v, g1, (g2.wide hp).ext e1⟩
  · rcases List.mem_cons.mp hb with z | z
    · rw [z]
      cases q : H1 p with
      | none => exact absurd q hp1
      | some o => exact ⟨o, rfl⟩
    · exact Re1.okM b z
  · obtain ⟨He, Me, a, mm, b, q⟩ := Re1.en
    exact ⟨He, Me, a, fun b hb => ⟨List.mem_cons_of_mem _ (mm b hb).1, (mm b hb).2⟩, b, q⟩
/-- nothing known stands at a free place -/
theorem RE.adr_free {δ : Option Addr} {M : List Addr} {H : Hp} {σ : L2.St} {c : Ct} {l : Sl} {p : Addr} (Re : RE δ M H E σ ⟨c, l⟩) (hp : H p = none) {j : Nat} {t : S} (h : l[j]? = some (some t)) : t.adr ≠ some p := fun e => by
  obtain ⟨v, _, r⟩ := Re.rep j t h
  exact (r.mem e).2.2 hp
structure Fresh (δ : Option Addr) (M0 : List Addr) (H0 : Hp) (c : Ct) (p : Addr) : Prop where
  dl : δ ≠ some p
  lk : ¬ c.lk p
  h0 : H0 p = none
theorem RS.fresh {δ : Option Addr} {M0 : List Addr} {H0 H : Hp} {c : Ct} {σ : L2.St} {l : Sl} (R : RS δ M0 H0 E c σ H l) {p : Addr} (hp : H p = none) : Fresh δ M0 H0 c p := by
  obtain ⟨M, m, n, Re⟩ := R.ex
  have ndl : δ ≠ some p := fun z => by
    obtain ⟨ns, q, _⟩ := Re.okd p z
    rw [hp] at q; cases q
  have nlk : ¬ c.lk p := fun z => by
    obtain ⟨o, q⟩ := Re.okM p (m p (R.wm p z))
    rw [hp] at q; cases q
  refine ⟨ndl, nlk, ?_⟩
  cases q : H0 p with
  | none => rfl
  | some o =>
    have z := R.kd.1 p o q fun z => z.elim ndl nlk
    rw [hp] at z; cases z
theorem Ext.none_of {δ : Option Addr} {He H1 : Hp} {p : Addr} {H : Hp} (a : Ext δ He H) (n : δ ≠ some p) (hp : H p = none) : He p = none := by
  cases w : He p with
  | none => rfl
  | some o =>
    have z := a.1 p o w n
    rw [hp] at z; cases z
theorem abs_obj {n i : Nat} {w : Env → (OC → Prop) → Prop} (hn : i < n) (he : AbsO E te w) : AbsS E (tLen n (tAsg te (gName i))) (wObj w i) := fun δ M0 H0 c Φ D ok σ H l R h hl => by
  obtain ⟨M, m, mn, Re⟩ := R.ex
  refine he δ M σ H ⟨c, l⟩ Re _ _ h fun p H1 o hp e1 ro h1 => ?_
  obtain ⟨ndl, nlk, h0p⟩ := R.fresh hp
  have R2 := Re.wide hp e1 ro.there
  have R3 := R2.setAny i (by rw [hl]; exact hn) (.obj List.mem_cons_self ndl ro) (fun q e j t hj z y => by
    cases e
    exact Re.adr_free hp z y) (by
    obtain ⟨He, Me, a, mm, b, q⟩ := Re.en
    refine ⟨He, Me, a.trans e1, fun b hb => ⟨List.mem_cons_of_mem _ (mm b hb).1, (mm b hb).2⟩, fun j q t z e => ?_, q⟩
    rcases setS_at z with ⟨_, _, rfl⟩ | ⟨_, z⟩
    · cases e
      exact a.none_of (H1 := H1) ndl hp
    · exact b j q t z e)
  refine ok.nx _ H1 _ ⟨⟨p :: M, fun b hb => List.mem_cons_of_mem _ (m b hb), fun b hb => ?_, R3⟩, R.kd.ext e1, R.d0, fun j q t z e => ?_, R.wm, R.m0⟩ (h1 p nlk)
  · rcases List.mem_cons.mp hb with z | z
    · exact .inr (by rw [z]; exact h0p)
    · exact mn b z
  · rcases setS_at z with ⟨_, _, rfl⟩ | ⟨_, z⟩
    · cases e
      exact .inr h0p
    · exact R.wr j q t z e
theorem abs_own {n i : Nat} {w : Env → (List D → Prop) → Prop} (hn : i < n) (he : AbsF E te w) : AbsS E (tLen n (tAsg te (gName i))) (wOwn w i) := abs_obj (w := wO w) hn he.o
theorem ds_obj {i : Nat} {x : Str} {pos' : Pos} {w : Env → (OC → Prop) → Prop} (hN : X.N.Nodup) (hi : X.N[i]? = some x) (hx : Loc X.env.scope x) (he : DO1 X E e te w) (hs : swapsWith e (some (.Name x pos')) pos.line X.env = pure false := by rfl) (hf : X.fn x = true ∨ X.env.scope.names.lookup x = some .local := by first | exact .inl rfl | exact .inr rfl | assumption) :
    DS X E (.Assign [.Name x pos'] e pos) (tLen X.N.length (tAsg te (gName i))) (wObj w i) := ⟨ps_len (ps_set hN hi hx he.p hs hf), abs_obj (lt_of_at hi) he.a⟩
theorem ds_own {i : Nat} {x : Str} {pos' : Pos} {w : Env → (List D → Prop) → Prop} (hN : X.N.Nodup) (hi : X.N[i]? = some x) (hx : Loc X.env.scope x) (he : DF X E e te w) (hs : swapsWith e (some (.Name x pos')) pos.line X.env = pure false := by rfl) (hf : X.fn x = true ∨ X.env.scope.names.lookup x = some .local := by first | exact .inl rfl | exact .inr rfl | assumption) :
    DS X E (.Assign [.Name x pos'] e pos) (tLen X.N.length (tAsg te (gName i))) (wOwn w i) := ⟨ps_len (ps_set hN hi hx he.p hs hf), abs_own (lt_of_at hi) he.a⟩
/-- the slots with what the object at p holds now -/
def S.put (p : Addr) (o : OC) : S → S
  | .obj q o' => if q = p then .obj q o else .obj q o'
  | .gh q o' => if q = p then .gh q o else .gh q o'
  | s => s
theorem S.put_adr (p : Addr) (o : OC) (s : S) : (s.put p o).adr = s.adr := by
  cases s <;> simp only [S.put] <;> first | rfl | (split <;> rfl)
theorem S.put_hid (p : Addr) (o : OC) (s : S) : (s.put p o).hid = s.hid := by
  cases s <;> simp only [S.put] <;> first | rfl | (split <;> rfl)
/-- an object of one's own is written: slot i tells of it -/
theorem RE.put {δ : Option Addr} {M : List Addr} {H : Hp} {c : Ct} {σ : L2.St} {l : Sl} {i : Nat} {s s' : S} {p : Addr} {o : OC} {h : HO} (hl : l[i]? = some (some s)) (ha : s.adr = some p) (hs : s' = s.put p o)
    (Re : RE δ M H E σ ⟨c, l⟩) (r : RepO (Bn δ M) (upd H p h) p o) : RE δ M (upd H p h) E σ ⟨c, setS l i s'⟩ := by
  obtain ⟨v0, hv0, r0⟩ := Re.rep i s hl
  obtain ⟨hm, ndl, _⟩ := r0.mem ha
  have kp : Kept (Bn δ M) H (upd H p h) := Kept.put (.inr hm)
  have kd : ∀ a, δ = some a → DiceAt H a → DiceAt (upd H p h) a := fun a ha ⟨ns, e, q⟩ => ⟨ns, by rw [upd_ne (fun z => ndl (by rw [← z]; exact ha))]; exact e, q⟩
  have sa : s'.adr = some p := by rw [hs, S.put_adr]; exact ha
  have sh : s'.hid = s.hid := by rw [hs, S.put_hid]
  refine ⟨?_, fun k q z => ?_, fun j j' q t t' z z' e e' => ?_, fun b hb => ?_, fun a ha => kd a ha (Re.okd a ha), ?_⟩
  · show σ.length ≤ (setS l i s').length
    rw [setS_len]
    exact Re.len
  · rcases setS_at z with ⟨rfl, _, rfl⟩ | ⟨hk, z⟩
    · refine ⟨v0, fun y => hv0 (by rw [← sh]; exact y), ?_⟩
      rw [hs]
      cases s with
      | d => cases ha
      | dice => cases ha
      | obj q o' =>
        cases ha
        cases r0
        simp only [S.put, if_true]
        exact .obj hm ndl r
      | gh q o' =>
        cases ha
        cases r0
        simp only [S.put, if_true]
        exact .gh hm ndl r
    · obtain ⟨v, g1, g2⟩ := Re.rep k q z
      have hne : ∀ b, q.adr = some b → b ≠ p := fun b eb ep => hk (Re.one k i p q s z hl (by rw [← ep]; exact eb) ha)
      refine ⟨v, g1, ?_⟩
      cases g2 with
      | d rr => exact .d (rr.keep kp)
      | obj mm nn rr => exact .obj mm nn (rr.keep kp fun o e => by rw [upd_ne (hne _ rfl)]; exact e)
      | gh mm nn rr => exact .gh mm nn (rr.keep kp fun o e => by rw [upd_ne (hne _ rfl)]; exact e)
      | dice hh qq => exact .dice hh (kd _ hh qq)
  · have old : ∀ {k : Nat} {t : S}, (setS l i s')[k]? = some (some t) → ∃ t0, l[k]? = some (some t0) ∧ t0.adr = t.adr := fun {k t} y => by
      rcases setS_at y with ⟨rfl, _, rfl⟩ | ⟨_, y⟩
      · exact ⟨s, hl, by rw [sa, ha]⟩
      · exact ⟨t, y, rfl⟩
    obtain ⟨t0, a1, b1⟩ := old z
    obtain ⟨t1, a2, b2⟩ := old z'
    exact Re.one j j' q t0 t1 a1 a2 (b1.trans e) (b2.trans e')
  · obtain ⟨o, q⟩ := Re.okM b hb
    by_cases hbp : b = p
    · exact ⟨_, by rw [hbp]; exact upd_same⟩
    · exact ⟨o, by rw [upd_ne hbp]; exact q⟩
  · obtain ⟨He, Me, a, mm, b, q⟩ := Re.en
    refine ⟨He, Me, ⟨fun b' o e nb => ?_, fun b' hb' dd => kd b' hb' (a.2 b' hb' dd)⟩, mm, fun j q' t z e => ?_, q⟩
    · rw [upd_ne]
      · exact a.1 b' o e nb
      · intro z
        rw [z, b i p s hl ha] at e
        cases e
    · rcases setS_at z with ⟨rfl, _, rfl⟩ | ⟨_, y⟩
      · rw [sa] at e
        cases e
        exact b j p s hl ha
      · exact b j q' t y e
theorem RS.put {δ : Option Addr} {M0 M : List Addr} {H0 H : Hp} {c : Ct} {σ : L2.St} {l : Sl} {i : Nat} {s s' : S} {p : Addr} {o : OC} {h : HO} (R : RS δ M0 H0 E c σ H l) (hl : l[i]? = some (some s)) (ha : s.adr = some p) (hs : s' = s.put p o)
    (m : ∀ b, b ∈ M0 → b ∈ M) (n : ∀ b, b ∈ M → b ∈ M0 ∨ H0 b = none) (Re : RE δ M H E σ ⟨c, l⟩) (r : RepO (Bn δ M) (upd H p h) p o) : RS δ M0 H0 E c σ (upd H p h) (setS l i s') := by
  obtain ⟨v0, hv0, r0⟩ := Re.rep i s hl
  obtain ⟨hm, ndl, _⟩ := r0.mem ha
  have kp : Kept (Bn δ M) H (upd H p h) := Kept.put (.inr hm)
  have kd : ∀ a, δ = some a → DiceAt H a → DiceAt (upd H p h) a := fun a ha ⟨ns, e, q⟩ => ⟨ns, by rw [upd_ne (fun z => ndl (by rw [← z]; exact ha))]; exact e, q⟩
  have sa : s'.adr = some p := by rw [hs, S.put_adr]; exact ha
  have sh : s'.hid = s.hid := by rw [hs, S.put_hid]
  have R2 := RE.put hl ha hs Re r
  refine ⟨⟨M, m, n, R2⟩, ⟨fun b o e q => ?_, fun a ha q => kd a ha (R.kd.2 a ha q)⟩, R.d0, fun j q t z e => ?_, R.wm, R.m0⟩
  · rw [upd_ne]
    · exact R.kd.1 b o e q
    · intro z
      rcases R.wr i p s hl ha with y | y
      · exact q (.inr (by rw [z]; exact y))
      · rw [z, y] at e; cases e
  · rcases setS_at z with ⟨rfl, _, rfl⟩ | ⟨_, y⟩
    · rw [sa] at e
      cases e
      exact R.wr j p s hl ha
    · exact R.wr j q t y e
/-- .. a named one -/
theorem RS.putN {δ : Option Addr} {M0 M : List Addr} {H0 H : Hp} {c : Ct} {σ : L2.St} {l : Sl} {i : Nat} {p : Addr} {o0 o : OC} {h : HO} (R : RS δ M0 H0 E c σ H l) (hl : look l i = some (.obj p o0))
    (m : ∀ b, b ∈ M0 → b ∈ M) (n : ∀ b, b ∈ M → b ∈ M0 ∨ H0 b = none) (Re : RE δ M H E σ ⟨c, l⟩) (r : RepO (Bn δ M) (upd H p h) p o) : RS δ M0 H0 E c σ (upd H p h) (setS l i (.obj p o)) :=
  R.put (look_get hl) rfl (by simp [S.put]) m n Re r
/-- a list of one's own is written -/
theorem RS.write {δ : Option Addr} {M0 : List Addr} {H0 H : Hp} {c : Ct} {σ : L2.St} {l : Sl} {i : Nat} {p : Addr} {ds ds' : List D} {vs' : List V} (R : RS δ M0 H0 E c σ H l) (hl : look l i = some (.own p ds))
    {M : List Addr} (m : ∀ b, b ∈ M0 → b ∈ M) (n : ∀ b, b ∈ M → b ∈ M0 ∨ H0 b = none) (Re : RE δ M H E σ ⟨c, l⟩) (r : RepL (Bn δ M) H vs' ds') : RS δ M0 H0 E c σ (upd H p (.lst vs')) (setS l i (.own p ds')) := by
  obtain ⟨vs, hs, hm, ndl, hp, rl⟩ := Re.own hl
  exact R.putN hl m n Re ⟨vs', upd_same, r.keep (Kept.put (.inr hm))⟩
end
end Dl

namespace Dl
open PySem L2
variable [KOf]
section
variable {X : Cx} {E : XK} {e e2 : Expr} {te te2 : TE} {w w' : WE} {pos p : Pos} {x : Str}
/-! ### lists of one's own: append, an item stored, handed over -/
def wApp (i : Nat) (w : WE) : WS := fun c Φ l => match look l i with
  | some (.obj p (.lst xs)) => w ⟨c, l⟩ fun d => xs.length < 100000 ∧ Φ.nx (setS l i (.own p (xs ++ [d])))
  | _ => False
theorem ds_append (i : Nat) {epos apos cpos : Pos} (he : DE X E e te w) (hN : X.N[i]? = some x := by rfl) (hv : Vis X.env.scope x := by first | exact Or.inl rfl | exact Or.inr (Or.inl rfl) | exact Or.inr (Or.inr rfl)) (hd : (x == ("__debug__" : Str)) = false := by decide)
    (hcd : (x == ("__classdict__" : Str)) = false := by decide) (hst : starEach (e :: []) X.env = (false, eval e X.env) :: starEach [] X.env := by rfl)
    (hbase : attributeBase (.Name x p) "append" X.env (eval (.Name x p) X.env) = eval (.Name x p) X.env := by rfl)
    (hfew : ((backTo cpos (starEach (e :: []) X.env)).all (fun x => !x.1) && (backToKw cpos (keywordEach [] X.env)).all (fun x => x.1.isSome)
      && decide ((e :: []).length + ([] : List Keyword).length + (if ([] : List Keyword).isEmpty then 0 else 1) < 30)) = true := by rfl)
    (hline : (apos.endLine == cpos.line) = true := by rfl) (hplain : (backTo cpos (starEach [] X.env)).any (·.1) = false := by rfl)
    (hs : swapsWith (.Call (.Attribute (.Name x p) "append" apos) [e] [] cpos) none epos.line X.env = pure false := by rfl) :
    DS X E (.Expr (.Call (.Attribute (.Name x p) "append" apos) [e] [] cpos) epos) (tDrop (tBM X.K "list" rAppend (tVar i) (tCons te tNil))) (wApp i w) := by
  refine ⟨ps_expr (pe_bm PySem.F.plainAttrs_list PySem.F.slot_list_append PySem.F.type_list_append mt_append (pe_var hN hv hd hcd) (pa_cons he.p pa_nil hst) hbase hfew hline hst hplain) hs, fun δ M0 H0 c Φ D ok σ H l R h => ?_⟩
  unfold wApp at h
  split at h
  · rename_i q ds hl
    obtain ⟨M, m, n, Re⟩ := R.ex
    obtain ⟨vs, hσ, hm, ndl, hq, rl⟩ := Re.own hl
    refine ⟨_, hσ, .inl ⟨rfl, _, SqL.of hq⟩, ?_⟩
    refine he.a δ M σ H ⟨c, l⟩ Re _ _ h fun v H1 d e1 r1 h1 => ?_
    have hq1 := e1.1 _ _ hq ndl
    refine ⟨q, vs, v, rfl, rfl, hq1, by rw [rl.length]; exact sz_lt h1.1, ?_⟩
    exact ok.nx _ _ _ ((R.ext e1).write (vs' := vs ++ [v]) hl m n (Re.ext e1) ((rl.keep e1.kept).app (.cons r1 .nil))) h1.2
  · exact h.elim
/-- x[e2] = e -/
def wPut (i : Nat) (w w' : WE) : WS := fun c Φ l => match look l i with
  | some (.obj p (.lst xs)) => w ⟨c, l⟩ fun d => w' ⟨c, l⟩ fun f => match f with
    | .int k => ∃ j, ixN xs.length k = some j ∧ Φ.nx (setS l i (.own p (xs.set j d)))
    | _ => False
  | _ => False
theorem ds_put (i : Nat) {spos : Pos} (he : DE X E e te w) (h2 : DE X E e2 te2 w') (hN : X.N[i]? = some x := by rfl) (hv : Vis X.env.scope x := by first | exact Or.inl rfl | exact Or.inr (Or.inl rfl) | exact Or.inr (Or.inr rfl)) (hd : (x == ("__debug__" : Str)) = false := by decide)
    (hcd : (x == ("__classdict__" : Str)) = false := by decide)
    (ha : ∀ v, assign (.Subscript (.Name x p) e2 spos) X.env v = (do
      let ov ← holding [v] (eval (.Name x p) X.env)
      let iv ← holding [v, ov] (eval e2 X.env)
      standAt spos
      holding [v, ov, iv] (setItem ov iv v)
      release [v, ov, iv] []) := by intro _; rfl)
    (hs : swapsWithSole [.Subscript (.Name x p) e2 spos] e pos.line X.env = pure false := by rfl) (hw : swappedStores [.Subscript (.Name x p) e2 spos] e X.env = pure none := by rfl)
    (h1 : (assignEach [.Subscript (.Name x p) e2 spos] X.env).map (·.2) = [assign (.Subscript (.Name x p) e2 spos) X.env] := by rfl) : DS X E (.Assign [.Subscript (.Name x p) e2 spos] e pos) (tAsg te (gSub (tVar i) te2 rSetL)) (wPut i w w') := by
  refine ⟨ps_asg he.p (pg_sub (pe_var hN hv hd hcd) h2.p set_list ha) hs hw h1, fun δ M0 H0 c Φ D ok σ H l R h => ?_⟩
  unfold wPut at h
  split at h
  · rename_i q ds hl
    obtain ⟨M, m, n, Re⟩ := R.ex
    obtain ⟨vs, hσ, hm, ndl, hq, rl⟩ := Re.own hl
    refine he.a δ M σ H ⟨c, l⟩ Re _ _ h fun v H1 d e1 r1 h1 => ?_
    refine ⟨_, hσ, ?_⟩
    refine h2.a δ M σ H1 ⟨c, l⟩ (Re.ext e1) _ _ h1 fun u H2 f e2 r2 h2 => ?_
    cases r2 <;> first | exact False.elim h2 | skip
    obtain ⟨j, hj, h2⟩ := h2
    have e12 := e1.trans e2
    refine ⟨_, vs, _, j, rfl, rfl, e12.1 _ _ hq ndl, by rw [rl.length]; exact hj, ?_⟩
    exact ok.nx _ _ _ ((R.ext e12).write hl m n (Re.ext e12) ((rl.keep e12.kept).set (r1.keep e2.kept) j)) h2
  · exact h.elim
/-- the object is one's own no more: plain data from here on -/
def wFrz (i : Nat) (w : WS) : WS := fun c Φ l => match look l i with
  | some (.obj p (.lst xs)) => ¬ c.lk p ∧ w c Φ (setS l i (.d (.lst xs)))
  | some (.obj p (.dI is xs)) => ¬ c.lk p ∧ w c Φ (setS l i (.d (.dcI is xs)))
  | some (.obj p (.dT ks xs)) => ¬ c.lk p ∧ w c Φ (setS l i (.d (.dcT ks xs)))
  | _ => False
theorem RepS.narrow {δ : Option Addr} {M : List Addr} {H : Hp} {p : Addr} {v : V} {s : S} (r : RepS δ M H v s) (n : s.adr ≠ some p) : RepS δ (M.filter fun b => decide (b ≠ p)) H v s := by
  have less : ∀ b, Bn δ (M.filter fun b => decide (b ≠ p)) b → Bn δ M b ∨ H b = none := fun b z => .inl (z.elim .inl fun q => .inr (List.mem_filter.mp q).1)
  cases r with
  | d rr => exact .d (rr.less less)
  | obj mm nn rr => exact .obj (List.mem_filter.mpr ⟨mm, decide_eq_true fun ea => n (by rw [ea]; rfl)⟩) nn (rr.less less)
  | gh mm nn rr => exact .gh (List.mem_filter.mpr ⟨mm, decide_eq_true fun ea => n (by rw [ea]; rfl)⟩) nn (rr.less less)
  | dice hh qq => exact .dice hh qq
theorem RepO.narrow {δ : Option Addr} {M : List Addr} {H : Hp} {p q : Addr} {o : OC} (r : RepO (Bn δ M) H q o) : RepO (Bn δ (M.filter fun b => decide (b ≠ p))) H q o := r.less fun b z => .inl (z.elim .inl fun q => .inr (List.mem_filter.mp q).1)
theorem RE.frz {δ : Option Addr} {M : List Addr} {H : Hp} {σ : L2.St} {c : Ct} {l : Sl} {i : Nat} {p : Addr} {o : OC} {d : D} (R : RE δ M H E σ ⟨c, l⟩) (hl : look l i = some (.obj p o)) (hf : o.frz = some d) : RE δ (M.filter fun b => decide (b ≠ p)) H E σ ⟨c, setS l i (.d d)⟩ := by
  obtain ⟨hσ, hm, ndl, ro⟩ := R.own' hl
  have hg := look_get hl
  have old := setS_own (l := l) (i := i) (s := .d d) rfl
  have np : ¬ Bn δ (M.filter fun b => decide (b ≠ p)) p := fun q => q.elim ndl fun q => by simpa using (List.mem_filter.mp q).2
  refine ⟨?_, fun k q z => ?_, fun j j' q s t z z' e e' => R.one j j' q s t (old j q s z e) (old j' q t z' e') e e', fun b hb => R.okM b (List.mem_filter.mp hb).1, R.okd, ?_⟩
  · show σ.length ≤ (setS l i (.d d)).length
    rw [setS_len]
    exact R.len
  · rcases setS_at z with ⟨rfl, _, rfl⟩ | ⟨hk, y⟩
    · exact ⟨_, fun _ => hσ, .d (ro.narrow.frz np hf)⟩
    · obtain ⟨v, g1, g2⟩ := R.rep k q y
      exact ⟨v, g1, g2.narrow fun e => hk (R.one k i p q _ y hg e rfl)⟩
  · obtain ⟨He, Me, a, mm, b, q⟩ := R.en
    exact ⟨He, Me, a, fun b' hb => ⟨List.mem_filter.mpr ⟨(mm b' hb).1, decide_eq_true fun z => (mm b' hb).2 (by rw [z]; exact b i p _ hg rfl)⟩, (mm b' hb).2⟩, fun j q' t z e => b j q' t (old j q' t z e) e, q⟩
theorem RS.frz {δ : Option Addr} {M0 : List Addr} {H0 H : Hp} {c : Ct} {σ : L2.St} {l : Sl} {i : Nat} {p : Addr} {o : OC} {d : D} (R : RS δ M0 H0 E c σ H l) (hl : look l i = some (.obj p o)) (hk : ¬ c.lk p) (hf : o.frz = some d) : RS δ M0 H0 E c σ H (setS l i (.d d)) := by
  obtain ⟨M, m, n, Re⟩ := R.ex
  have h0 : H0 p = none := (R.wr i p _ (look_get hl) rfl).resolve_left hk
  refine ⟨⟨M.filter fun b => decide (b ≠ p), fun b hb => ?_, fun b hb => n b (List.mem_filter.mp hb).1, Re.frz hl hf⟩, R.kd, R.d0, fun j q t z e => R.wr j q t (setS_own (s := .d d) rfl j q t z e) e, R.wm, R.m0⟩
  refine List.mem_filter.mpr ⟨m b hb, decide_eq_true fun z => ?_⟩
  have z' : b = p := z
  exact R.m0 b hb (by rw [z']; exact h0)
theorem dss_frz (i : Nat) {s : List Stmt} {t : TS} {w : WS} (h : DSs X E s t w) : DSs X E s t (wFrz i w) := by
  refine ⟨h.p, fun δ M0 H0 c Φ D ok σ H l R hw => ?_⟩
  unfold wFrz at hw
  split at hw
  · rename_i p o hl
    exact h.a δ M0 H0 c Φ D ok σ H _ (R.frz hl hw.1 rfl) hw.2
  · rename_i p is o hl
    exact h.a δ M0 H0 c Φ D ok σ H _ (R.frz hl hw.1 rfl) hw.2
  · rename_i p is o hl
    exact h.a δ M0 H0 c Φ D ok σ H _ (R.frz hl hw.1 rfl) hw.2
  · exact hw.elim

/-! ### what is walked -/
structure ItOk (B : Addr → Prop) (J : It) (H1 : Hp) (xs : List D) : Prop where
  go : ∀ (B' : Addr → Prop), (∀ b, B' b → B b ∨ H1 b = none) → ∀ H i, Kept B' H1 H → i < xs.length → J.go i H
  stop : ∀ (B' : Addr → Prop), (∀ b, B' b → B b ∨ H1 b = none) → ∀ H i, Kept B' H1 H → xs.length ≤ i → J.stop i H
  yld : ∀ (B' : Addr → Prop), (∀ b, B' b → B b ∨ H1 b = none) → ∀ H i x v H', Kept B' H1 H → (∀ b, B' b → H b ≠ none) → xs[i]? = some x → J.yld i H v H' → Kept (fun _ => False) H H' ∧ Rep B' H' v x
abbrev WI := Env → (List D → Prop) → Prop
def AbsI (E : XK) (wi : TI) (w : WI) : Prop := ∀ (δ : Option Addr) (M : List Addr) (σ : L2.St) (H : Hp) (ρ : Env), RE δ M H E σ ρ → ∀ (Φ : List D → Prop) (R : It → Hp → Prop), w ρ Φ → (∀ J H1 xs, Ext δ H H1 → ItOk (Bn δ M) J H1 xs → Φ xs → R J H1) → wi σ H R
structure DI (X : Cx) (E : XK) (tg it : Expr) (wi : TI) (w : WI) : Prop where
  p : PI X tg it wi
  a : AbsI E wi w
theorem Kept.ext0 {δ : Option Addr} {H H' : Hp} (k : Kept (fun _ => False) H H') : Ext δ H H' := ⟨k.wide fun _ h => h.elim, fun a _ ⟨ns, e, l⟩ => ⟨ns, k _ _ e id, l⟩⟩
def wiL (w : WE) : WI := fun ρ Φ => w ρ fun d => match d with
  | .lst xs => Φ xs
  | _ => False
def wiT (w : WE) : WI := fun ρ Φ => w ρ fun d => match d with
  | .tup xs => Φ xs
  | _ => False
theorem sl_same {K : PySem.W.Frag} {B' : Addr → Prop} {H1 H : Hp} {a : Addr} {vs : List V} (s : H1 a = some (.lst vs)) (n : ¬ B' a) (k : Kept B' H1 H) : SqL K H a vs := SqL.of (k _ _ s n)
theorem st_same {B B' : Addr → Prop} {H1 H : Hp} {a : Addr} {vs : List V} (s : TupAt B H1 a vs) (hB : ∀ b, B' b → B b ∨ H1 b = none) (k : Kept B' H1 H) : SqT KOf.K H a vs := ((s.less hB).keep k).sq
theorem di_list {tg : Expr} (he : DE X E e te w) : DI X E tg e (iList X.K te) (wiL w) := by
  refine ⟨pi_list he.p, fun δ M σ H ρ R Φ Q h k => ?_⟩
  refine he.a δ M σ H ρ R _ _ h fun v H1 d e1 r1 h1 => ?_
  cases r1 <;> first | exact False.elim h1 | skip
  rename_i a vs ds n s rl
  have nb : ∀ B' : Addr → Prop, (∀ b, B' b → Bn δ M b ∨ H1 b = none) → ¬ B' a := fun B' hB z => (hB a z).elim n (rd_there s)
  refine ⟨a, rfl, ⟨vs, SqL.of s⟩, k _ H1 ds e1 ⟨fun B' hB H2 i kp hi => ?_, fun B' hB H2 i kp hi => ?_, fun B' hB H2 i x v H3 kp hN hx y => ?_⟩ h1⟩
  · obtain ⟨u, hu, _⟩ := rl.at (d := ds[i]) (List.getElem?_eq_getElem hi)
    exact ⟨vs, u, sl_same s (nb B' hB) kp, hu⟩
  · exact ⟨vs, sl_same s (nb B' hB) kp, by rw [rl.length]; exact hi⟩
  · obtain ⟨e, y⟩ := y
    subst e
    obtain ⟨u, hu, ru⟩ := rl.at hx
    have hv := y vs (sl_same s (nb B' hB) kp)
    rw [hu] at hv
    cases hv
    exact ⟨Kept.refl _ _, (ru.less hB).keep kp⟩
theorem it_tup {B : Addr → Prop} {H1 : Hp} {a : Addr} {vs : List V} {ds : List D} (s : TupAt B H1 a vs) (rl : RepL B H1 vs ds) : ItOk B (Itt KOf.K a) H1 ds := by
  refine ⟨fun B' hB H2 i kp hi => ?_, fun B' hB H2 i kp hi => ?_, fun B' hB H2 i x v H3 kp hN hx y => ?_⟩
  · obtain ⟨u, hu, _⟩ := rl.at (List.getElem?_eq_getElem hi)
    exact ⟨vs, u, st_same s hB kp, hu⟩
  · exact ⟨vs, st_same s hB kp, by rw [rl.length]; exact hi⟩
  · obtain ⟨e, y⟩ := y
    subst e
    obtain ⟨u, hu, ru⟩ := rl.at hx
    have hv := y vs (st_same s hB kp)
    rw [hu] at hv
    cases hv
    exact ⟨Kept.refl _ _, (ru.less hB).keep kp⟩
theorem di_tup {tg : Expr} (he : DE X E e te w) (hK : X.K = KOf.K := by rfl) : DI X E tg e (iTup KOf.K te) (wiT w) := by
  refine ⟨hK ▸ pi_tup he.p, fun δ M σ H ρ R Φ Q h k => ?_⟩
  refine he.a δ M σ H ρ R _ _ h fun v H1 d e1 r1 h1 => ?_
  cases r1 <;> first | exact False.elim h1 | skip
  rename_i a vs ds s rl
  exact ⟨a, rfl, ⟨vs, s.sq⟩, k _ H1 ds e1 (it_tup s rl) h1⟩
/-- range(n), range(a, b) -/
def rangeD (lo : Int) (n : Nat) : List D := (List.range n).map fun (k : Nat) => D.int (lo + (k : Int))
theorem rangeD_len {lo : Int} {n : Nat} : (rangeD lo n).length = n := by unfold rangeD; rw [List.length_map, List.length_range]
theorem rangeD_at {lo : Int} {n i : Nat} {x : D} (h : (rangeD lo n)[i]? = some x) : i < n ∧ x = .int (lo + (i : Int)) := by
  have hl : i < (rangeD lo n).length := (List.getElem?_eq_some_iff.mp h).1
  rw [rangeD_len] at hl
  unfold rangeD at h
  rw [List.getElem?_map, List.getElem?_range hl] at h
  exact ⟨hl, (Option.some.inj h).symm⟩
theorem it_range {B : Addr → Prop} {H1 : Hp} {lo : Int} {n : Nat} : ItOk B (Itr lo n) H1 (rangeD lo n) :=
  ⟨fun _ _ _ i _ hi => by rw [rangeD_len] at hi; exact hi, fun _ _ _ i _ hi => by rw [rangeD_len] at hi; exact hi, fun B' _ H i x v H' _ _ hx y => by
    obtain ⟨e, y⟩ := y
    subst e
    obtain ⟨_, rfl⟩ := rangeD_at hx
    subst y
    exact ⟨Kept.refl _ _, .int _⟩⟩
def wiR1 (ws : WA) : WI := fun ρ Φ => ws ρ fun ss => match ss with
  | [.d (.int j)] => (-(2 ^ 62) ≤ j ∧ j < 2 ^ 62) ∧ Φ (rangeD 0 j.toNat)
  | _ => False
def wiR2 (ws : WA) : WI := fun ρ Φ => ws ρ fun ss => match ss with
  | [.d (.int i), .d (.int j)] => (-(2 ^ 62) ≤ i ∧ i < 2 ^ 62 ∧ -(2 ^ 62) ≤ j ∧ j < 2 ^ 62) ∧ Φ (rangeD i (j - i).toNat)
  | _ => False
theorem di_range1 {tg a : Expr} {p pos : Pos} {tl : TA} {ws : WA} (hg : Gl X "range") (hm : X.mg "range" = none) (ha : DA X E [a] tl ws) (hs : starEach [a] X.env = [(false, eval a X.env)] := by rfl) : DI X E tg (.Call (.Name "range" p) [a] [] pos) (iRng1 tl) (wiR1 ws) := by
  refine ⟨pi_range1 hg hm ha.p hs, fun δ M σ H ρ R Φ Q h k => ?_⟩
  refine ha.a δ M σ H ρ R _ _ h fun vs H1 ss e1 r1 _ _ h1 => ?_
  split at h1
  · obtain ⟨v, rfl, rr⟩ := paired1 r1
    cases rr with
    | d rd => cases rd with
      | int _ => exact ⟨_, rfl, h1.1.1, h1.1.2, k _ H1 _ e1 it_range h1.2⟩
  · exact h1.elim
theorem paired2 {δ : Option Addr} {M : List Addr} {H : Hp} {vs : List V} {s s' : S} (h : Paired (RepS δ M H) vs [s, s']) : ∃ v v', vs = [v, v'] ∧ RepS δ M H v s ∧ RepS δ M H v' s' := by
  cases h with
  | cons r t =>
    obtain ⟨v', rfl, r'⟩ := paired1 t
    exact ⟨_, _, rfl, r, r'⟩
theorem di_range2 {tg a b : Expr} {p pos : Pos} {tl : TA} {ws : WA} (hg : Gl X "range") (hm : X.mg "range" = none) (ha : DA X E [a, b] tl ws) (hs : starEach [a, b] X.env = [(false, eval a X.env), (false, eval b X.env)] := by rfl) (hs2 : starEach [b] X.env = [(false, eval b X.env)] := by rfl) :
    DI X E tg (.Call (.Name "range" p) [a, b] [] pos) (iRng2 tl) (wiR2 ws) := by
  refine ⟨pi_range2 hg hm ha.p hs hs2, fun δ M σ H ρ R Φ Q h k => ?_⟩
  refine ha.a δ M σ H ρ R _ _ h fun vs H1 ss e1 r1 _ _ h1 => ?_
  split at h1
  · obtain ⟨v, v', rfl, rr, rr'⟩ := paired2 r1
    cases rr with
    | d rd => cases rd with
      | int i => cases rr' with
        | d rd' => cases rd' with
          | int _ => exact ⟨_, _, rfl, h1.1, k _ H1 _ e1 it_range h1.2⟩
  · exact h1.elim
/-- enumerate(list) -/
def enumD (xs : List D) : List D := xs.zipIdx.map fun z => D.tup [.int (z.2 : Nat), z.1]
theorem enumD_len {xs : List D} : (enumD xs).length = xs.length := by unfold enumD; rw [List.length_map, List.length_zipIdx]
theorem enumD_at {xs : List D} {i : Nat} {x : D} (h : (enumD xs)[i]? = some x) : ∃ y, xs[i]? = some y ∧ x = .tup [.int (i : Nat), y] := by
  unfold enumD at h
  rw [List.getElem?_map, List.getElem?_zipIdx] at h
  cases q : xs[i]? with
  | none => rw [q] at h; cases h
  | some y =>
    rw [q] at h
    refine ⟨y, rfl, ?_⟩
    have h' := Option.some.inj h
    rw [← h']
    simp
def wiE (ws : WA) : WI := fun ρ Φ => ws ρ fun ss => match ss with
  | [.d (.lst xs)] => Φ (enumD xs)
  | _ => False
theorem di_enum {e : Expr} {tl : TA} {ws : WA} {p pos tpos : Pos} {elts : List Expr} {kk : Nat} (hg : Gl X "enumerate") (hm : X.mg "enumerate" = none) (ha : DA X E [e] tl ws) (hs : starEach [e] X.env = [(false, eval e X.env)] := by rfl) :
    DI X E (.Tuple elts kk tpos) (.Call (.Name "enumerate" p) [e] [] pos) (iEnum X.K tl) (wiE ws) := by
  refine ⟨pi_enum hg hm ha.p hs, fun δ M σ H ρ R Φ Q h k => ?_⟩
  refine ha.a δ M σ H ρ R _ _ h fun vs H1 ss e1 r1 _ _ h1 => ?_
  split at h1
  · obtain ⟨v, rfl, rr⟩ := paired1 r1
    cases rr with
    | d rd => cases rd with
      | lst n s rl =>
        rename_i ds a vs
        have nb : ∀ B' : Addr → Prop, (∀ b, B' b → Bn δ M b ∨ H1 b = none) → ¬ B' a := fun B' hB z => (hB a z).elim n (rd_there s)
        refine ⟨a, vs, rfl, SqL.of s, k _ H1 _ e1 ⟨fun B' hB H2 i kp hi => ?_, fun B' hB H2 i kp hi => ?_, fun B' hB H2 i x v H3 kp hN hx y => ?_⟩ h1⟩
        · rw [enumD_len] at hi
          obtain ⟨u, hu, _⟩ := rl.at (List.getElem?_eq_getElem hi)
          exact ⟨vs, u, sl_same s (nb B' hB) kp, hu⟩
        · rw [enumD_len] at hi
          exact ⟨vs, sl_same s (nb B' hB) kp, by rw [rl.length]; exact hi⟩
        · obtain ⟨T, z, rfl, hT, rfl, y⟩ := y
          obtain ⟨q, hq, rfl⟩ := enumD_at hx
          obtain ⟨u, hu, ru⟩ := rl.at hq
          have hv := y vs (sl_same s (nb B' hB) kp)
          rw [hu] at hv
          cases hv
          exact ⟨Kept.new hT, .tup (.of (fun z => hN T z hT) upd_same) (.cons (.int _) (.cons (((ru.less hB).keep kp).keep (Kept.new hT)) .nil))⟩
  · exact h1.elim

/-! ### loops -/
/-- the objects of one's own ahead of a loop -/
def owns (l : Sl) : Addr → Prop := fun p => ∃ (i : Nat) (s : S), l[i]? = some (some s) ∧ s.adr = some p
def wFor (wi : WI) (g : WG) (wb : WS) : WS := fun c Φ l => wi ⟨c, l⟩ fun xs => ∃ I : Nat → Sl → Prop, I 0 l ∧
  (∀ i x l', xs[i]? = some x → I i l' → g x l' fun l2 => wb ⟨c.ex, owns l⟩ { Φ with nx := I (i + 1), ct := I (i + 1), bk := Φ.nx } l2) ∧ ∀ l', I xs.length l' → Φ.nx l'
theorem RS.inner {δ : Option Addr} {M0 M : List Addr} {H0 H1 : Hp} {c : Ct} {σ : L2.St} {l : Sl} (R : RS δ M0 H0 E c σ H1 l) (m : ∀ b, b ∈ M0 → b ∈ M) (Re : RE δ M H1 E σ ⟨c, l⟩) : RS δ M H1 E ⟨c.ex, owns l⟩ σ H1 l :=
  ⟨⟨M, fun _ h => h, fun _ h => .inl h, ⟨Re.len, Re.rep, Re.one, Re.okM, Re.okd, Re.en⟩⟩, KD.refl H1, Re.okd, fun i p s q e => .inl ⟨i, s, q, e⟩, fun b ⟨i, s, q, e⟩ => by
    obtain ⟨v, _, r⟩ := Re.rep i _ q
    exact (r.mem e).1, fun b hb z => by
    obtain ⟨o, q⟩ := Re.okM b hb
    rw [z] at q; cases q⟩
theorem RS.outer {δ : Option Addr} {M0 M : List Addr} {H0 H1 H : Hp} {c : Ct} {σ1 σ : L2.St} {l1 l : Sl} (R : RS δ M0 H0 E c σ1 H1 l1) (m : ∀ b, b ∈ M0 → b ∈ M) (n : ∀ b, b ∈ M → b ∈ M0 ∨ H0 b = none) (Re : RE δ M H1 E σ1 ⟨c, l1⟩)
    (R' : RS δ M H1 E ⟨c.ex, owns l1⟩ σ H l) : RS δ M0 H0 E c σ H l := by
  obtain ⟨M', m', n', Re'⟩ := R'.ex
  have none0 : ∀ b, H1 b = none → H0 b = none := fun b z => by
    cases q : H0 b with
    | none => rfl
    | some o =>
      by_cases hd : δ = some b
      · obtain ⟨ns, y, _⟩ := Re.okd b hd
        rw [z] at y; cases y
      · by_cases hk : c.lk b
        · obtain ⟨o', y⟩ := Re.okM b (m b (R.wm b hk))
          rw [z] at y; cases y
        · have y := R.kd.1 b o q fun w => w.elim hd hk
          rw [z] at y; cases y
  refine ⟨⟨M', fun b hb => m' b (m b hb), fun b hb => (n' b hb).elim (n b) fun z => .inr (none0 b z), ⟨Re'.len, Re'.rep, Re'.one, Re'.okM, Re'.okd, Re'.en⟩⟩, ?_, R.d0, fun i p s q e => ?_, R.wm, R.m0⟩
  · refine ⟨fun b o e nb => ?_, fun a ha q => R'.kd.2 a ha (R.kd.2 a ha q)⟩
    refine R'.kd.1 b o (R.kd.1 b o e nb) fun z => ?_
    rcases z with z | ⟨i, s, z, q⟩
    · exact nb (.inl z)
    · rcases R.wr i b s z q with y | y
      · exact nb (.inr y)
      · rw [y] at e; cases e
  · rcases R'.wr i p s q e with ⟨j, t, z, y⟩ | z
    · exact R.wr j p t z y
    · exact .inr (none0 p z)
theorem abs_for {ix : List Nat} {wi : TI} {ww : WI} {g : TG} {wg : WG} {tb : TS} {wb : WS} (hi : AbsI E wi ww) (hg : AbsG ix g wg) (hb : AbsS E tb wb) : AbsS E (tFor wi g tb) (wFor ww wg wb) := fun δ M0 H0 c Φ D ok σ H l R h => by
  obtain ⟨M, m, n, Re⟩ := R.ex
  refine hi δ M σ H ⟨c, l⟩ Re _ _ h fun J H1 xs e1 io h1 => ?_
  obtain ⟨I, I0, Is, Ie⟩ := h1
  have R1 := R.ext e1
  have Re1 := Re.ext e1
  have RI := R1.inner m Re1
  refine ⟨fun i k σ' H' => k = xs.length - i ∧ i ≤ xs.length ∧ ∃ l', RS δ M H1 E ⟨c.ex, owns l⟩ σ' H' l' ∧ I i l', ⟨xs.length, by simp, Nat.zero_le _, l, RI, I0⟩, ?_⟩
  rintro i k σ' H' ⟨rfl, hle, l', R', hI⟩
  obtain ⟨M', m', n', Re'⟩ := id R'.ex
  have hB : ∀ b, Bn δ M' b → Bn δ M b ∨ H1 b = none := fun b z => z.elim (fun q => .inl (.inl q)) fun q => (n' b q).elim (fun y => .inl (.inr y)) .inr
  have kp : Kept (Bn δ M') H1 H' := R'.kd.1.wide fun b z => z.elim .inl fun q => .inr (m' b (R'.wm b q))
  by_cases hlt : i < xs.length
  · refine .inr ⟨io.go _ hB H' i kp hlt, fun σ2 H2 => ∃ l2, RS δ M H1 E ⟨c.ex, owns l⟩ σ2 H2 l2 ∧ I (i + 1) l2, fun σ2 H2 q => ⟨xs.length - (i + 1), by omega, rfl, hlt, q⟩, fun v H2 y => ?_⟩
    have hN : ∀ b, Bn δ M' b → H' b ≠ none := fun b z => by
      rcases z with z | z
      · obtain ⟨ns, q, _⟩ := Re'.okd b z
        rw [q]; exact fun y => nomatch y
      · obtain ⟨o, q⟩ := Re'.okM b z
        rw [q]; exact fun y => nomatch y
    obtain ⟨k2, r2⟩ := io.yld _ hB H' i xs[i] v H2 kp hN (List.getElem?_eq_getElem hlt) y
    · have e2 : Ext δ H' H2 := k2.ext0
      have Re2 := Re'.ext e2
      have R2 := R'.ext e2
      refine hg E δ M' σ' H2 _ l' v _ Re2 r2 _ _ (Is i _ l' (List.getElem?_eq_getElem hlt) hI) fun σ3 l3 Re3 _ n3 h3 => ?_
      refine hb δ M H1 _ { Φ with nx := I (i + 1), ct := I (i + 1), bk := Φ.nx } { D with nx := fun σ2 H2 => ∃ l2, RS δ M H1 E ⟨c.ex, owns l⟩ σ2 H2 l2 ∧ I (i + 1) l2, ct := fun σ2 H2 => ∃ l2, RS δ M H1 E ⟨c.ex, owns l⟩ σ2 H2 l2 ∧ I (i + 1) l2, bk := D.nx } ⟨fun σ4 H4 l4 R4 h4 => ⟨l4, R4, h4⟩, fun v' H4 d k4 r4 h4 => ?_, fun σ4 H4 l4 R4 h4 => ok.nx σ4 H4 l4 (R1.outer m n Re1 R4) h4, fun σ4 H4 l4 R4 h4 => ⟨l4, R4, h4⟩⟩ σ3 H2 l3 (R2.noNew m' n' Re3 n3) h3
      refine ok.rt v' H4 d ⟨fun b o e nb => ?_, fun a ha q => k4.2 a ha (R1.kd.2 a ha q)⟩ (r4.less (bn_less m)) h4
      refine k4.1 b o (R1.kd.1 b o e nb) fun z => ?_
      rcases z with z | ⟨j, s, z, q⟩
      · exact nb (.inl z)
      · rcases R.wr j b s z q with y | y
        · exact nb (.inr y)
        · rw [y] at e; cases e
  · have e : i = xs.length := by omega
    subst e
    exact .inl ⟨io.stop _ hB H' _ kp (Nat.le_refl _), ok.nx σ' H' l' (R1.outer m n Re1 R') (Ie l' hI)⟩
theorem ds_for {ix : List Nat} {tg iter : Expr} {body : List Stmt} {wi : TI} {ww : WI} {g : TG} {wg : WG} {tb : TS} {wb : WS} (hp : PassesOwn (model X.prog X.w) X.A X.env X.xe) (hc : X.calm = true) (hi : DI X E tg iter wi ww) (hg : DG X ix tg g wg) (hb : DSs X E body tb wb)
    (hs : ∀ x, foldedSetIterable iter X.env x = pure x := by intro _; rfl) : DS X E (.For tg iter body [] pos) (tFor wi g tb) (wFor ww wg wb) := ⟨ps_for hp hc hi.p hg.p hb.p hs, abs_for hi.a hg.a hb.a⟩
def wWhile (v : WT) (wb : WS) : WS := fun c Φ l => ∃ I : Nat → Sl → Prop, (∃ m, I m l) ∧ ∀ m l', I m l' → v ⟨c, l'⟩ fun k => if k = true then wb c { Φ with nx := fun l2 => ∃ m', m' < m ∧ I m' l2, ct := fun l2 => ∃ m', m' < m ∧ I m' l2, bk := Φ.nx } l' else Φ.nx l'
theorem ds_while {v : Expr} {body : List Stmt} {tc : TT} {wc : WT} {tb : TS} {wb : WS} (hp : PassesOwn (model X.prog X.w) X.A X.env X.xe) (hc : DT X E v tc wc) (hb : DSs X E body tb wb) : DS X E (.While v body [] pos) (tWhile tc tb) (wWhile wc wb) := by
  refine ⟨ps_while hp hc.p hb.p, fun δ M0 H0 c Φ D ok σ H l R h => ?_⟩
  obtain ⟨I, ⟨m0, I0⟩, Is⟩ := h
  refine ⟨fun k σ' H' => ∃ l', RS δ M0 H0 E c σ' H' l' ∧ I k l', ⟨m0, l, R, I0⟩, ?_⟩
  rintro k σ' H' ⟨l', R', hI⟩
  obtain ⟨M, m, n, Re⟩ := R'.ex
  refine hc.a δ M σ' H' ⟨c, l'⟩ Re _ _ (Is k l' hI) fun b H1 e1 h1 => ?_
  cases b with
  | false => exact ok.nx σ' H1 l' (R'.ext e1) h1
  | true =>
    refine ⟨fun σ2 H2 => ∃ l2, RS δ M0 H0 E c σ2 H2 l2 ∧ ∃ m', m' < k ∧ I m' l2, fun σ2 H2 ⟨l2, R2, m', hm, h2⟩ => ⟨m', hm, l2, R2, h2⟩, ?_⟩
    exact hb.a δ M0 H0 c { Φ with nx := fun l2 => ∃ m', m' < k ∧ I m' l2, ct := fun l2 => ∃ m', m' < k ∧ I m' l2, bk := Φ.nx } { D with nx := fun σ2 H2 => ∃ l2, RS δ M0 H0 E c σ2 H2 l2 ∧ ∃ m', m' < k ∧ I m' l2, ct := fun σ2 H2 => ∃ l2, RS δ M0 H0 E c σ2 H2 l2 ∧ ∃ m', m' < k ∧ I m' l2, bk := D.nx } ⟨fun σ4 H4 l4 R4 h4 => ⟨l4, R4, h4⟩, ok.rt, fun σ4 H4 l4 R4 h4 => ok.nx σ4 H4 l4 R4 h4, fun σ4 H4 l4 R4 h4 => ⟨l4, R4, h4⟩⟩ σ' H1 l' (R'.ext e1) h1
end
end Dl

namespace Dl
open PySem L2
variable [KOf]
/-! ### comprehensions -/
def wipeS (l : Sl) : List Nat → Sl
  | [] => l
  | v :: vs => unS (wipeS l vs) v
where
  unS : Sl → Nat → Sl
    | [], _ => []
    | _ :: r, 0 => none :: r
    | x :: r, i + 1 => x :: unS r i
theorem unS_set : ∀ (l : Sl) (i : Nat), wipeS.unS l i = l.set i none
  | [], _ => rfl
  | _ :: _, 0 => rfl
  | x :: r, i + 1 => by
    show x :: wipeS.unS r i = x :: r.set i none
    rw [unS_set r i]
theorem wipeS_len (l : Sl) : ∀ vs, (wipeS l vs).length = l.length
  | [] => rfl
  | v :: vs => by
    show (wipeS.unS (wipeS l vs) v).length = _
    rw [unS_set, List.length_set, wipeS_len l vs]
theorem wipeS_some {l : Sl} {i : Nat} {s : S} : ∀ {vs : List Nat}, (wipeS l vs)[i]? = some (some s) → l[i]? = some (some s) ∧ i ∉ vs
  | [], h => ⟨h, by simp⟩
  | v :: vs, h => by
    have h' : (wipeS.unS (wipeS l vs) v)[i]? = some (some s) := h
    rw [unS_set] at h'
    by_cases hv : v = i
    · subst hv
      rcases Nat.lt_or_ge v (wipeS l vs).length with y | y
      · rw [List.getElem?_set_self y] at h'; cases h'
      · rw [List.getElem?_eq_none (by rw [List.length_set]; exact y)] at h'; cases h'
    · rw [List.getElem?_set_ne hv] at h'
      obtain ⟨a, b⟩ := wipeS_some h'
      exact ⟨a, fun z => (List.mem_cons.mp z).elim (fun q => hv q.symm) b⟩
theorem wipe_get {σ : L2.St} {i : Nat} : ∀ {vs : List Nat}, i ∉ vs → (wipe σ vs)[i]? = σ[i]?
  | [], _ => rfl
  | v :: vs, h => by
    have h1 : v ≠ i := fun z => h (by rw [z]; exact List.mem_cons_self)
    show ((wipe σ vs).set v none)[i]? = _
    rw [List.getElem?_set_ne h1, wipe_get fun z => h (List.mem_cons_of_mem _ z)]
theorem wipe_in {σ : L2.St} {i : Nat} : ∀ {vs : List Nat}, i ∈ vs → i < σ.length → (wipe σ vs)[i]? = some none
  | [], h, _ => nomatch h
  | v :: vs, h, hl => by
    show ((wipe σ vs).set v none)[i]? = _
    by_cases hv : v = i
    · subst hv
      exact List.getElem?_set_self (by rw [wipe_length]; exact hl)
    · rw [List.getElem?_set_ne hv]
      exact wipe_in ((List.mem_cons.mp h).resolve_left fun z => hv z.symm) hl
theorem wipe_off {vs : List Nat} {a b : L2.St} (h : Off vs a b) : wipe b vs = wipe a vs := by
  refine List.ext_getElem? fun i => ?_
  by_cases hi : i ∈ vs
  · rcases Nat.lt_or_ge i a.length with hl | hl
    · rw [wipe_in (σ := a) hi hl, wipe_in (σ := b) hi (by rw [h.1]; exact hl)]
    · rw [List.getElem?_eq_none (l := wipe a vs) (by rw [wipe_length]; exact hl), List.getElem?_eq_none (l := wipe b vs) (by rw [wipe_length, h.1]; exact hl)]
  · rw [wipe_get hi, wipe_get hi, h.2 i hi]
theorem off_wipe {vs : List Nat} {a : L2.St} : Off vs a (wipe a vs) := ⟨wipe_length a vs, fun _ h => wipe_get h⟩
theorem Ext.mut {δ : Option Addr} {H H' : Hp} {p : Addr} {o : HO} (e : Ext δ H H') (h : H p = none) : Ext δ H (upd H' p o) := ⟨fun b u q n => by rw [upd_ne (ne_of_none q h)]; exact e.1 b u q n, fun a ha d => by
  obtain ⟨ns, q, l⟩ := e.2 a ha d
  obtain ⟨ms, q', _⟩ := d
  exact ⟨ns, by rw [upd_ne (ne_of_none q' h)]; exact q, l⟩⟩
theorem RE.block {δ : Option Addr} {M : List Addr} {H H' : Hp} {E : XK} {σ : L2.St} {c : Ct} {l : Sl} {vs : List Nat} {D : Addr} {o : HO} (R : RE δ M H E σ ⟨c, l⟩) (hD : H D = none) (e : Ext δ H H') (hD' : H' D = some o) :
    RE δ (D :: M) H' E0 (wipe σ vs) ⟨⟨fun _ => False, c.lk⟩, wipeS l vs⟩ := by
  have R1 := R.wide hD e (by rw [hD']; exact fun z => nomatch z)
  refine ⟨?_, fun j s q => ?_, fun j j' p s t z z' => R.one j j' p s t (wipeS_some z).1 (wipeS_some z').1, R1.okM, R1.okd, ?_⟩
  · show (wipe σ vs).length ≤ (wipeS l vs).length
    rw [wipeS_len, wipe_length]
    exact R.len
  · obtain ⟨a, b⟩ := wipeS_some q
    obtain ⟨v, g1, g2⟩ := R1.rep j s a
    exact ⟨v, fun y => by rw [wipe_get b]; exact g1 y, g2⟩
  · obtain ⟨He, Me, a, mm, b, q⟩ := R.en
    exact ⟨He, [], a.trans e, fun _ z => (nomatch z), fun j p s z => b j p s (wipeS_some z).1, fun _ _ _ _ _ _ z => z.elim⟩
def wLc (wi : WI) (g : WG) (wt : WT) (we : WE) (vs : List Nat) : Env → (List D → Prop) → Prop := fun ρ Φ => wi ρ fun xs => xs.length ≤ 100000 ∧ ∃ I : Nat → List D → Prop, I 0 [] ∧
  (∀ i x acc, xs[i]? = some x → I i acc → g x (wipeS ρ.sl vs) fun l2 => wt ⟨⟨fun _ => False, ρ.c.lk⟩, l2⟩ fun b => if b = true then we ⟨⟨fun _ => False, ρ.c.lk⟩, l2⟩ fun d => I (i + 1) (acc ++ [d]) else I (i + 1) acc) ∧ ∀ acc, I xs.length acc → Φ acc
def wYes : WT := fun _ Φ => Φ true
structure DTs (X : Cx) (E : XK) (ifs : List Expr) (t : TT) (w : WT) : Prop where
  p : PTs X ifs t
  a : AbsT E t w
section
variable {X : Cx} {E : XK} {e elt tg iter : Expr} {te : TE} {w we : WE} {pos : Pos} {wi : TI} {ww : WI} {g : TG} {wg : WG} {tt : TT} {wt : WT} {ifs : List Expr} {scope : Scope} {own : List (Str × Nat)}
theorem dts_nil : DTs X E [] tYes wYes := ⟨pts_nil, fun δ M σ H ρ R Φ Q h k => k true H (Ext.refl H) h⟩
theorem dts_one (h : DT X E e tt wt) : DTs X E [e] tt wt := ⟨pts_one h.p, h.a⟩
theorem abs_lc {vs : List Nat} (hi : AbsI E wi ww) (hg : AbsG vs g wg) (ht : AbsT E0 tt wt) (he : AbsE E0 te we) : AbsF E (tLc wi g tt te vs) (wLc ww wg wt we vs) := fun δ M σ H ρ R Φ Q h k => by
  obtain ⟨c, l⟩ := ρ
  refine hi δ M σ H ⟨c, l⟩ R _ _ h fun J H1 xs e1 io h1 D hD => ?_
  obtain ⟨hz, I, I0, Is, Ie⟩ := h1
  have hDH : H D = none := e1.free R.okd hD
  have ndl : δ ≠ some D := fun z => by
    obtain ⟨ns, q, _⟩ := R.okd D z
    rw [hDH] at q; cases q
  have hB : ∀ b, Bn δ (D :: M) b → Bn δ M b ∨ H1 b = none := bn_cons hD
  refine ⟨fun i m H' => m = xs.length - i ∧ i ≤ xs.length ∧ ∃ acc us, H' D = some (.lst us) ∧ RepL (Bn δ (D :: M)) H' us acc ∧ I i acc ∧ Ext δ H1 H' ∧ acc.length ≤ i, ⟨xs.length, by simp, Nat.zero_le _, [], [], upd_same, .nil, I0, Ext.new hD, Nat.le_refl _⟩, ?_⟩
  rintro i m H' ⟨rfl, hle, acc, us, hu, rl, hI, ex, hal⟩
  have kp : Kept (Bn δ (D :: M)) H1 H' := ex.kept
  by_cases hlt : i < xs.length
  · refine .inr ⟨io.go _ hB H' i kp hlt, fun H2 => ∃ acc us, H2 D = some (.lst us) ∧ RepL (Bn δ (D :: M)) H2 us acc ∧ I (i + 1) acc ∧ Ext δ H1 H2 ∧ acc.length ≤ i + 1, fun H2 q => ⟨xs.length - (i + 1), by omega, rfl, hlt, q⟩, fun v H2 y => ?_⟩
    have RB : RE δ (D :: M) H' E0 (wipe σ vs) ⟨⟨fun _ => False, c.lk⟩, wipeS l vs⟩ := R.block hDH (e1.trans ex) hu
    have hN : ∀ b, Bn δ (D :: M) b → H' b ≠ none := fun b z => by
      rcases z with z | z
      · obtain ⟨ns, q, _⟩ := RB.okd b z
        rw [q]; exact fun y => nomatch y
      · obtain ⟨o, q⟩ := RB.okM b z
        rw [q]; exact fun y => nomatch y
    obtain ⟨k2, r2⟩ := io.yld _ hB H' i xs[i] v H2 kp hN (List.getElem?_eq_getElem hlt) y
    have e2 : Ext δ H' H2 := k2.ext0
    have RB2 := RB.ext e2
    refine hg E0 δ (D :: M) (wipe σ vs) H2 _ _ v _ RB2 r2 _ _ (Is i _ acc (List.getElem?_eq_getElem hlt) hI) fun σ3 l3 R3 o3 n3 h3 => ?_
    refine ⟨(wipe_off o3).trans (wipe_off (off_wipe (vs := vs) (a := σ))), ?_⟩
    refine ht δ (D :: M) σ3 H2 _ R3 _ _ h3 fun b H3 e3 h3' => ?_
    cases b with
    | false =>
      have e23 := e2.trans e3
      exact ⟨acc, us, e23.1 _ _ hu ndl, rl.keep e23.kept, h3', ex.trans e23, Nat.le_succ_of_le hal⟩
    | true =>
      refine he δ (D :: M) σ3 H3 _ (R3.ext e3) _ _ h3' fun y H4 d e4 r4 h4 => ?_
      have e24 := (e2.trans e3).trans e4
      have hu4 := e24.1 _ _ hu ndl
      have kput : Kept (Bn δ (D :: M)) H4 (upd H4 D (.lst (us ++ [y]))) := Kept.put (.inr List.mem_cons_self)
      refine ⟨us, hu4, by rw [rl.length]; exact sz_lt (by omega), acc ++ [d], us ++ [y], upd_same, ((rl.keep e24.kept).app (.cons r4 .nil)).keep kput, h4, (ex.trans e24).mut hD, ?_⟩
      rw [List.length_append]
      exact Nat.succ_le_succ hal
  · have e : i = xs.length := by omega
    subst e
    exact .inl ⟨io.stop _ hB H' _ kp (Nat.le_refl _), k D us H' acc hDH (e1.trans ex) hu rl (Ie acc hI)⟩
theorem df_lc (hc : X.calm = true) (hN : X.N.Nodup) (hi : DI X E tg iter wi ww) (ok : BlkOk X.N X.env.scope scope own)
    (hg : ∀ (s : Shared) (H : Hp) (C : Addr) (cl : List (Str × Addr)) (fp : List Addr), DG (X.blk s H scope (compEnvC scope cl C X.env) fp) (own.map (·.2)) tg g wg)
    (ht : ∀ (s : Shared) (H : Hp) (C : Addr) (cl : List (Str × Addr)) (fp : List Addr), DTs (X.blk s H scope (compEnvC scope cl C X.env) fp) E0 ifs tt wt)
    (he : ∀ (s : Shared) (H : Hp) (C : Addr) (cl : List (Str × Addr)) (fp : List Addr), DE (X.blk s H scope (compEnvC scope cl C X.env) fp) E0 elt te we) (hs : ∀ x, foldedSetIterable iter X.env x = pure x := by intro _; rfl) :
    DF X E (.ListComp elt [⟨tg, iter, ifs, 0⟩] scope pos) (tLc wi g tt te (own.map (·.2))) (wLc ww wg wt we (own.map (·.2))) :=
  ⟨pe_lc hc hN hi.p ok (fun s H C cl fp => (hg s H C cl fp).p) (fun s H C cl fp => (ht s H C cl fp).p) (fun s H C cl fp => (he s H C cl fp).p) hs,
    abs_lc hi.a (hg X.s_0 X.H_0 X.env.locals [] []).a (ht X.s_0 X.H_0 X.env.locals [] []).a (he X.s_0 X.H_0 X.env.locals [] []).a⟩
/-- y = [..] on one line -/
theorem ds_setLc {i : Nat} {y : Str} {py spos : Pos} (hc : X.calm = true) (hN : X.N.Nodup) (hy : X.N[i]? = some y) (hyl : X.env.scope.names.lookup y = some .local) (hsw : swapsWith (.ListComp elt [⟨tg, iter, ifs, 0⟩] scope pos) (some (.Name y py)) spos.line X.env = pure true)
    (hi : DI X E tg iter wi ww) (ok : BlkOk X.N X.env.scope scope own)
    (hg : ∀ (s : Shared) (H : Hp) (C : Addr) (cl : List (Str × Addr)) (fp : List Addr), DG (X.blk s H scope (compEnvC scope cl C X.env) fp) (own.map (·.2)) tg g wg)
    (ht : ∀ (s : Shared) (H : Hp) (C : Addr) (cl : List (Str × Addr)) (fp : List Addr), DTs (X.blk s H scope (compEnvC scope cl C X.env) fp) E0 ifs tt wt)
    (he : ∀ (s : Shared) (H : Hp) (C : Addr) (cl : List (Str × Addr)) (fp : List Addr), DE (X.blk s H scope (compEnvC scope cl C X.env) fp) E0 elt te we) (hs : ∀ x, foldedSetIterable iter X.env x = pure x := by intro _; rfl) :
    DS X E (.Assign [.Name y py] (.ListComp elt [⟨tg, iter, ifs, 0⟩] scope pos) spos) (tLen X.N.length (tAsg (tLc wi g tt te (own.map (·.2))) (gName i))) (wAsg (wNew (wLc ww wg wt we (own.map (·.2)))) (wgName i)) :=
  ⟨ps_len (ps_setLc hc hN hy hyl hsw hi.p ok (fun s H C cl fp => (hg s H C cl fp).p) (fun s H C cl fp => (ht s H C cl fp).p) (fun s H C cl fp => (he s H C cl fp).p) hs),
    abs_nm <| abs_asg (fun δ M σ H ρ R Φ Q h k => abs_lc hi.a (hg X.s_0 X.H_0 X.env.locals [] []).a (ht X.s_0 X.H_0 X.env.locals [] []).a (he X.s_0 X.H_0 X.env.locals [] []).a δ M σ H ρ R _ _ h fun q vs H1 ds f e1 hq rl h1 => k _ H1 _ e1 (.lst (R.fresh f) hq (rl.less bn_tail)) h1) (ag_name (ix := [i]) (lt_of_at hy) (by simp))⟩
theorem ds_ownLc {i : Nat} {y : Str} {py spos : Pos} (hc : X.calm = true) (hN : X.N.Nodup) (hy : X.N[i]? = some y) (hyl : X.env.scope.names.lookup y = some .local) (hsw : swapsWith (.ListComp elt [⟨tg, iter, ifs, 0⟩] scope pos) (some (.Name y py)) spos.line X.env = pure true)
    (hi : DI X E tg iter wi ww) (ok : BlkOk X.N X.env.scope scope own)
    (hg : ∀ (s : Shared) (H : Hp) (C : Addr) (cl : List (Str × Addr)) (fp : List Addr), DG (X.blk s H scope (compEnvC scope cl C X.env) fp) (own.map (·.2)) tg g wg)
    (ht : ∀ (s : Shared) (H : Hp) (C : Addr) (cl : List (Str × Addr)) (fp : List Addr), DTs (X.blk s H scope (compEnvC scope cl C X.env) fp) E0 ifs tt wt)
    (he : ∀ (s : Shared) (H : Hp) (C : Addr) (cl : List (Str × Addr)) (fp : List Addr), DE (X.blk s H scope (compEnvC scope cl C X.env) fp) E0 elt te we) (hs : ∀ x, foldedSetIterable iter X.env x = pure x := by intro _; rfl) :
    DS X E (.Assign [.Name y py] (.ListComp elt [⟨tg, iter, ifs, 0⟩] scope pos) spos) (tLen X.N.length (tAsg (tLc wi g tt te (own.map (·.2))) (gName i))) (wOwn (wLc ww wg wt we (own.map (·.2))) i) :=
  ⟨ps_len (ps_setLc hc hN hy hyl hsw hi.p ok (fun s H C cl fp => (hg s H C cl fp).p) (fun s H C cl fp => (ht s H C cl fp).p) (fun s H C cl fp => (he s H C cl fp).p) hs),
    abs_own (lt_of_at hy) (abs_lc hi.a (hg X.s_0 X.H_0 X.env.locals [] []).a (ht X.s_0 X.H_0 X.env.locals [] []).a (he X.s_0 X.H_0 X.env.locals [] []).a)⟩
/-- o.m() -/
def wMeth0 (C : Addr) (m : Str) (P : List S → (D → Prop) → Prop) (w : WE) : WE := fun ρ Φ => w ρ fun d => match d with
  | .obj C' ns xs => C' = C ∧ (ns.zip xs).lookup m = none ∧ P [.d (.obj C' ns xs)] Φ
  | _ => False
theorem RepL.nofield {B : Addr → Prop} {H : Hp} {f : Str} : ∀ {ns : List Str} {vs : List V} {ds : List D}, RepL B H vs ds → (ns.zip ds).lookup f = none → (ns.zip vs).lookup f = none
  | [], _, _, _, _ => rfl
  | _ :: _, _, _, .nil, _ => rfl
  | n :: ns, v :: vs, d :: ds, .cons r t, h => by
    show (((n, v) :: ns.zip vs).lookup f) = none
    have h' : (((n, d) :: ns.zip ds).lookup f) = none := h
    rw [List.lookup_cons] at h' ⊢
    by_cases q : (f == n) = true
    · rw [q] at h'; cases h'
    · have q' : (f == n) = false := by simpa using q
      rw [q'] at h' ⊢
      exact RepL.nofield t h'
theorem de_meth0 {o : Expr} {pl : Sem Bool} {m : Str} {apos : Pos} {C f k : Nat} {fd : FuncData} {ps : List Str} {P : List S → (D → Prop) → Prop} (he : DE X E o te w) (c : Cls X.K C) (hm : Meth X.K C m f) (F : FnOk X.prog X.w X.K X.mg X.base CX0 k f fd ps (spD 1 P)) (hr : Room k X.A) (hb : Binds X.K fd ps [])
    (ht : eval (.Call (.Attribute o m apos) [] [] pos) X.env = (do
      let ov ← eval o X.env
      standAt apos.atName
      let (f, first) ← holding [ov] (getMethod ov m pl)
      callWith pos f first (backTo pos (starEach [] X.env)) (backToKw pos (keywordEach [] X.env))) := by rfl) :
    DE X E (.Call (.Attribute o m apos) [] [] pos) (tMeth C m (spD 1 P) [] E0 te tNil) (wMeth0 C m P w) := by
  refine ⟨pe_meth0 he.p c hm F hr hb .nil pass0 ht, fun δ M σ H ρ R Φ Q h k => ?_⟩
  refine he.a δ M σ H ρ R _ _ h fun v H1 d e1 r1 h1 => ?_
  cases r1 <;> first | exact False.elim h1 | skip
  rename_i a C' dx ns vs ds n ho hl rl
  obtain ⟨rfl, hz, h1⟩ := h1
  have R1 := R.ext e1
  refine ⟨a, dx, _, rfl, ho, rl.nofield hz, ?_⟩
  exact ⟨δ, M, [.d (.obj C' ns ds)], Φ, rfl, .cons (.d (.obj n ho hl rl)) .nil, rfl, R1.okM, R1.okd, h1, fun v H2 d e2 r2 h2 => k v H2 d (e1.trans e2) r2 h2⟩
end

/-! ### a def's body -/
def startS (n : Nat) (ss : List S) : Sl := ss.map some ++ List.replicate (n - ss.length) none
theorem start_at {ss : List S} {n i : Nat} {s : S} (h : (startS n ss)[i]? = some (some s)) : ss[i]? = some s := by
  unfold startS at h
  rcases Nat.lt_or_ge i ss.length with y | y
  · rw [List.getElem?_append_left (by rw [List.length_map]; exact y), List.getElem?_map] at h
    cases q : ss[i]? with
    | none => rw [q] at h; cases h
    | some z => rw [q] at h; cases h; rfl
  · rw [List.getElem?_append_right (by rw [List.length_map]; exact y)] at h
    have := List.mem_of_getElem? h
    have := List.eq_of_mem_replicate this
    cases this
theorem paired_at {δ : Option Addr} {M : List Addr} {H : Hp} : ∀ {vs : List V} {ss : List S} {i : Nat} {s : S}, Paired (RepS δ M H) vs ss → ss[i]? = some s → ∃ v, vs[i]? = some v ∧ RepS δ M H v s
  | _, _, 0, _, .cons r _, e => by
    have e' := Option.some.inj e
    subst e'
    exact ⟨_, rfl, r⟩
  | _, _, i + 1, _, .cons _ t, e => by
    obtain ⟨v, e1, r⟩ := paired_at (i := i) t (by simpa using e)
    exact ⟨v, by simpa using e1, r⟩
theorem noOwn_at : ∀ {ss : List S} {i : Nat} {s : S}, noOwn ss = true → ss[i]? = some s → s.adr = none
  | [], _, _, _ => fun z => by cases z
  | .obj _ _ :: _, _, _, h => by cases h
  | .gh _ _ :: _, _, _, h => by cases h
  | .d _ :: r, 0, _, _ => fun z => by cases z; rfl
  | .dice :: r, 0, _, _ => fun z => by cases z; rfl
  | .d _ :: r, i + 1, _, h => fun z => noOwn_at (ss := r) (i := i) h (by simpa using z)
  | .dice :: r, i + 1, _, h => fun z => noOwn_at (ss := r) (i := i) h (by simpa using z)
theorem rs_start {δ : Option Addr} {M : List Addr} {H : Hp} {N : List Str} {vs : List V} {ss : List S} {E : XK} {ex : XD → Prop} (hp : Paired (RepS δ M H) vs ss) (no : noOwn ss = true) (okM : ∀ b, b ∈ M → ∃ o, H b = some o) (okd : ∀ a, δ = some a → DiceAt H a)
    (hex : ∀ cls d H' fs, Ext δ H H' → RepX δ M H' d ⟨cls, fs⟩ → ex ⟨cls, fs⟩ → E cls d H') : RS δ M H E ⟨ex, fun _ => False⟩ (L2.start N vs) H (startS N.length ss) := by
  have noown : ∀ {i : Nat} {p : Addr} {s : S}, (startS N.length ss)[i]? = some (some s) → s.adr ≠ some p := fun z e => by
    rw [noOwn_at no (start_at z)] at e; cases e
  refine ⟨⟨M, fun _ h => h, fun _ h => .inl h, ⟨?_, fun i s h => ?_, fun i j p s t h _ e => absurd e (noown h), okM, okd, ⟨H, M, Ext.refl H, fun b hb => ⟨hb, fun z => by
    obtain ⟨o, q⟩ := okM b hb
    rw [z] at q; cases q⟩, fun i p s h e => absurd e (noown h), hex⟩⟩⟩, KD.refl H, okd, fun i p s h e => absurd e (noown h), fun _ h => h.elim, fun b hb z => by
    obtain ⟨o, q⟩ := okM b hb
    rw [z] at q; cases q⟩
  · refine Nat.le_of_eq (Eq.symm ?_)
    show (startS N.length ss).length = (L2.start N vs).length
    unfold startS L2.start
    rw [List.length_append, List.length_append, List.length_map, List.length_map, List.length_replicate, List.length_replicate, hp.length]
  · obtain ⟨v, h1, h2⟩ := paired_at hp (start_at h)
    refine ⟨v, fun _ => ?_, h2⟩
    have hl : i < vs.length := (List.getElem?_eq_some_iff.mp h1).1
    unfold L2.start
    rw [List.getElem?_append_left (by rw [List.length_map]; exact hl), List.getElem?_map, h1]
    rfl
section
variable {Pr : Program} {w : World} {K : PySem.W.Frag} {mg : Str → Option Value} {base : Heap} {x qual : Str} {st : Stmt} {f : Addr} {fd : FuncData} {N ps : List Str} {k n : Nat}
/-- THE RULE: a def whose body, over data, does what its promise says -/
theorem fn_D {P : List S → (D → Prop) → Prop} (F : Fun K x qual st f fd) (Sc : FnScope N ps (defScope st)) (hn : ps.length = n)
    (hbody : ∀ (cdv : Value) (A : Around) (outer : List PySem.Env) (s : Shared) (H : Hp) (Eo : XK), Room k (A.deeper (PyProof.Rows.envOfC qual (defScope st) s.heap.objs.size f cdv)) →
      ∃ t w', DSs ((cxOf CX0 Pr w K mg base N qual (defScope st) f cdv A outer s H Eo).nox) E0 (defBody st) t w' ∧ ∀ ss Φ, ss.length = n → P ss Φ → w' ⟨fun _ => False, fun _ => False⟩ { nx := fun _ => Φ .non, rt := Φ } (startS N.length ss)) : FnOk Pr w K mg base CX0 (k + 1) f fd ps (spD n P) := by
  refine F.ok Sc (fun vs H Q E h => ?_) (fun cdv A outer s H vs Q E hr h => ?_)
  · obtain ⟨δ, M, ss, Φ, h1, _⟩ := h
    rw [h1, hn]
  · obtain ⟨δ, M, ss, Φ, h1, h2, h3, h4, h5, h6, h7⟩ := h
    obtain ⟨t, w', hs, hw⟩ := hbody cdv A outer s H E hr
    refine ⟨t, hs.p, hs.a δ M H ⟨fun _ => False, fun _ => False⟩ { nx := fun _ => Φ .non, rt := Φ } _ ⟨fun σ H' l R h => h7 .non H' .non R.kd.toExt .non h, fun v H' d kd r h => h7 v H' d kd.toExt r h, fun _ _ _ _ h => h.elim, fun _ _ _ _ h => h.elim⟩ _ H _ (rs_start h2 h3 h4 h5 fun _ _ _ _ _ _ z => z.elim) (hw ss Φ (by rw [← h2.length, h1]) h6)⟩
/-- .. of one that may raise -/
theorem fn_X {P : List S → (D → Prop) → (XD → Prop) → Prop} (F : Fun K x qual st f fd) (Sc : FnScope N ps (defScope st)) (hn : ps.length = n)
    (hbody : ∀ (cdv : Value) (A : Around) (outer : List PySem.Env) (s : Shared) (H : Hp) (E : XK), Room k (A.deeper (PyProof.Rows.envOfC qual (defScope st) s.heap.objs.size f cdv)) →
      ∃ t w', DSs (cxOf (L2.CX Pr w) Pr w K mg base N qual (defScope st) f cdv A outer s H E) E (defBody st) t w' ∧ ∀ ss Φ Ψ, ss.length = n → P ss Φ Ψ → w' ⟨Ψ, fun _ => False⟩ { nx := fun _ => Φ .non, rt := Φ } (startS N.length ss)) : FnOk Pr w K mg base (L2.CX Pr w) (k + 1) f fd ps (spX n P) := by
  refine F.okX Sc (fun vs H Q E h => ?_) (fun cdv A outer s H vs Q E hr h => ?_)
  · obtain ⟨δ, M, ss, Φ, Ψ, h1, _⟩ := h
    rw [h1, hn]
  · obtain ⟨δ, M, ss, Φ, Ψ, h1, h2, h3, h4, h5, h6, h7, h8⟩ := h
    obtain ⟨t, w', hs, hw⟩ := hbody cdv A outer s H E hr
    refine ⟨t, hs.p, hs.a δ M H ⟨Ψ, fun _ => False⟩ { nx := fun _ => Φ .non, rt := Φ } _ ⟨fun σ H' l R h => h7 .non H' .non R.kd.toExt .non h, fun v H' d kd r h => h7 v H' d kd.toExt r h, fun _ _ _ _ h => h.elim, fun _ _ _ _ h => h.elim⟩ _ H _ (rs_start h2 h3 h4 h5 h8) (hw ss Φ Ψ (by rw [← h2.length, h1]) h6)⟩
end
end Dl

namespace Dl
open PySem L2 PyProof.Rows
variable [KOf]
section
variable {X : Cx} {E : XK}
/-! ### tuples that CPython hands back as they are -/
def rCatT0 (K : PySem.W.Frag) : R2 := fun x y H Q => ∃ a b ys, x = .ref a ∧ y = .ref b ∧ SqT K H a [] ∧ SqT K H b ys ∧ Q (.ref b) H
theorem op_catT0 : OpR X (binaryOp .Add) (rCatT0 X.K) := by
  intro pins s σ H x y v u Q I rx ry h
  obtain ⟨a, b, ys, rfl, rfl, h1, h2, q⟩ := h
  cases rx
  cases ry
  obtain ⟨its, r1, ht, _⟩ := I.tuple h1
  obtain ⟨jts, r2, hb, _⟩ := I.tuple h2
  obtain ⟨⟨cls, dd, data, sl⟩, ho, hc, n, hd⟩ := id ht
  obtain ⟨⟨cls2, dd2, data2, sl2⟩, ho2, hc2, n2, hd2⟩ := id hb
  simp only at hc hd hc2 hd2
  subst hc hd hc2 hd2
  have e : its = [] := by cases r1; rfl
  refine concat_meets ⟨_, ho, rfl⟩ ⟨_, ho2, rfl⟩ noFill_tuple_add seq_tuple_add PySem.F.slot_tuple_add PySem.F.entry_tuple_add (PySem.F.args_tuple_add_2 _ _)
      (tuple_addW0 a b its.toArray jts.toArray n n2 dd dd2 sl sl2 (by rw [e]; rfl)) ⟨ho, ho2, ?_⟩
  exact ⟨.ref b, H, I, rfl, q⟩
theorem tuple_mulW1 (l : Addr) (items : Array Value) (n : Nat) (dd : Option Addr) (sl : Array (Option Value)) (u : Tok) :
    Meets (Builtin.«tuple.__mul__» ⟨[.ref l, .int 1 u], []⟩) (fun _ R s => s.heap.get? l = some { cls := .type "tuple", dict := dd, data := .seq items n, slots := sl } ∧ R (.ok (.ret (Value.ref l))) { s with heap := s.heap, toks := s.toks }) :=
  .of_wp fun prog w A R s h => by
    obtain ⟨hp, g, d, tk, os⟩ := s
    obtain ⟨hl, h⟩ := h
    have f1 := AutoSeq1.idx_int
    wp_walk using wpAny_loadPart' hl
    repeat (first
      | (refine wpAny_ite_false (by decide) ?_; wp_walk using wpAny_loadPart' hl)
      | (refine wpAny_ite_true (by simp) ?_; wp_walk using wpAny_loadPart' hl))
    exact ⟨_, rfl, h⟩
def rRepT1 (K : PySem.W.Frag) : R2 := fun x y H Q => ∃ l xs, x = .ref l ∧ y = .int 1 ∧ SqT K H l xs ∧ Q (.ref l) H
theorem op_repT1 : OpR X (binaryOp .Mult) (rRepT1 X.K) := by
  intro pins s σ H x y v u Q I rx ry h
  obtain ⟨l, xs, rfl, rfl, hT, q⟩ := h
  cases rx
  obtain ⟨t, rfl⟩ := ry
  obtain ⟨its, r, ⟨⟨cls, dd, data, sl⟩, ho, hc, n, hd⟩, hs⟩ := I.tuple hT
  simp only at hc hd
  subst hc hd
  refine wpAny_binaryOp_repeat_ref (T := "tuple") (U := "int") (by decide) ⟨_, ho, rfl⟩ (fun s' => typeIs_int s' 1 t) noFill_tuple_mul F.fills_int_mul F.slot_int_rmul repeat_tuple F.slot_int_index.lookup
    (call_meets F.slot_int_rmul (typeIs_int s 1 t) F.entry_int_rmul (F.args_int_rmul_2 _ _) (int_rmul_tuple 1 t l its.toArray n dd sl)
      ⟨ho, rfl, ⟨_, ho, rfl⟩, call_meets F.slot_tuple_mul ⟨_, ho, rfl⟩ F.entry_tuple_mul (F.args_tuple_mul_2 _ _) (tuple_mulW1 l its.toArray n dd sl t) ⟨ho, ?_⟩⟩)
  exact ⟨.ref l, H, I, rfl, q⟩
end
/-! ### one rule for a sign, whatever stands on its sides -/
theorem ar_or {r r' : R2} {w w' : WR} {wu : WR} (h : AbsR r w) (h' : AbsR r' w') (hu : ∀ d f Φ, wu d f Φ → w d f Φ ∨ w' d f Φ) : AbsR (fun x y H Q => r x y H Q ∨ r' x y H Q) wu := by
  intro δ M H fr x y d f rx ry Φ Q hw k
  rcases hu d f Φ hw with z | z
  · exact .inl (h δ M H fr x y d f rx ry Φ Q z k)
  · exact .inr (h' δ M H fr x y d f rx ry Φ Q z k)
def wCat : WR := fun d f Φ => match d, f with
  | .lst xs, .lst ys => xs.length + ys.length ≤ 100000 ∧ Φ (.lst (xs ++ ys))
  | _, _ => False
theorem ar_cat : AbsR rCat wCat := by
  intro δ M H fr x y d f rx ry Φ Q h k
  cases rx <;> cases ry <;> first | exact False.elim h | skip
  rename_i n s r b us ys m t q
  exact ⟨_, _, _, _, rfl, rfl, s, t, by rw [r.length, q.length]; exact sz_of h.1, fun p hp => k _ _ _ (Ext.new hp) (.lst (fr p hp) upd_same ((r.app q).keep (Kept.new hp))) h.2⟩
def wCatT : WR := fun d f Φ => match d, f with
  | .tup xs, .tup ys => xs.length + ys.length ≤ 100000 ∧ Φ (.tup (xs ++ ys))
  | _, _ => False
theorem ar_catT : AbsR (fun x y H Q => rCatT KOf.K x y H Q ∨ rCatT0 KOf.K x y H Q) wCatT := by
  intro δ M H fr x y d f rx ry Φ Q h k
  cases rx <;> cases ry <;> first | exact False.elim h | skip
  rename_i a us xs s r b vs ys t q
  by_cases hu : us = []
  · subst hu
    cases r
    exact .inr ⟨_, _, _, rfl, rfl, s.sq, t.sq, k _ H _ (Ext.refl H) (.tup t q) h.2⟩
  · refine .inl ⟨_, _, _, _, rfl, rfl, s.sq, t.sq, hu, by rw [r.length, q.length]; exact sz_of h.1, fun hv => ?_, fun hv p hp => k _ _ _ (Ext.new hp) (.tup (.of (fr p hp) upd_same) ((r.app q).keep (Kept.new hp))) h.2⟩
    subst hv
    cases q
    have h2 := h.2
    rw [List.append_nil] at h2
    exact k _ H _ (Ext.refl H) (.tup s r) h2
/-- + -/
def rAddU (K : PySem.W.Frag) : R2 := fun x y H Q => (rI0 fun i j => .int (i + j)) x y H Q ∨ (rCat x y H Q ∨ (rCatT K x y H Q ∨ rCatT0 K x y H Q))
def wAdd : WR := fun d f Φ => match d, f with
  | .int i, .int j => Φ (.int (i + j))
  | .lst xs, .lst ys => xs.length + ys.length ≤ 100000 ∧ Φ (.lst (xs ++ ys))
  | .tup xs, .tup ys => xs.length + ys.length ≤ 100000 ∧ Φ (.tup (xs ++ ys))
  | _, _ => False
theorem op_addU {X : Cx} : OpR X (binaryOp .Add) (rAddU X.K) := op_add.or (op_cat.or (op_catT.or op_catT0))
theorem ar_addU : AbsR (rAddU KOf.K) wAdd := ar_or ar_add (ar_or ar_cat ar_catT (wu := fun d f Φ => match d, f with
  | .lst xs, .lst ys => xs.length + ys.length ≤ 100000 ∧ Φ (.lst (xs ++ ys))
  | .tup xs, .tup ys => xs.length + ys.length ≤ 100000 ∧ Φ (.tup (xs ++ ys))
  | _, _ => False) fun d f Φ h => by cases d <;> cases f <;> first | exact False.elim h | exact .inl h | exact .inr h) fun d f Φ h => by cases d <;> cases f <;> first | exact False.elim h | exact .inl h | exact .inr h
/-- * -/
def wRep : WR := fun d f Φ => match d, f with
  | .lst xs, .int k => (-(2 ^ 63) ≤ k ∧ k < 2 ^ 63 ∧ xs.length * k.toNat ≤ 100000) ∧ Φ (.lst (List.replicate k.toNat xs).flatten)
  | _, _ => False
theorem ar_rep : AbsR rRep wRep := by
  intro δ M H fr x y d f rx ry Φ Q h k
  cases rx <;> cases ry <;> first | exact False.elim h | skip
  rename_i n s r j
  exact ⟨_, _, _, rfl, rfl, s, h.1.1, h.1.2.1, by rw [r.length]; exact sz_of h.1.2.2, fun p hp => k _ _ _ (Ext.new hp) (.lst (fr p hp) upd_same ((r.rep _).keep (Kept.new hp))) h.2⟩
def wRepT : WR := fun d f Φ => match d, f with
  | .tup xs, .int k => (xs ≠ [] ∧ 1 ≤ k ∧ k ≤ 1000 ∧ xs.length ≤ 1000) ∧ Φ (.tup (List.replicate k.toNat xs).flatten)
  | _, _ => False
theorem ar_repT : AbsR (fun x y H Q => rRepT KOf.K x y H Q ∨ rRepT1 KOf.K x y H Q) wRepT := by
  intro δ M H fr x y d f rx ry Φ Q h k
  cases rx <;> cases ry <;> first | exact False.elim h | skip
  rename_i a us xs s r j
  obtain ⟨⟨h1, h2, h3, h4⟩, h5⟩ := h
  by_cases hj : j = 1
  · subst hj
    refine .inr ⟨_, _, rfl, rfl, s.sq, k _ H _ (Ext.refl H) (.tup s r) ?_⟩
    have e : (List.replicate (1 : Int).toNat xs).flatten = xs := by
      show (List.replicate 1 xs).flatten = xs
      simp
    rw [e] at h5
    exact h5
  · refine .inl ⟨_, _, _, rfl, rfl, s.sq, fun z => ?_, by omega, h3, by rw [r.length]; exact h4, fun p hp => k _ _ _ (Ext.new hp) (.tup (.of (fr p hp) upd_same) ((r.rep _).keep (Kept.new hp))) h5⟩
    subst z
    cases r
    exact h1 rfl
def rMulU (K : PySem.W.Frag) : R2 := fun x y H Q => (rI CMul fun i j => .int (i * j)) x y H Q ∨ (rRep x y H Q ∨ (rRepT K x y H Q ∨ rRepT1 K x y H Q))
def wMul : WR := fun d f Φ => match d, f with
  | .int i, .int j => CMul i j ∧ Φ (.int (i * j))
  | .lst xs, .int k => (-(2 ^ 63) ≤ k ∧ k < 2 ^ 63 ∧ xs.length * k.toNat ≤ 100000) ∧ Φ (.lst (List.replicate k.toNat xs).flatten)
  | .tup xs, .int k => (xs ≠ [] ∧ 1 ≤ k ∧ k ≤ 1000 ∧ xs.length ≤ 1000) ∧ Φ (.tup (List.replicate k.toNat xs).flatten)
  | _, _ => False
theorem op_mulU {X : Cx} : OpR X (binaryOp .Mult) (rMulU X.K) := op_mul.or (op_rep.or (op_repT.or op_repT1))
theorem ar_mulU : AbsR (rMulU KOf.K) wMul := ar_or ar_mul (ar_or ar_rep ar_repT (wu := fun d f Φ => match d, f with
  | .lst xs, .int k => (-(2 ^ 63) ≤ k ∧ k < 2 ^ 63 ∧ xs.length * k.toNat ≤ 100000) ∧ Φ (.lst (List.replicate k.toNat xs).flatten)
  | .tup xs, .int k => (xs ≠ [] ∧ 1 ≤ k ∧ k ≤ 1000 ∧ xs.length ≤ 1000) ∧ Φ (.tup (List.replicate k.toNat xs).flatten)
  | _, _ => False) fun d f Φ h => by cases d <;> cases f <;> first | exact False.elim h | exact .inl h | exact .inr h) fun d f Φ h => by cases d <;> cases f <;> first | exact False.elim h | exact .inl h | exact .inr h

/-! ### == of data -/
mutual
def D.py : D → PyData
  | .non => .none
  | .bl b => .bool b
  | .int i => .int i
  | .str x => .str x
  | .lst xs => .list (D.pys xs)
  | .tup xs => .tuple (D.pys xs)
  | .obj .. => .none
  | .dcI .. => .none
  | .dcT .. => .none
  | .raw _ => .none
def D.pys : List D → List PyData
  | [] => []
  | x :: xs => D.py x :: D.pys xs
end
mutual
def D.plain : D → Bool
  | .non => true
  | .bl b => true
  | .int i => true
  | .str x => true
  | .lst xs => D.plains xs
  | .tup xs => D.plains xs
  | .obj .. => false
  | .dcI .. => false
  | .dcT .. => false
  | .raw _ => false
def D.plains : List D → Bool
  | [] => true
  | x :: xs => D.plain x && D.plains xs
end
section
variable {B : Addr → Prop} {H : Hp}
mutual
theorem Rep.dp : ∀ {v : V} {d : D}, Rep B H v d → d.plain = true → Dp KOf.K H v d.py
  | _, _, .non, _ => by unfold D.py; exact .non
  | _, _, .bl b, _ => by unfold D.py; exact .bl b
  | _, _, .int i, _ => by unfold D.py; exact .int i
  | _, _, .str x, _ => by unfold D.py; exact .str x
  | _, _, .lst n s r, h => by unfold D.plain at h; unfold D.py; exact .lst (SqL.of s) (RepL.dp r h)
  | _, _, .tup s r, h => by unfold D.plain at h; unfold D.py; exact .tup s.sq (RepL.dp r h)
  | _, _, .obj n s l r, h => by unfold D.plain at h; cases h
  | _, _, .dcI .., h => by unfold D.plain at h; cases h
  | _, _, .dcT .., h => by unfold D.plain at h; cases h
  | _, _, .raw v, h => by unfold D.plain at h; cases h
theorem RepL.dp : ∀ {vs : List V} {ds : List D}, RepL B H vs ds → D.plains ds = true → DpAll KOf.K H vs (D.pys ds)
  | _, _, .nil, _ => by unfold D.pys; exact .nil
  | _, _, .cons r t, h => by
    unfold D.plains at h
    obtain ⟨h1, h2⟩ := Bool.and_eq_true_iff.mp h
    unfold D.pys
    exact .cons (Rep.dp r h1) (RepL.dp t h2)
end
end
/-- == : flat things at once; else at any depth -/
def wEqU : WR := fun d f Φ => match eqS d f with
  | some b => Φ (.bl b)
  | none => (d.plain = true ∧ f.plain = true ∧ SeqAt.shaped d.py = true ∧ SeqAt.shaped f.py = true) ∧ Φ (.bl (PyData.eqv d.py f.py))
def wNeU : WR := fun d f Φ => match eqS d f with
  | some b => Φ (.bl (!b))
  | none => (d.plain = true ∧ f.plain = true ∧ SeqAt.shaped d.py = true ∧ SeqAt.shaped f.py = true) ∧ Φ (.bl (!PyData.eqv d.py f.py))
theorem ar_eqU : AbsR (fun x y H Q => rEq x y H Q ∨ rEqD KOf.K x y H Q) wEqU := by
  intro δ M H fr x y d f rx ry Φ Q h k
  unfold wEqU at h
  split at h
  · rename_i b e
    obtain ⟨h1, h2⟩ := eqS_is rx ry e
    exact .inl ⟨h1, k _ H _ (Ext.refl H) (by rw [h2]; exact .bl b) h⟩
  · obtain ⟨⟨h1, h2, h3, h4⟩, h⟩ := h
    exact .inr ⟨_, _, rx.dp h1, ry.dp h2, h3, h4, k _ H _ (Ext.refl H) (.bl _) h⟩
theorem ar_neU : AbsR (fun x y H Q => rNe x y H Q ∨ rNeD KOf.K x y H Q) wNeU := by
  intro δ M H fr x y d f rx ry Φ Q h k
  unfold wNeU at h
  split at h
  · rename_i b e
    obtain ⟨h1, h2⟩ := eqS_is rx ry e
    exact .inl ⟨h1, k _ H _ (Ext.refl H) (by rw [h2]; exact .bl _) h⟩
  · obtain ⟨⟨h1, h2, h3, h4⟩, h⟩ := h
    exact .inr ⟨_, _, rx.dp h1, ry.dp h2, h3, h4, k _ H _ (Ext.refl H) (.bl _) h⟩
theorem op_eqU {X : Cx} (hu : X.A.units + 64 < cLine) : OpR X (compareOp .Eq) (fun x y H Q => rEq x y H Q ∨ rEqD X.K x y H Q) := op_eq.or (op_eqD hu)
theorem op_neU {X : Cx} (hu : X.A.units + 64 < cLine) : OpR X (compareOp .NotEq) (fun x y H Q => rNe x y H Q ∨ rNeD X.K x y H Q) := op_ne.or (op_neD hu)

/-! ### x in xs, flat things -/
def flatD : D → Bool
  | .non | .bl _ | .int _ | .str _ => true
  | _ => false
def eqF : D → D → Bool
  | .non, .non => true
  | .bl a, .bl b => a == b
  | .bl a, .int j => (if a then 1 else 0) == j
  | .int i, .bl b => i == (if b then 1 else 0)
  | .int i, .int j => i == j
  | .str x, .str y => x == y
  | _, _ => false
def wIn (neg : Bool) : WR := fun d f Φ => match f with
  | .lst xs => (flatD d = true ∧ xs.all flatD = true) ∧ Φ (.bl (if neg then !(xs.any fun y => eqF y d) else xs.any fun y => eqF y d))
  | .tup xs => (flatD d = true ∧ xs.all flatD = true) ∧ Φ (.bl (if neg then !(xs.any fun y => eqF y d) else xs.any fun y => eqF y d))
  | _ => False

theorem flat_rep {B : Addr → Prop} {H : Hp} {v : V} {d : D} (r : Rep B H v d) (h : flatD d = true) : flatV v = true := by
  cases r <;> first | rfl | cases h
theorem flat_reps {B : Addr → Prop} {H : Hp} : ∀ {vs : List V} {ds : List D}, RepL B H vs ds → ds.all flatD = true → vs.all flatV = true
  | _, _, .nil, _ => rfl
  | _, _, .cons r t, h => by
    rw [List.all_cons, Bool.and_eq_true_iff] at h ⊢
    exact ⟨flat_rep r h.1, flat_reps t h.2⟩
theorem eqF_is {B : Addr → Prop} {H : Hp} {v u : V} {d f : D} (r : Rep B H v d) (q : Rep B H u f) (h : flatD d = true) (h' : flatD f = true) : eqV v u = eqF d f := by
  cases r <;> cases q <;> first | rfl | (cases h; done) | (cases h'; done)
theorem any_is {B : Addr → Prop} {H : Hp} {u : V} {f : D} (q : Rep B H u f) (hf : flatD f = true) : ∀ {vs : List V} {ds : List D}, RepL B H vs ds → ds.all flatD = true → inV u vs = ds.any fun y => eqF y f
  | _, _, .nil, _ => rfl
  | _, _, .cons r t, h => by
    rw [List.all_cons, Bool.and_eq_true_iff] at h
    have ih := any_is q hf t h.2
    unfold inV at ih ⊢
    rw [List.any_cons, List.any_cons, eqF_is r q h.1 hf, ih]
theorem ar_in {neg : Bool} : AbsR (rIn KOf.K neg) (wIn neg) := by
  intro δ M H fr x y d f rx ry Φ Q h k
  cases ry <;> first | exact False.elim h | skip
  · rename_i n s r
    obtain ⟨⟨h1, h2⟩, h⟩ := h
    refine ⟨_, _, rfl, .inl (SqL.of s), flat_rep rx h1, flat_reps r h2, k _ H _ (Ext.refl H) ?_ h⟩
    rw [any_is rx h1 r h2]
    exact .bl _
  · rename_i s r
    obtain ⟨⟨h1, h2⟩, h⟩ := h
    refine ⟨_, _, rfl, .inr s.sq, flat_rep rx h1, flat_reps r h2, k _ H _ (Ext.refl H) ?_ h⟩
    rw [any_is rx h1 r h2]
    exact .bl _
def wIsN : WR := fun d f Φ => match f with
  | .non => (match d with
    | .non => Φ (.bl true)
    | .raw _ => False
    | _ => Φ (.bl false))
  | _ => False
theorem ar_isN : AbsR (fun x y H Q => y = .non ∧ Q (.bl (decide (x = .non))) H) wIsN := by
  intro δ M H fr x y d f rx ry Φ Q h k
  cases ry <;> first | exact False.elim h | skip
  cases rx <;> first | exact False.elim h | exact ⟨rfl, k _ H _ (Ext.refl H) (.bl _) h⟩
section
variable {X : Cx} {E : XK} {e e2 : Expr} {te te2 : TE} {w w2 : WE} {pos : Pos} {x : Str}
/-! ### slices of lists and tuples -/
variable {lo hi : Option Expr} {wl wh : WO} {to tu : TO}
def wSl (w : WE) (wl wh : WO) : WE := fun ρ Φ => w ρ fun d => wl ρ fun l => wh ρ fun h => match d with
  | .lst xs => Φ (.lst (cutG xs l h))
  | .tup xs => ¬ (HT.sIx xs.length 0 l = 0 ∧ HT.sIx xs.length xs.length h = xs.length) ∧ Φ (.tup (cutG xs l h))
  | _ => False
theorem de_sl {p2 : Pos} (he : DE X E e te w) (hl : DO X E lo to wl) (hu : DO X E hi tu wh) (hK : X.K = KOf.K := by rfl) : DE X E (.Subscript e (.Slice lo hi none p2) pos) (tSl (fun x l h H Q => rSlL KOf.K x l h H Q ∨ rSlT KOf.K x l h H Q) te to tu) (wSl w wl wh) := by
  obtain ⟨p, ae⟩ := he
  obtain ⟨pl, al⟩ := hl
  obtain ⟨ph, ah⟩ := hu
  refine ⟨pe_slice (hK ▸ sl_list.or sl_tup) p pl ph, fun δ M σ H ρ R Φ Q h k => ?_⟩
  refine ae δ M σ H ρ R _ _ h fun v H1 d e1 r1 h1 => ?_
  refine al δ M σ H1 ρ (R.ext e1) _ _ h1 fun l H2 e2 h2 => ?_
  refine ah δ M σ H2 ρ ((R.ext e1).ext e2) _ _ h2 fun u H3 e3 h3 => ?_
  have r3 := r1.keep (e2.trans e3).kept
  have e := (e1.trans e2).trans e3
  cases r3 <;> first | exact False.elim h3 | skip
  · rename_i n s rl
    exact .inl ⟨_, _, rfl, SqL.of s, fun q hq => k _ _ _ (e.trans (Ext.new hq)) (.lst ((R.ext e).fresh hq) upd_same ((rl.cut l u).keep (Kept.new hq))) h3⟩
  · rename_i s rl
    exact .inr ⟨_, _, rfl, s.sq, by rw [rl.length]; exact h3.1, fun q hq => k _ _ _ (e.trans (Ext.new hq)) (.tup (.of ((R.ext e).fresh hq) upd_same) ((rl.cut l u).keep (Kept.new hq))) h3.2⟩
/-! ### constants of the module, a sign ahead -/
theorem de_glob {v : V} {u : Value} {d : D} (hg : Gl X x) (hm : X.mg x = some u) (r : RelV v u) (rd : ∀ B H, Rep B H v d) (hd : (x == ("__debug__" : Str)) = false := by decide) : DE X E (.Name x pos) (tC v) (wC d) :=
  ⟨pe_glob hg hm r hd, fun δ M σ H ρ R Φ Q h k => k v H d (Ext.refl H) (rd _ _) h⟩
theorem de_globI {i : Int} {t : Tok} (hg : Gl X x) (hm : X.mg x = some (.int i t)) (hd : (x == ("__debug__" : Str)) = false := by decide) : DE X E (.Name x pos) (tC (.int i)) (wC (.int i)) := de_glob hg hm ⟨_, rfl⟩ (fun _ _ => .int i) hd
def wNeg (w : WE) : WE := fun ρ Φ => w ρ fun d => match d with
  | .int i => Φ (.int (-i))
  | _ => False
theorem de_neg (he : DE X E e te w) : DE X E (.UnaryOp .USub e pos) (tUn (rU fun i => .int (-i)) te) (wNeg w) := by
  refine ⟨pe_un un_neg he.p, fun δ M σ H ρ R Φ Q h k => ?_⟩
  refine he.a δ M σ H ρ R _ _ h fun v H1 d e1 r1 h1 => ?_
  cases r1 <;> first | exact False.elim h1 | exact ⟨_, rfl, k _ H1 _ e1 (.int _) h1⟩
/-! ### what is walked: a list or a tuple -/
def iSeq (K : PySem.W.Frag) (tl : TE) : TI := fun σ H R => tl σ H fun x H1 => ∃ a, x = .ref a ∧ (((∃ xs, SqL K H1 a xs) ∧ R (Itl K a) H1) ∨ ((∃ xs, SqT K H1 a xs) ∧ R (Itt K a) H1))
theorem pi_seq {tg l : Expr} {tl : TE} (hl : PE X l tl) : PI X tg l (iSeq X.K tl) := by
  refine ⟨fun pins s σ H R I h => ?_⟩
  refine thn (hl.run pins s σ H _ I h) fun v s1 ⟨x, H1, I1, r1, q1⟩ => ?_
  obtain ⟨a, e, q1⟩ := q1
  subst e
  cases r1
  rcases q1 with ⟨⟨xs, hq⟩, q⟩ | ⟨⟨xs, hq⟩, q⟩
  · obtain ⟨its, rv, p, hz⟩ := I1.list hq
    refine wpAny_pyIter_list p.isList ?_
    refine ⟨s1.heap.objs.size, [s1.heap.objs.size], _, _, H1, rfl, I1.kept (t' := s1.toks) fun b o e => Heap.get?_push_of_some _ e, turn_list a _, ⟨_, Heap.get?_push_size _ rfl, rfl, rfl⟩, fun b hb => ?_, q⟩
    have e : b = s1.heap.objs.size := by simpa using hb
    subst e
    exact I1.fpOk (Nat.le_refl _) (I1.hok.fresh (Nat.le_refl _))
  · obtain ⟨its, rv, p, hz⟩ := I1.tuple hq
    refine wpAny_pyIter_tuple (show s1.heap.IsTuple a its.toArray from p) ?_
    refine ⟨s1.heap.objs.size, [s1.heap.objs.size], _, _, H1, rfl, I1.kept (t' := s1.toks) fun b o e => Heap.get?_push_of_some _ e, turn_tuple a _, ⟨_, Heap.get?_push_size _ rfl, rfl, rfl⟩, fun b hb => ?_, q⟩
    have e : b = s1.heap.objs.size := by simpa using hb
    subst e
    exact I1.fpOk (Nat.le_refl _) (I1.hok.fresh (Nat.le_refl _))
def wiS (w : WE) : WI := fun ρ Φ => w ρ fun d => match d with
  | .lst xs => Φ xs
  | .tup xs => Φ xs
  | _ => False
theorem it_lst {B : Addr → Prop} {K : PySem.W.Frag} {H1 : Hp} {a : Addr} {vs : List V} {ds : List D} (n : ¬ B a) (s : H1 a = some (.lst vs)) (rl : RepL B H1 vs ds) : ItOk B (Itl K a) H1 ds := by
  have nb : ∀ B' : Addr → Prop, (∀ b, B' b → B b ∨ H1 b = none) → ¬ B' a := fun B' hB z => (hB a z).elim n (rd_there s)
  refine ⟨fun B' hB H2 i kp hi => ?_, fun B' hB H2 i kp hi => ?_, fun B' hB H2 i x v H3 kp hN hx y => ?_⟩
  · obtain ⟨u, hu, _⟩ := rl.at (List.getElem?_eq_getElem hi)
    exact ⟨vs, u, sl_same s (nb B' hB) kp, hu⟩
  · exact ⟨vs, sl_same s (nb B' hB) kp, by rw [rl.length]; exact hi⟩
  · obtain ⟨e, y⟩ := y
    subst e
    obtain ⟨u, hu, ru⟩ := rl.at hx
    have hv := y vs (sl_same s (nb B' hB) kp)
    rw [hu] at hv
    cases hv
    exact ⟨Kept.refl _ _, (ru.less hB).keep kp⟩
theorem di_seq {tg : Expr} (he : DE X E e te w) (hK : X.K = KOf.K := by rfl) : DI X E tg e (iSeq KOf.K te) (wiS w) := by
  refine ⟨hK ▸ pi_seq he.p, fun δ M σ H ρ R Φ Q h k => ?_⟩
  refine he.a δ M σ H ρ R _ _ h fun v H1 d e1 r1 h1 => ?_
  cases r1 <;> first | exact False.elim h1 | skip
  · rename_i a vs ds n s rl
    exact ⟨a, rfl, .inl ⟨⟨vs, SqL.of s⟩, k _ H1 ds e1 (it_lst n s rl) h1⟩⟩
  · rename_i a vs ds s rl
    exact ⟨a, rfl, .inr ⟨⟨vs, s.sq⟩, k _ H1 ds e1 (it_tup s rl) h1⟩⟩
end
end Dl

namespace Dl
open PySem L2 PyProof.Rows
variable [KOf]
open AutoSeq1 (wpAny_loadPart')
/-! ### enumerate over a tuple -/
theorem meets_enumerate_newT (l : Addr) (items : Array Value) (n : Nat) (dct : Option Addr) (sl : Array (Option Value)) :
    Meets (Builtin.«enumerate.__new__» ⟨[.type "enumerate", .ref l], []⟩) (fun _ R s => s.heap.get? l = some { cls := .type "tuple", dict := dct, data := .seq items n, slots := sl } ∧
      R (.ok (.ret (.ref (s.heap.push { cls := .type "tuple_iterator", data := .fields #[.ref l, .int 0 0] }).objs.size)))
        { s with heap := (s.heap.push { cls := .type "tuple_iterator", data := .fields #[.ref l, .int 0 0] }).push { cls := .type "enumerate", data := .fields #[.none, .bool false, .ref s.heap.objs.size, rawInt 0, .none, .none] } }) :=
  .of_wp fun prog w A R s h => by
    obtain ⟨hp, g, d, tk, os⟩ := s; obtain ⟨hl, h⟩ := h
    have hsub := sub_enumerate
    have hL : Heap.IsTuple (Shared.heap ⟨hp, g, d, tk, os⟩) l items := ⟨_, hl, rfl, n, rfl⟩
    wp_walk using wpAny_loadPart' hl
    refine wpAny_stack_any fun st => wpAny_pure ?_
    split
    · rename_i c _ _ _ _ _
      cases (c == Value.type "enumerate")
      · wp_walk using wpAny_loadPart' hl, wpAny_pyIter_tuple hL
        exact ⟨_, rfl, h⟩
      · wp_walk using wpAny_loadPart' hl, wpAny_pyIter_tuple hL
        exact ⟨_, rfl, h⟩
    · wp_walk using wpAny_loadPart' hl, wpAny_pyIter_tuple hL
      exact ⟨_, rfl, h⟩
section
variable {prog : Program} {w : World} {A : Around} {E : Value → Shared → Prop} {s : Shared}
theorem call_enumerate_tuple {l : Addr} {items : Array Value} {Q : Value → Shared → Prop} (hL : s.heap.IsTuple l items)
    (h : ∀ h', IsEnum h' (s.heap.objs.size + 1) s.heap.objs.size 0 .none → h'.IsTupleIter s.heap.objs.size l 0 → h'.objs.size = s.heap.objs.size + 2 →
      (∀ b o, s.heap.get? b = some o → h'.get? b = some o) → Q (.ref (s.heap.objs.size + 1)) { s with heap := h' }) :
    wpAny (model prog w) A (call (.type "enumerate") [.ref l]) Q E s := by
  obtain ⟨⟨c, dct, dt, sl⟩, hl, hc, n, hd⟩ := hL
  replace hc : c = .type "tuple" := hc
  replace hd : dt = .seq items n := hd
  subst hc hd
  refine callType_new F.called_enumerate (by decide) (F.typeCall_enumerate_1 _) (F.newCall_enumerate_1 _) (fun obj => F.args_object_init_2 obj _) F.entry_enumerate_new
    (meets_enumerate_newT l items n dct sl) ⟨hl, ?_⟩
  have hz : (s.heap.push { cls := .type "tuple_iterator", data := .fields #[.ref l, .int 0 0] }).objs.size = s.heap.objs.size + 1 := Heap.size_push ..
  show _ ∧ _
  rw [hz]
  have he : IsEnum ((s.heap.push { cls := .type "tuple_iterator", data := .fields #[.ref l, .int 0 0] }).push
      { cls := .type "enumerate", data := .fields #[.none, .bool false, .ref s.heap.objs.size, rawInt 0, .none, .none] }) (s.heap.objs.size + 1) s.heap.objs.size 0 .none := by
    have := Heap.get?_push_size (s.heap.push { cls := .type "tuple_iterator", data := .fields #[.ref l, .int 0 0] })
      (o := { cls := .type "enumerate", data := .fields #[.none, .bool false, .ref s.heap.objs.size, rawInt 0, .none, .none] }) rfl
    rw [hz] at this; exact this
  refine ⟨⟨_, he, rfl⟩, h _ he ⟨_, Heap.get?_push_of_some _ (Heap.get?_push_size _ rfl), rfl, rfl⟩ (by rw [Heap.size_push, hz]) fun b o x => Heap.get?_push_of_some _ (Heap.get?_push_of_some _ x)⟩
end
/-- the tuple at a as it stands at each turn, the items in new pairs -/
def IteT (K : PySem.W.Frag) (a : Addr) : It :=
  ⟨fun i H => ∃ (xs : List V) (x : V), SqT K H a xs ∧ xs[i]? = some x, fun i H v H' => ∃ T x, v = .ref T ∧ H T = none ∧ H' = upd H T (.tup [.int (i : Nat), x]) ∧ ∀ xs, SqT K H a xs → xs[i]? = some x, fun i H => ∃ xs : List V, SqT K H a xs ∧ xs.length ≤ i⟩
theorem turn_enumT {P : Program} {w : World} {K : PySem.W.Frag} {elts : List Expr} {kk : Nat} {tpos : Pos} (a e it : Addr) :
    Turn P w K (.Tuple elts kk tpos) (IteT K a) [e, it] e (fun i h => (∃ old, IsEnum h e it ((i : Nat) : Int) old) ∧ h.IsTupleIter it a i ∧ e ≠ it) where
  mem := by simp
  obj := fun i h st b hb => by
    obtain ⟨⟨old, he⟩, ⟨o, ho, hc, hd⟩, _⟩ := st
    have e' : b = e ∨ b = it := by simpa using hb
    rcases e' with z | z
    · rw [z]; exact ⟨_, he, fun v q => nomatch q⟩
    · rw [z]; exact ⟨o, ho, fun v q => by rw [hd] at q; cases q⟩
  keep := fun i h h' st k => let ⟨⟨old, he⟩, hi, hne⟩ := st; ⟨⟨old, k e (by simp) _ he⟩, hi.at fun o q => k it (by simp) o q, hne⟩
  item := by
    intro X hP hw hK hc i pins s σ H E I hf st hg
    subst hP hw hK
    obtain ⟨⟨old, he⟩, hit, hne⟩ := st
    obtain ⟨xs, x, hq, hx⟩ := hg
    obtain ⟨its, rv, p, hz⟩ := I.tuple hq
    obtain ⟨u, hu, ru⟩ := rv.get hx
    have hel : e < s.heap.objs.size := Heap.lt_size he
    have hil : it < s.heap.objs.size := by obtain ⟨_, q, _⟩ := hit; exact Heap.lt_size q
    have pt : s.heap.IsTuple a its.toArray := p
    have hai : a ≠ it := fun z => by
      obtain ⟨o1, q1, c1, _⟩ := pt
      obtain ⟨o2, q2, c2, _⟩ := hit
      rw [z, q2] at q1
      cases q1
      rw [c2] at c1
      exact absurd c1 (by decide)
    have hae : a ≠ e := fun z => by
      obtain ⟨o1, q1, c1, _⟩ := pt
      rw [z, he] at q1
      cases q1
      exact absurd (show Value.type "enumerate" = Value.type "tuple" from c1) (by decide)
    have hlt : i < its.toArray.size := by
      have := (List.getElem?_eq_some_iff.mp hu).1
      simpa using this
    have D := Draws.tuple (prog := X.prog) (w := X.w) (A := X.A.in1) (show X.A.in1.handled = none from I.ok.hd hc) it a hai its.toArray
    refine wpAny_pyNext_enum_itemD D he ⟨hit, pt⟩ hlt hne (by simp; exact ⟨hne, Ne.symm hae⟩) fun z h' tk hPz ho hit' hT hsz hk => ?_
    have ez : z = u := by
      have e1 : its.toArray[i]? = some u := by simpa using hu
      rw [e1] at hPz
      exact (Option.some.inj hPz).symm
    subst ez
    refine ⟨_, rfl, wpAny_letOwnedTupleGo_enum (s := { s with heap := h', toks := tk + 1 }) ho fun h'' he' sb => ?_⟩
    have hT2 : h''.get? s.heap.objs.size = some { cls := .type "tuple", data := .seq #[.int i tk, z] } := (sb.2 _ (Nat.ne_of_gt hel)).trans hT
    have new : ObjOk X.prog X.w (upd H s.heap.objs.size (.tup [.int (i : Nat), x])) h'' s.heap.objs.size (.tup [.int (i : Nat), x]) :=
      ⟨by show 2 ≤ sizeLine; decide, [.int i tk, z], .cons ⟨_, rfl⟩ (.cons ru .nil), ⟨_, hT2, rfl, _, rfl⟩⟩
    have I1 : Inv X pins σ (upd H s.heap.objs.size (.tup [.int (i : Nat), x])) { s with heap := h'', toks := tk + 1 } :=
      I.turnedNew (ch := [e, it]) (fun b ob hb q => (sb.2 b (fun z => hb (by simp [z]))).trans (hk b ob (fun z => hb (by simp [z])) (fun z => hb (by simp [z])) q)) hf (Nat.le_refl _) new
    refine ⟨.ref s.heap.objs.size, _, I1, rfl, ⟨_, x, rfl, I.hok.fresh (Nat.le_refl _), rfl, fun ys hy => by rw [I.tuple_inj hy hq]; exact hx⟩, ⟨⟨z, ?_⟩, hit'.1.at fun o q => (sb.2 it (Ne.symm hne)).trans q, hne⟩, fun b hb => ?_⟩
    · have e1 : ((i + 1 : Nat) : Int) = (i : Int) + 1 := by omega
      rw [e1]; exact he'
    · have hb' : b < s.heap.objs.size := by
        have e' : b = e ∨ b = it := by simpa using hb
        rcases e' with z | z
        · rw [z]; exact hel
        · rw [z]; exact hil
      rw [upd_ne (Nat.ne_of_lt hb')]
      exact (hf b hb).1
  done := by
    intro X hP hw hK hc i pins s σ H E I hf st hg
    subst hP hw hK
    obtain ⟨⟨old, he⟩, hit, hne⟩ := st
    obtain ⟨xs, hq, hx⟩ := hg
    obtain ⟨its, rv, p, hz⟩ := I.tuple hq
    obtain ⟨f0, f1, f2, f3, f4, f5⟩ := hf it (by simp)
    have hl := rv.length
    have hh : X.A.handled = none := I.ok.hd hc
    have hT : s.TypeIs (.ref e) "enumerate" := ⟨_, he, rfl⟩
    have pt : s.heap.IsTuple a its.toArray := p
    unfold pyNext
    refine wpAny_bind (wpAny_attempt (wpAny_callSpecial?_slot (name := Str.ofString "__next__") hT F.slot_enumerate_next
      (wpAny_call_entry F.slot_enumerate_next hT F.entry_enumerate_next ?_ (F.args_enumerate_next_1 _))))
    show wpAny _ _ (field (.ref e) 2 >>= _) _ _ _
    refine wpAny_bind (wpAny_field he rfl (x := .ref it) rfl ?_)
    refine wpAny_bind (RZ.nextOf_tuple_end (show X.A.in1.handled = none from hh) hit pt (by simp; omega) fun h' x he' hx' => ?_)
    obtain ⟨o, ho, hc⟩ := hx'
    refine wpAny_bind (wpAny_isInstance (T := "StopIteration") (b := true) ⟨o, ho, hc⟩ isSubtype_stop ?_)
    exact wpAny_pure ⟨rfl, I.turned (t' := s.toks) (fun b o hb q => he' b o hb q) f0 f1 f3 f4 f5⟩
  self := fun A i s Q E st h => let ⟨⟨_, he⟩, _⟩ := st; wpAny_pyIter_enum he h

section
variable {X : Cx} {EE : XK}
/-- enumerate(list), enumerate(tuple) -/
def iEnumS (K : PySem.W.Frag) (ta : TA) : TI := fun σ H R => ta σ H fun vs H1 => ∃ a, vs = [.ref a] ∧ (((∃ xs, SqL K H1 a xs) ∧ R (Ite K a) H1) ∨ ((∃ xs, SqT K H1 a xs) ∧ R (IteT K a) H1))
theorem pi_enumS {e : Expr} {ta : TA} {p pos tpos : Pos} {elts : List Expr} {kk : Nat} (hg : Gl X "enumerate") (hm : X.mg "enumerate" = none) (ha : PA X [e] ta) (hs : starEach [e] X.env = [(false, eval e X.env)] := by rfl) :
    PI X (.Tuple elts kk tpos) (.Call (.Name "enumerate" p) [e] [] pos) (iEnumS X.K ta) := by
  refine ⟨fun pins s σ H R I h => ?_⟩
  refine Call_ (ld_blt I hg hm boot_enumerate (PyProof.Rows.callWith_type1 (thn (ha.run pos pins s σ H _ I h) fun us s1 ⟨vs, H1, I1, r1, q1⟩ => ?_) hs rfl))
  obtain ⟨a, ex, q1⟩ := q1
  subst ex
  cases r1 with
  | cons r rr =>
    cases rr
    cases r
    rcases q1 with ⟨⟨xs, hq⟩, q⟩ | ⟨⟨xs, hq⟩, q⟩
    · obtain ⟨its, rv, p', hz⟩ := I1.list hq
      refine call_enumerate_list p'.isList fun h' he hit hsz hk => wpAny_pyIter_enum he ?_
      have I2 : Inv X pins σ H1 { s1 with heap := h' } := I1.kept (t' := s1.toks) hk
      refine ⟨s1.heap.objs.size + 1, [s1.heap.objs.size + 1, s1.heap.objs.size], _, _, H1, rfl, I2, turn_enum a (s1.heap.objs.size + 1) s1.heap.objs.size, ⟨⟨.none, he⟩, hit, Nat.succ_ne_self _⟩, fun b hb => ?_, q⟩
      have e' : b = s1.heap.objs.size + 1 ∨ b = s1.heap.objs.size := by simpa using hb
      have hle : s1.heap.objs.size ≤ b := by
        rcases e' with z | z
        · rw [z]; exact Nat.le_add_right _ _
        · rw [z]; exact Nat.le_refl _
      exact I1.fpOk hle (I1.hok.fresh hle)
    · obtain ⟨its, rv, p', hz⟩ := I1.tuple hq
      refine call_enumerate_tuple (show s1.heap.IsTuple a its.toArray from p') fun h' he hit hsz hk => wpAny_pyIter_enum he ?_
      have I2 : Inv X pins σ H1 { s1 with heap := h' } := I1.kept (t' := s1.toks) hk
      refine ⟨s1.heap.objs.size + 1, [s1.heap.objs.size + 1, s1.heap.objs.size], _, _, H1, rfl, I2, turn_enumT a (s1.heap.objs.size + 1) s1.heap.objs.size, ⟨⟨.none, he⟩, hit, Nat.succ_ne_self _⟩, fun b hb => ?_, q⟩
      have e' : b = s1.heap.objs.size + 1 ∨ b = s1.heap.objs.size := by simpa using hb
      have hle : s1.heap.objs.size ≤ b := by
        rcases e' with z | z
        · rw [z]; exact Nat.le_add_right _ _
        · rw [z]; exact Nat.le_refl _
      exact I1.fpOk hle (I1.hok.fresh hle)
def wiEn (ws : WA) : WI := fun ρ Φ => ws ρ fun ss => match ss with
  | [.d (.lst xs)] => Φ (enumD xs)
  | [.d (.tup xs)] => Φ (enumD xs)
  | _ => False
theorem di_enumS {e : Expr} {tl : TA} {ws : WA} {p pos tpos : Pos} {elts : List Expr} {kk : Nat} (hg : Gl X "enumerate") (hm : X.mg "enumerate" = none) (ha : DA X EE [e] tl ws) (hs : starEach [e] X.env = [(false, eval e X.env)] := by rfl) (hK : X.K = KOf.K := by rfl) :
    DI X EE (.Tuple elts kk tpos) (.Call (.Name "enumerate" p) [e] [] pos) (iEnumS KOf.K tl) (wiEn ws) := by
  refine ⟨hK ▸ pi_enumS hg hm ha.p hs, fun δ M σ H ρ R Φ Q h k => ?_⟩
  refine ha.a δ M σ H ρ R _ _ h fun vs H1 ss e1 r1 _ _ h1 => ?_
  split at h1
  · obtain ⟨v, rfl, rr⟩ := paired1 r1
    cases rr with
    | d rd => cases rd with
      | lst n s rl =>
        rename_i a us
        have nb : ∀ B' : Addr → Prop, (∀ b, B' b → Bn δ M b ∨ H1 b = none) → ¬ B' a := fun B' hB z => (hB a z).elim n (rd_there s)
        refine ⟨a, rfl, .inl ⟨⟨us, SqL.of s⟩, k _ H1 _ e1 ⟨fun B' hB H2 i kp hi => ?_, fun B' hB H2 i kp hi => ?_, fun B' hB H2 i x v H3 kp hN hx y => ?_⟩ h1⟩⟩
        · rw [enumD_len] at hi
          obtain ⟨u, hu, _⟩ := rl.at (List.getElem?_eq_getElem hi)
          exact ⟨us, u, sl_same s (nb B' hB) kp, hu⟩
        · rw [enumD_len] at hi
          exact ⟨us, sl_same s (nb B' hB) kp, by rw [rl.length]; exact hi⟩
        · obtain ⟨T, z, rfl, hT, rfl, y⟩ := y
          obtain ⟨q, hq, rfl⟩ := enumD_at hx
          obtain ⟨u, hu, ru⟩ := rl.at hq
          have hv := y us (sl_same s (nb B' hB) kp)
          rw [hu] at hv
          cases hv
          exact ⟨Kept.new hT, .tup (.of (fun z => hN T z hT) upd_same) (.cons (.int _) (.cons (((ru.less hB).keep kp).keep (Kept.new hT)) .nil))⟩
  · obtain ⟨v, rfl, rr⟩ := paired1 r1
    cases rr with
    | d rd => cases rd with
      | tup s rl =>
        rename_i a us
        refine ⟨a, rfl, .inr ⟨⟨us, s.sq⟩, k _ H1 _ e1 ⟨fun B' hB H2 i kp hi => ?_, fun B' hB H2 i kp hi => ?_, fun B' hB H2 i x v H3 kp hN hx y => ?_⟩ h1⟩⟩
        · rw [enumD_len] at hi
          obtain ⟨u, hu, _⟩ := rl.at (List.getElem?_eq_getElem hi)
          exact ⟨us, u, st_same s hB kp, hu⟩
        · rw [enumD_len] at hi
          exact ⟨us, st_same s hB kp, by rw [rl.length]; exact hi⟩
        · obtain ⟨T, z, rfl, hT, rfl, y⟩ := y
          obtain ⟨q, hq, rfl⟩ := enumD_at hx
          obtain ⟨u, hu, ru⟩ := rl.at hq
          have hv := y us (st_same s hB kp)
          rw [hu] at hv
          cases hv
          exact ⟨Kept.new hT, .tup (.of (fun z => hN T z hT) upd_same) (.cons (.int _) (.cons (((ru.less hB).keep kp).keep (Kept.new hT)) .nil))⟩
  · exact h1.elim
end
end Dl

namespace Dl
open PySem L2 PyProof.Rows
variable [KOf]
/-- a def of the module that keeps a promise -/
structure Gd (Pr : Program) (w : World) (K : PySem.W.Frag) (mg : Str → Option Value) (base : Heap) (CX : CXT) (k : Nat) (x : Str) (ps : List Str) (sp : L2.Sp) (f : Addr) (fd : FuncData) : Prop where
  ok : FnOk Pr w K mg base CX k f fd ps sp
  m : mg x = some (.ref f)
  kp : PySem.W.keepIn K (.ref f) = true
  b : Binds K fd ps []
/-- a method -/
structure Md (Pr : Program) (w : World) (K : PySem.W.Frag) (mg : Str → Option Value) (base : Heap) (CX : CXT) (k : Nat) (C : Addr) (x : Str) (ps : List Str) (sp : L2.Sp) (f : Addr) (fd : FuncData) : Prop where
  ok : FnOk Pr w K mg base CX k f fd ps sp
  me : Meth K C x f
  b : Binds K fd ps []
section
variable {X : Cx} {E : XK}
/-! ### tuple(range(n)) -/
def wTR (w : WE) : WE := fun ρ Φ => w ρ fun d => match d with
  | .int j => (0 ≤ j ∧ j < 100000) ∧ Φ (.tup (rangeD 0 j.toNat))
  | _ => False
theorem repL_range {B : Addr → Prop} {H : Hp} (a : Int) : ∀ n : Nat, RepL B H ((List.range n).map fun (i : Nat) => V.int (a + (i : Nat))) (rangeD a n) := by
  intro n
  unfold rangeD
  induction n with
  | zero => exact .nil
  | succ n ih =>
    rw [List.range_succ, List.map_append, List.map_append]
    exact ih.app (.cons (.int _) .nil)
theorem de_tupRange1 {e : Expr} {te : TE} {w : WE} {p p2 pos pos2 : Pos} (hc : X.calm = true) (hg : Gl X "tuple") (hm : X.mg "tuple" = none) (hg2 : Gl X "range") (hm2 : X.mg "range" = none) (he : DE X E e te w)
    (na : starEach [e] X.env = (false, eval e X.env) :: starEach [] X.env := by rfl) (na2 : starEach [.Call (.Name "range" p2) [e] [] pos2] X.env = (false, eval (.Call (.Name "range" p2) [e] [] pos2) X.env) :: starEach [] X.env := by rfl) :
    DE X E (.Call (.Name "tuple" p) [.Call (.Name "range" p2) [e] [] pos2] [] pos) (tTupRg (tRg1 te)) (wTR w) := by
  refine ⟨pe_tupRg hc hg hm (prg_1 hg2 hm2 he.p na) na2, fun δ M σ H ρ R Φ Q h k => ?_⟩
  refine he.a δ M σ H ρ R _ _ h fun v H1 d e1 r1 h1 => ?_
  cases r1 <;> first | exact False.elim h1 | skip
  rename_i j
  obtain ⟨⟨h2, h3⟩, h1⟩ := h1
  refine ⟨j, rfl, RgOk.of_le (by omega) (by omega) (by omega) (by omega), fun q hq => k _ _ _ (e1.trans (Ext.new hq)) (.tup (.of ((R.ext e1).fresh hq) upd_same) ?_) h1⟩
  have ej : (j - 0).toNat = j.toNat := by rw [Int.sub_zero]
  unfold rgV
  rw [ej]
  exact repL_range 0 _
end
section
variable {X : Cx} {E : XK} {e e2 : Expr} {te te2 : TE} {w w2 : WE} {pos p : Pos} {x : Str}
/-! ### a list of one's own, read -/
def wLenN (i : Nat) : WE := fun ρ Φ => match look ρ.sl i with
  | some (.obj _ (.lst xs)) => Φ (.int xs.length)
  | _ => False
theorem de_lenOwn (i : Nat) {p2 : Pos} (hg : Gl X "len") (hm : X.mg "len" = none) (hN : X.N[i]? = some x := by rfl) (hv : Vis X.env.scope x := by first | exact Or.inl rfl | exact Or.inr (Or.inl rfl) | exact Or.inr (Or.inr rfl)) (hd : (x == ("__debug__" : Str)) = false := by decide)
    (hcd : (x == ("__classdict__" : Str)) = false := by decide) (hst : starEach [.Name x p2] X.env = (false, eval (.Name x p2) X.env) :: starEach [] X.env := by rfl) :
    DE X E (.Call (.Name "len" p) [.Name x p2] [] pos) (tCB (fun xs H Q => ∃ p ys, xs = [.ref p] ∧ (SqL X.K H p ys ∨ SqT X.K H p ys) ∧ Q (.int ys.length) H) (tCons (tVar i) tNil)) (wLenN i) := by
  refine ⟨pe_callB call_len_seq hg hm PySem.boot_len (pa_cons (pe_var hN hv hd hcd) pa_nil hst) (he := hst), fun δ M σ H ρ R Φ Q h k => ?_⟩
  unfold wLenN at h
  split at h
  · rename_i q ds hl
    obtain ⟨vs, hσ, m, n, hp, rl⟩ := R.own hl
    exact ⟨_, hσ, q, vs, rfl, .inl (SqL.of hp), k _ H _ (Ext.refl H) (by rw [rl.length]; exact .int _) h⟩
  · exact h.elim
def wCatN (i : Nat) (w : WE) : Env → (List D → Prop) → Prop := fun ρ Φ => match look ρ.sl i with
  | some (.obj _ (.lst xs)) => w ρ fun d => match d with
    | .lst ys => xs.length + ys.length ≤ 100000 ∧ Φ (xs ++ ys)
    | _ => False
  | _ => False
theorem df_catOwn (i : Nat) (he : DE X E e te w) (hN : X.N[i]? = some x := by rfl) (hv : Vis X.env.scope x := by first | exact Or.inl rfl | exact Or.inr (Or.inl rfl) | exact Or.inr (Or.inr rfl)) (hd : (x == ("__debug__" : Str)) = false := by decide)
    (hcd : (x == ("__classdict__" : Str)) = false := by decide) : DF X E (.BinOp (.Name x p) .Add e pos) (tOp rCat (tVar i) te) (wCatN i w) := by
  refine ⟨pe_op op_cat (pe_var hN hv hd hcd) he.p, fun δ M σ H ρ R Φ Q h k => ?_⟩
  unfold wCatN at h
  split at h
  · rename_i q ds hl
    obtain ⟨vs, hσ, m, n, hp, rl⟩ := R.own hl
    refine ⟨_, hσ, he.a δ M σ H ρ R _ _ h fun v H1 d e1 r1 h1 => ?_⟩
    cases r1 <;> first | exact False.elim h1 | skip
    rename_i b us ys nb s ry
    refine ⟨q, b, vs, us, rfl, rfl, e1.1 _ _ hp n, s, by rw [rl.length, ry.length]; exact sz_of h1.1, fun z hz => ?_⟩
    exact k z _ _ _ (e1.free R.okd hz) (e1.trans (Ext.new hz)) upd_same ((((rl.keep e1.kept).app ry).less (bn_cons hz)).keep (Kept.new hz)) h1.2
  · exact h.elim
/-! ### what is never reached -/
theorem ds_never {st : Stmt} : DS X E st tNever (fun _ _ _ => False) := ⟨ps_never, fun _ _ _ _ _ _ _ _ _ _ _ h => h.elim⟩
/-! ### all([..]) -/
def wAll : WCl := fun ss Φ => match ss with
  | [.d (.lst xs)] => ∃ bs : List Bool, xs = bs.map .bl ∧ Φ (.bl (bs.all id))
  | _ => False
theorem repL_bl {B : Addr → Prop} {H : Hp} : ∀ {vs : List V} {bs : List Bool}, RepL B H vs (bs.map D.bl) → vs = bs.map V.bl
  | [], [], _ => rfl
  | [], _ :: _, h => by cases h
  | _ :: _, [], h => by cases h
  | v :: vs, b :: bs, h => by
    have h' : RepL B H (v :: vs) (.bl b :: bs.map D.bl) := h
    cases h' with
    | cons r t =>
      cases r
      rw [repL_bl t]
      rfl
theorem ac_all : AbsC (rAll KOf.K) wAll := by
  intro δ M H fr vs ss r Φ Q h k
  unfold wAll at h
  split at h
  · obtain ⟨v, rfl, rr⟩ := paired1 r
    cases rr with
    | d rd =>
      obtain ⟨bs, rfl, h⟩ := h
      cases rd with
      | lst n s rl =>
        have e := repL_bl rl
        subst e
        exact ⟨_, bs, rfl, SqL.of s, k _ H _ (Ext.refl H) (.bl _) h⟩
  · exact h.elim
end
/-! ### reading -/
theorem iteD {p : Prop} [Decidable p] {A B : Prop} (h1 : p → A) (h2 : ¬ p → B) : if decide p = true then A else B := by
  by_cases h : p
  · rw [if_pos (decide_eq_true h)]; exact h1 h
  · rw [if_neg (by rw [decide_eq_false h]; exact Bool.false_ne_true)]; exact h2 h
theorem iteN {p : Prop} [Decidable p] {A B : Prop} (h1 : ¬ p → A) (h2 : p → B) : if (!decide p) = true then A else B := by
  by_cases h : p
  · rw [if_neg (by rw [decide_eq_true h]; exact Bool.false_ne_true)]; exact h2 h
  · rw [if_pos (by rw [decide_eq_false h]; rfl)]; exact h1 h
theorem iteDT {p : Prop} [Decidable p] {A B : Prop} (h : p) (a : A) : if decide p = true then A else B := by rw [if_pos (decide_eq_true h)]; exact a
theorem iteDF {p : Prop} [Decidable p] {A B : Prop} (h : ¬ p) (b : B) : if decide p = true then A else B := by rw [if_neg (by rw [decide_eq_false h]; exact Bool.false_ne_true)]; exact b
theorem iteC {b : Bool} {p : Prop} [Decidable p] {A B : Prop} (e : b = decide p) (h1 : p → A) (h2 : ¬ p → B) : if b = true then A else B := by rw [e]; exact iteD h1 h2
theorem atI_i {α : Type} {xs : List α} {i : Int} {x : α} (h0 : 0 ≤ i) (h : xs[i.toNat]? = some x) : atI xs i = some x := by
  have : i = ((i.toNat : Nat) : Int) := by omega
  rw [this]
  exact atI_nat h
end Dl

/-! The rules whose readings name the written part, with that part as a parameter (within a comprehension's block the context is another one, the written part the same). -/
namespace Dl
open PySem L2 PyProof.Rows
variable [KOf]
section
variable {X : Cx} {E : XK} {a b e : Expr} {ta tb te : TE} {wa wb w : WE} {pos p : Pos} {x : Str} {es : List Expr} {tl : TA} {ws : WA}
theorem opk_add (K : PySem.W.Frag) (hK : X.K = K := by rfl) : OpR X (binaryOp .Add) (rAddU K) := by subst hK; exact op_addU
theorem opk_mul (K : PySem.W.Frag) (hK : X.K = K := by rfl) : OpR X (binaryOp .Mult) (rMulU K) := by subst hK; exact op_mulU
theorem opk_eq (K : PySem.W.Frag) (hu : X.A.units + 64 < cLine) (hK : X.K = K := by rfl) : OpR X (compareOp .Eq) (fun x y H Q => rEq x y H Q ∨ rEqD K x y H Q) := by subst hK; exact op_eqU hu
theorem opk_ne (K : PySem.W.Frag) (hu : X.A.units + 64 < cLine) (hK : X.K = K := by rfl) : OpR X (compareOp .NotEq) (fun x y H Q => rNe x y H Q ∨ rNeD K x y H Q) := by subst hK; exact op_neU hu
theorem opk_in (K : PySem.W.Frag) (hK : X.K = K := by rfl) : OpR X (compareOp .In) (rIn K false) := by subst hK; exact op_in_seq
theorem opk_notin (K : PySem.W.Frag) (hK : X.K = K := by rfl) : OpR X (compareOp .NotIn) (rIn K true) := by subst hK; exact op_notIn_seq
theorem cr_len (K : PySem.W.Frag) (hK : X.K = K := by rfl) : CallR X (.builtin "len") (fun xs H Q => ∃ p ys, xs = [.ref p] ∧ (SqL K H p ys ∨ SqT K H p ys) ∧ Q (.int ys.length) H) := by subst hK; exact call_len_seq
theorem cr_tuple (K : PySem.W.Frag) (hK : X.K = K := by rfl) : CallR X (.type "tuple") (fun xs H Q => ∃ p ys, xs = [.ref p] ∧ ((SqL K H p ys ∧ ∀ l, H l = none → Q (.ref l) (upd H l (.tup ys))) ∨ (SqT K H p ys ∧ Q (.ref p) H))) := by subst hK; exact call_tuple_of
theorem crk_all (K : PySem.W.Frag) (hc : X.calm = true) (hK : X.K = K := by rfl) : CallR X (.builtin "all") (rAll K) := by subst hK; exact cr_all hc
theorem dk_ix (K : PySem.W.Frag) (ha : DE X E a ta wa) (hb : DE X E b tb wb) (hs : PlainIx b := by exact fun _ _ => rfl) (hK : X.K = K := by rfl) (hk : K = KOf.K := by rfl) : DE X E (.Subscript a b pos) (tOp (rIxLT K) ta tb) (wOp wIx wa wb) := by subst hk; exact de_ix ha hb hs (hK := hK)
theorem dk_ixOwn (K : PySem.W.Frag) (i : Nat) (hb : DE X E b tb wb) (hs : PlainIx b := by exact fun _ _ => rfl) (hN : X.N[i]? = some x := by rfl) (hv : Vis X.env.scope x := by first | exact Or.inl rfl | exact Or.inr (Or.inl rfl) | exact Or.inr (Or.inr rfl)) (hd : (x == ("__debug__" : Str)) = false := by decide)
    (hcd : (x == ("__classdict__" : Str)) = false := by decide) (hK : X.K = K := by rfl) : DE X E (.Subscript (.Name x p) b pos) (tOp (rIxL K) (tVar i) tb) (wIxN i wb) := by subst hK; exact de_ixOwn i hb hs hN hv hd hcd
theorem dk_sl {lo hi : Option Expr} {wl wh : WO} {to tu : TO} {p2 : Pos} (K : PySem.W.Frag) (he : DE X E e te w) (hl : DO X E lo to wl) (hu : DO X E hi tu wh) (hK : X.K = K := by rfl) (hk : K = KOf.K := by rfl) :
    DE X E (.Subscript e (.Slice lo hi none p2) pos) (tSl (fun x l h H Q => rSlL K x l h H Q ∨ rSlT K x l h H Q) te to tu) (wSl w wl wh) := by subst hk; exact de_sl he hl hu (hK := hK)
theorem dk_fld (K : PySem.W.Frag) {C : Addr} {f : Str} (c : Cls K C) (nA : NoAttr K C f) (he : DE X E e te w) (hb : attributeBase e f X.env (eval e X.env) = eval e X.env := by rfl) (hK : X.K = K := by rfl) : DE X E (.Attribute e f pos) (tFld K te f) (wFld C f w) := by subst hK; exact de_fld c nA he hb
theorem dk_listOf (K : PySem.W.Frag) (hg : Gl X x) (hm : X.mg x = none) (hv : bootBuiltins x = some (.type "list")) (ha : DA X E (e :: es) tl ws) (hn : x ≠ "__name__" := by decide) (hdb : (x == ("__debug__" : Str)) = false := by decide)
    (he : starEach (e :: es) X.env = (false, eval e X.env) :: starEach es X.env := by rfl) (hpl : (backTo pos (starEach es X.env)).any (·.1) = false := by rfl) (hK : X.K = K := by rfl) (hk : K = KOf.K := by rfl) :
    DF X E (.Call (.Name x p) (e :: es) [] pos) (tCB (fun xs H Q => ∃ p ys, xs = [.ref p] ∧ (SqL K H p ys ∨ SqT K H p ys) ∧ ∀ l, H l = none → Q (.ref l) (upd H l (.lst ys))) tl) (wListOf ws) := by subst hk; exact df_listOf hg hm hv ha hn hdb he hpl (hK := hK)
theorem dk_tup {ix : List Nat} {es : List Expr} {k : Nat} {gs : TGs} {ws : WGs} {n : Nat} (K : PySem.W.Frag) (hc : X.calm = true) (h : DGs X ix es gs ws) (hn : (assignEach es X.env).length = n := by rfl) (hst : (assignEach es X.env).findIdx? (·.1) = none := by rfl) (hK : X.K = K := by rfl) (hk : K = KOf.K := by rfl) :
    DG X ix (.Tuple es k pos) (gTup K n gs) (wgTup n ws) := by subst hk; exact dg_tup hc h hn hst (hK := hK)
theorem dk_seq {tg : Expr} (K : PySem.W.Frag) (he : DE X E e te w) (hK : X.K = K := by rfl) (hk : K = KOf.K := by rfl) : DI X E tg e (iSeq K te) (wiS w) := by subst hk; exact di_seq he (hK := hK)
theorem dk_enum {e : Expr} {tl : TA} {ws : WA} {p pos tpos : Pos} {elts : List Expr} {kk : Nat} (K : PySem.W.Frag) (hg : Gl X "enumerate") (hm : X.mg "enumerate" = none) (ha : DA X E [e] tl ws) (hs : starEach [e] X.env = [(false, eval e X.env)] := by rfl) (hK : X.K = K := by rfl) (hk : K = KOf.K := by rfl) :
    DI X E (.Tuple elts kk tpos) (.Call (.Name "enumerate" p) [e] [] pos) (iEnumS K tl) (wiEn ws) := by subst hk; exact di_enumS hg hm ha hs (hK := hK)
end
end Dl
namespace Dl
open PySem L2 PyProof.Rows
variable [KOf]
section
variable {X : Cx} {E : XK} {o e : Expr} {to te : TE} {wo w : WE}
/-- xs.index(y), of data at any depth -/
def wIndex (wo w : WE) : WE := fun ρ Φ => wo ρ fun d => match d with
  | .lst xs => w ρ fun y => (D.plains xs = true ∧ y.plain = true ∧ SeqAt.shaped (D.lst xs).py = true ∧ SeqAt.shaped y.py = true) ∧ ∃ (j : Nat) (z : D), xs[j]? = some z ∧ PyData.eqv z.py y.py = true ∧ (∀ (m : Nat) (z' : D), m < j → xs[m]? = some z' → PyData.eqv z'.py y.py = false) ∧ Φ (.int j)
  | _ => False
theorem Room.u65 {k : Nat} {A : Around} (r : Room k A) : A.units + 65 < cLine := by have := r.un; omega
theorem pys_get : ∀ {xs : List D} {j : Nat}, (D.pys xs)[j]? = (xs[j]?).map D.py
  | [], _ => by simp [D.pys]
  | x :: r, 0 => by simp [D.pys]
  | x :: r, j + 1 => by simp [D.pys, pys_get (xs := r) (j := j)]
theorem dk_index {apos cpos : Pos} (K : PySem.W.Frag) (hu : X.A.units + 65 < cLine) (ho : DE X E o to wo) (he : DE X E e te w)
    (hst : starEach (e :: []) X.env = (false, eval e X.env) :: starEach [] X.env := by rfl) (hbase : attributeBase o "index" X.env (eval o X.env) = eval o X.env := by rfl)
    (hfew : ((backTo cpos (starEach (e :: []) X.env)).all (fun x => !x.1) && (backToKw cpos (keywordEach [] X.env)).all (fun x => x.1.isSome)
      && decide ((e :: []).length + ([] : List Keyword).length + (if ([] : List Keyword).isEmpty then 0 else 1) < 30)) = true := by rfl)
    (hline : (apos.endLine == cpos.line) = true := by rfl) (hplain : (backTo cpos (starEach [] X.env)).any (·.1) = false := by rfl) (hK : X.K = K := by rfl) (hk : K = KOf.K := by rfl) :
    DE X E (.Call (.Attribute o "index" apos) [e] [] cpos) (tBM K "list" (rIndexD K) to (tCons te tNil)) (wIndex wo w) := by
  subst hk
  refine ⟨hK ▸ pe_bm PySem.F.plainAttrs_list PySem.F.slot_list_index PySem.F.type_list_index (mt_indexD hu) ho.p (pa_cons he.p pa_nil hst) hbase hfew hline hst hplain, fun δ M σ H ρ R Φ Q h k => ?_⟩
  refine ho.a δ M σ H ρ R _ _ h fun v H1 d e1 r1 h1 => ?_
  cases r1 <;> first | exact False.elim h1 | skip
  rename_i a vs xs n s rl
  refine ⟨.inl ⟨rfl, _, SqL.of s⟩, ?_⟩
  refine he.a δ M σ H1 ρ (R.ext e1) _ _ h1 fun u H2 y e2 r2 h2 => ?_
  obtain ⟨⟨h3, h4, h5, h6⟩, j, z, h7, h8, h9, h2⟩ := h2
  have rl2 : Rep (Bn δ M) H2 (.ref a) (.lst xs) := (Rep.lst n s rl).keep e2.kept
  refine ⟨a, u, y.py, D.pys xs, j, z.py, rfl, rfl, ?_, r2.dp h4, ?_, h6, ?_, h8, fun m z' hm hz => ?_, k _ H2 _ (e1.trans e2) (.int _) h2⟩
  · have q := rl2.dp (by unfold D.plain; exact h3)
    unfold D.py at q
    exact q
  · have q := h5
    unfold D.py at q
    exact q
  · rw [pys_get, h7]; rfl
  · rw [pys_get] at hz
    cases q : xs[m]? with
    | none => rw [q] at hz; cases hz
    | some w' =>
      rw [q] at hz
      cases hz
      exact h9 m w' hm q
/-! ### a < b < c < d -/
def tChain3 (r r' r2 : R2) (ta tb tc td : TE) : TE := fun σ H Q => ta σ H fun x H1 => tb σ H1 fun y H2 => r x y H2 fun z H3 => ∃ k, z = .bl k ∧
  (if k = true then tc σ H3 fun u H4 => r' y u H4 fun z2 H5 => ∃ k2, z2 = .bl k2 ∧ (if k2 = true then td σ H5 fun v H6 => r2 u v H6 Q else Q (.bl false) H5) else Q (.bl false) H3)
variable {a b c d2 : Expr} {ta tb tc td : TE} {wa wb wc wd : WE} {r r' r2 : R2} {wr wr' wr2 : WR}
theorem pe_chain3 {op op' op2 : CmpOp} (ho : OpR X (compareOp op) r) (ho' : OpR X (compareOp op') r') (ho2 : OpR X (compareOp op2) r2) (ha : PE X a ta) (hb : PE X b tb) (hc : PE X c tc) (hd : PE X d2 td)
    (hm : lastMarks [op, op', op2] [b, c, d2] = false := by with_unfolding_all rfl) {pos : Pos} : PE X (.Compare a [op, op', op2] [b, c, d2] pos) (tChain3 r r' r2 ta tb tc td) := by
  refine ⟨fun pins s σ H Q I h => ?_⟩
  refine Compare_chain (thn (ha.run pins s σ H _ I h) fun v s1 ⟨x, H1, I1, r1, q1⟩ => chain_link (thn (hb.run pins s1 σ H1 _ I1 q1) fun u s2 ⟨y, H2, I2, ry, q2⟩ =>
    thn (ho pins s2 σ H2 x y v u _ I2 r1 ry q2) fun d s3 ⟨z, H3, I3, r3, k, e, q3⟩ => ?_)) hm
  subst e
  cases r3
  refine wpAny_truthy_bool ?_
  cases k with
  | false => exact ite_ff ⟨.bl false, H3, I3, rfl, q3⟩
  | true =>
    refine ite_tt (chain_link (thn (hc.run pins s3 σ H3 _ I3 q3) fun w' s4 ⟨z', H4, I4, r4, q4⟩ => thn (ho' pins s4 σ H4 y z' u w' _ I4 ry r4 q4) fun d s5 ⟨z5, H5, I5, r5, k2, e2, q5⟩ => ?_))
    subst e2
    cases r5
    refine wpAny_truthy_bool ?_
    cases k2 with
    | false => exact ite_ff ⟨.bl false, H5, I5, rfl, q5⟩
    | true => exact ite_tt (chain_last (thn (hd.run pins s5 σ H5 _ I5 q5) fun w6 s6 ⟨z6, H6, I6, r6, q6⟩ => ho2 pins s6 σ H6 z' z6 w' w6 Q I6 r4 r6 q6))
def wChain3 (wr wr' wr2 : WR) (wa wb wc wd : WE) : WE := fun ρ Φ => wa ρ fun d => wb ρ fun f => wr d f fun z => match z with
  | .bl k => if k = true then wc ρ fun g => wr' f g fun z2 => (match z2 with
    | .bl k2 => if k2 = true then wd ρ fun h => wr2 g h Φ else Φ (.bl false)
    | _ => False) else Φ (.bl false)
  | _ => False
theorem abs_chain3 (hr : AbsR r wr) (hr' : AbsR r' wr') (hr2 : AbsR r2 wr2) (ha : AbsE E ta wa) (hb : AbsE E tb wb) (hc : AbsE E tc wc) (hd : AbsE E td wd) : AbsE E (tChain3 r r' r2 ta tb tc td) (wChain3 wr wr' wr2 wa wb wc wd) := fun δ M σ H ρ R Φ Q h k =>
  ha δ M σ H ρ R _ _ h fun v H1 d e1 r1 h1 => hb δ M σ H1 ρ (R.ext e1) _ _ h1 fun u H2 f e2 rf h2 =>
    hr δ M H2 ((R.ext e1).ext e2).fr v u d f (r1.keep e2.kept) rf _ _ h2 fun v' H3 g e3 r3 h3 => by
      cases r3 <;> first | exact False.elim h3 | skip
      rename_i b
      refine ⟨b, rfl, ?_⟩
      cases b with
      | false => exact k _ H3 _ ((e1.trans e2).trans e3) (.bl false) h3
      | true =>
        have R3 := (((R.ext e1).ext e2).ext e3)
        refine hc δ M σ H3 ρ R3 _ _ h3 fun u' H4 g' e4 r4 h4 => ?_
        refine hr' δ M H4 (R3.ext e4).fr u u' f g' (rf.keep (e3.trans e4).kept) r4 _ _ h4 fun w' H5 g5 e5 r5 h5 => ?_
        cases r5 <;> first | exact False.elim h5 | skip
        rename_i b2
        refine ⟨b2, rfl, ?_⟩
        have e15 := (((e1.trans e2).trans e3).trans e4).trans e5
        cases b2 with
        | false => exact k _ H5 _ e15 (.bl false) h5
        | true =>
          have R5 := (R3.ext e4).ext e5
          refine hd δ M σ H5 ρ R5 _ _ h5 fun u6 H6 g6 e6 r6 h6 => ?_
          exact hr2 δ M H6 (R5.ext e6).fr u' u6 g' g6 (r4.keep (e5.trans e6).kept) r6 Φ Q h6 fun w7 H7 g7 e7 r7 h7 => k w7 H7 g7 ((e15.trans e6).trans e7) r7 h7
theorem de_chain3 {op op' op2 : CmpOp} {pos : Pos} (ho : OpR X (compareOp op) r) (hr : AbsR r wr) (ho' : OpR X (compareOp op') r') (hr' : AbsR r' wr') (ho2 : OpR X (compareOp op2) r2) (hr2 : AbsR r2 wr2) (ha : DE X E a ta wa) (hb : DE X E b tb wb) (hc : DE X E c tc wc) (hd : DE X E d2 td wd)
    (hm : lastMarks [op, op', op2] [b, c, d2] = false := by with_unfolding_all rfl) : DE X E (.Compare a [op, op', op2] [b, c, d2] pos) (tChain3 r r' r2 ta tb tc td) (wChain3 wr wr' wr2 wa wb wc wd) :=
  ⟨pe_chain3 ho ho' ho2 ha.p hb.p hc.p hd.p hm, abs_chain3 hr hr' hr2 ha.a hb.a hc.a hd.a⟩
theorem pt_chain3 {op op' op2 : CmpOp} (ho : OpR X (compareOp op) r) (ho' : OpR X (compareOp op') r') (ho2 : OpR X (compareOp op2) r2) (ha : PE X a ta) (hb : PE X b tb) (hc : PE X c tc) (hd : PE X d2 td)
    (hm : lastMarks [op, op', op2] [b, c, d2] = false := by with_unfolding_all rfl) {pos : Pos} : PT X (.Compare a [op, op', op2] [b, c, d2] pos) (tTest (tChain3 r r' r2 ta tb tc td)) := by
  refine ⟨fun pins s σ H Q I h => ?_⟩
  refine isTrue_chain (thn (ha.run pins s σ H _ I h) fun v s1 ⟨x, H1, I1, r1, q1⟩ => test_link (thn (hb.run pins s1 σ H1 _ I1 q1) fun u s2 ⟨y, H2, I2, ry, q2⟩ =>
    thn (ho pins s2 σ H2 x y v u _ I2 r1 ry q2) fun d s3 ⟨z, H3, I3, r3, k, e, q3⟩ => ?_)) hm
  subst e
  cases r3
  refine wpAny_truthy_bool ?_
  cases k with
  | false =>
    obtain ⟨k', e', q'⟩ := q3
    cases e'
    exact ite_ff ⟨H3, I3, q'⟩
  | true =>
    refine ite_tt (test_link (thn (hc.run pins s3 σ H3 _ I3 q3) fun w' s4 ⟨z', H4, I4, r4, q4⟩ => thn (ho' pins s4 σ H4 y z' u w' _ I4 ry r4 q4) fun d' s5 ⟨z2, H5, I5, r5, k2, e2, q5⟩ => ?_))
    subst e2
    cases r5
    refine wpAny_truthy_bool ?_
    cases k2 with
    | false =>
      obtain ⟨k', e', q'⟩ := q5
      cases e'
      exact ite_ff ⟨H5, I5, q'⟩
    | true =>
      refine ite_tt (test_last (thn (hd.run pins s5 σ H5 _ I5 q5) fun w6 s6 ⟨z6, H6, I6, r6, q6⟩ => thn (ho2 pins s6 σ H6 z' z6 w' w6 _ I6 r4 r6 q6) fun d6 s7 ⟨z7, H7, I7, r7, k3, e3, q7⟩ => ?_))
      subst e3
      cases r7
      exact wpAny_truthy_bool ⟨H7, I7, q7⟩
theorem dt_chain3 {op op' op2 : CmpOp} {pos : Pos} (ho : OpR X (compareOp op) r) (hr : AbsR r wr) (ho' : OpR X (compareOp op') r') (hr' : AbsR r' wr') (ho2 : OpR X (compareOp op2) r2) (hr2 : AbsR r2 wr2) (ha : DE X E a ta wa) (hb : DE X E b tb wb) (hc : DE X E c tc wc) (hd : DE X E d2 td wd)
    (hm : lastMarks [op, op', op2] [b, c, d2] = false := by with_unfolding_all rfl) : DT X E (.Compare a [op, op', op2] [b, c, d2] pos) (tTest (tChain3 r r' r2 ta tb tc td)) (wTest (wChain3 wr wr' wr2 wa wb wc wd)) := by
  refine ⟨pt_chain3 ho ho' ho2 ha.p hb.p hc.p hd.p hm, fun δ M σ H ρ R Φ Q h k => ?_⟩
  refine abs_chain3 hr hr' hr2 ha.a hb.a hc.a hd.a δ M σ H ρ R _ _ h fun v H' d e r h' => ?_
  cases r <;> first | exact False.elim h' | exact ⟨_, rfl, k _ H' e h'⟩
end
end Dl

namespace Dl
open PySem L2 PyProof.Rows
variable [KOf]
/-- a constant of the module, as data -/
def GlD (mg : Str → Option Value) (x : Str) (d : D) : Prop := ∃ (v : V) (u : Value), mg x = some u ∧ RelV v u ∧ ∀ (B : Addr → Prop) (H : Hp), Rep B H v d
theorem de_globD {X : Cx} {E : XK} {mg : Str → Option Value} {x : Str} {pos : Pos} {d : D} (h : GlD mg x d) (hg : Gl X x := by rfl) (hd : (x == ("__debug__" : Str)) = false := by decide) (hm : X.mg = mg := by rfl) : DE X E (.Name x pos) (tC h.choose) (wC d) :=
  de_glob hg (by rw [hm]; exact h.choose_spec.choose_spec.1) h.choose_spec.choose_spec.2.1 h.choose_spec.choose_spec.2.2 hd
end Dl
namespace Gh
open PySem Dl
abbrev K [i : KOf] : PySem.W.Frag := i.K
abbrev Pr [i : KOf] : Program := i.Pr
abbrev w [i : KOf] : World := i.w
end Gh

namespace Gh
open PySem L2 Dl
variable [KOf]
/-- a step of a program -/
inductive Stp where
  | put (b n : Int) | go (b : Int) (ns : List Int) (a : Int) | inn
  deriving DecidableEq
def dStp : Stp → D
  | .put b n => .tup [.str "put", .int b, .int n]
  | .go b ns a => .tup [.str "go", .int b, .tup (ns.map .int), .int a]
  | .inn => .tup [.str "in"]
abbrev Box := Int × Int
abbrev Hand := Int × List Stp
structure Gt where
  bs : List Box
  hs : List Hand
def dBox (b : Box) : D := .tup [.int b.1, .int b.2]
def dBoxes (bs : List Box) : D := .lst (bs.map dBox)
def dHand (h : Hand) : D := .tup [.int h.1, .lst (h.2.map dStp)]
def dGate (g : Gt) : D := .tup [dBoxes g.bs, .lst (g.hs.map dHand)]
/-- a rising list of numbers from 0 to most -/
def Rising (ns : List Int) : Prop := ns.Pairwise (· < ·)
def OkStp (bs : List Box) (many : Int) : Stp → Prop
  | .put b n => ∃ x, 0 ≤ b ∧ bs[b.toNat]? = some x ∧ 0 ≤ n ∧ n ≤ x.2
  | .go b ns a => ∃ x, 0 ≤ b ∧ bs[b.toNat]? = some x ∧ Rising ns ∧ (∀ n ∈ ns, 0 ≤ n ∧ n ≤ x.2) ∧ 1 ≤ a ∧ a < many
  | .inn => True
def OkBox (b : Box) : Prop := 0 ≤ b.1 ∧ b.1 ≤ b.2 ∧ b.2 ≤ 9
def OkBoxes (bs : List Box) : Prop := 1 ≤ bs.length ∧ bs.length ≤ 12 ∧ ∀ b ∈ bs, OkBox b
/-! ### the promises of the law's draws -/
def P_off (ss : List S) (Φ : D → Prop) : Prop := ∃ m : Int, ss = [.dice, .d (.int m)] ∧ 0 < m ∧ m < 1000000 ∧ ∀ r : Int, 0 ≤ r → r < m → Φ (.int r)
def P_step (ss : List S) (Φ : D → Prop) : Prop := ∃ bs many, ss = [.dice, .d (dBoxes bs), .d (.int many)] ∧ bs ≠ [] ∧ bs.length ≤ 12 ∧ (∀ b ∈ bs, 0 ≤ b.2 ∧ b.2 ≤ 9) ∧ 2 ≤ many ∧ many ≤ 100 ∧
  ∀ s, OkStp bs many s → s ≠ .inn → Φ (dStp s)
end Gh
namespace Gh
open PySem L2 Dl
variable [KOf]
structure OkHand (bs : List Box) (h : Hand) : Prop where
  len2 : 2 ≤ h.2.length
  len24 : h.2.length ≤ 24
  ok : ∀ s ∈ h.2, OkStp bs h.2.length s
  inn : ∃ i : Nat, 0 < i ∧ h.2[i]? = some .inn ∧ (∀ j, h.2[j]? = some .inn → j = i) ∧ 1 ≤ h.1 ∧ h.1 ≤ i
structure OkGate (g : Gt) : Prop where
  bs : OkBoxes g.bs
  h1 : 1 ≤ g.hs.length
  h4 : g.hs.length ≤ 4
  hs : ∀ h ∈ g.hs, OkHand g.bs h
def okStpB (bs : List Box) (many : Int) : Stp → Bool
  | .put b n => match bs[b.toNat]? with
    | some x => decide (0 ≤ b ∧ 0 ≤ n ∧ n ≤ x.2)
    | none => false
  | .go b ns a => match bs[b.toNat]? with
    | some x => decide (0 ≤ b ∧ ns.Pairwise (· < ·) ∧ (∀ n ∈ ns, 0 ≤ n ∧ n ≤ x.2) ∧ 1 ≤ a ∧ a < many)
    | none => false
  | .inn => true
theorem okStpB_ok {bs : List Box} {many : Int} {s : Stp} (h : okStpB bs many s = true) : OkStp bs many s := by
  cases s with
  | put b n =>
    cases e : bs[b.toNat]? with
    | none => simp [okStpB, e] at h
    | some x =>
      simp only [okStpB, e, decide_eq_true_eq] at h
      exact ⟨x, h.1, e, h.2⟩
  | go b ns a =>
    cases e : bs[b.toNat]? with
    | none => simp [okStpB, e] at h
    | some x =>
      simp only [okStpB, e, decide_eq_true_eq] at h
      exact ⟨x, h.1, e, h.2⟩
  | inn => trivial
/-- where the hand is within, by its place -/
def okHandB (bs : List Box) (h : Hand) (i : Nat) : Bool := decide (2 ≤ h.2.length) && decide (h.2.length ≤ 24) && h.2.all (okStpB bs h.2.length) && decide (0 < i) && decide (h.2[i]? = some .inn) && (List.range h.2.length).all (fun j => decide (h.2[j]? = some .inn → j = i)) && decide (1 ≤ h.1) && decide (h.1 ≤ i)
theorem okHandB_ok {bs : List Box} {h : Hand} {i : Nat} (e : okHandB bs h i = true) : OkHand bs h := by
  unfold okHandB at e
  simp only [Bool.and_eq_true, decide_eq_true_eq, List.all_eq_true, List.mem_range] at e
  obtain ⟨⟨⟨⟨⟨⟨⟨h1, h2⟩, h3⟩, h4⟩, h5⟩, h6⟩, h7⟩, h8⟩ := e
  refine ⟨h1, h2, fun s hs => okStpB_ok (h3 s hs), i, h4, h5, fun j hj => h6 j (List.getElem?_eq_some_iff.mp hj).1 hj, h7, h8⟩
/-! ### gates that are written out -/
def pairH (side : Int) : Hand := (2, [.put side 1, .put 2 (1 - side), .go (1 - side) [0] 4, .go 2 [1 - side] 2, .inn, .put side 0])
def bitsA (h : Nat) : Nat → List Stp
  | 0 => [.put h 1]
  | i + 1 => bitsA h i ++ [.go i [0] ((bitsA h i).length + 5), .put h 0, .go i [1] ((bitsA h i).length + 2)] ++ [.put h 1, .go h [0, 1] 1]
def bitsB (l : List Stp) (o : Nat) : Nat → List Stp
  | 0 => l
  | k + 1 => bitsB l o k ++ [.go ((o + k : Nat) : Int) [1] (bitsB l o k).length]
def bitsH (h m : Nat) : Hand := (1, bitsB (bitsA h h) (h + 1) (m - (h + 1)) ++ [.inn, .put h 0])
def cntA : Nat → List Stp
  | 0 => [.go 0 [] 1]
  | i + 1 => cntA i ++ [.go i [1] ((cntA i).length + 3), .put i 1, .go i [0, 1] 1, .put i 0]
def counterG (m : Nat) : Gt := ⟨List.replicate m (0, 1), [(1, cntA m ++ [.inn])]⟩
def P_program (ss : List S) (Φ : D → Prop) : Prop := ∃ bs most, ss = [.dice, .d (dBoxes bs), .d (.int most)] ∧ OkBoxes bs ∧ 2 ≤ most ∧ most ≤ 24 ∧ ∀ h, OkHand bs h → (h.2.length : Int) ≤ most → Φ (dHand h)
def P_pair (ss : List S) (Φ : D → Prop) : Prop := ∃ side : Int, ss = [.d (.int side)] ∧ Φ (dHand (pairH side))
def P_bits (ss : List S) (Φ : D → Prop) : Prop := ∃ h m : Nat, ss = [.d (.int h), .d (.int m)] ∧ h < m ∧ m ≤ 4 ∧ Φ (dHand (bitsH h m))
def P_counter (ss : List S) (Φ : D → Prop) : Prop := ∃ m : Nat, ss = [.d (.int m)] ∧ m ≤ 5 ∧ Φ (dGate (counterG m))
/-- at most so many states -/
def prodN : List Nat → Nat
  | [] => 1
  | x :: r => x * prodN r
theorem prodN_le {k : Nat} : ∀ {l : List Nat}, (∀ x ∈ l, x ≤ k) → prodN l ≤ k ^ l.length
  | [], _ => Nat.le_refl 1
  | x :: r, h => by
    show x * prodN r ≤ k ^ (r.length + 1)
    rw [Nat.pow_succ, Nat.mul_comm (k ^ r.length) k]
    exact Nat.mul_le_mul (h x List.mem_cons_self) (prodN_le fun y hy => h y (List.mem_cons_of_mem _ hy))
def szG (g : Gt) : Nat := prodN (g.bs.map fun b => (b.2 + 1).toNat) * prodN (g.hs.map fun h => h.2.length)
theorem sz_le {bs : List Box} {hs : List Hand} {k1 n1 k2 n2 : Nat} (h1 : ∀ b ∈ bs, (b.2 + 1).toNat ≤ k1) (h2 : bs.length ≤ n1) (h3 : ∀ h ∈ hs, h.2.length ≤ k2) (h4 : hs.length ≤ n2) (p1 : 1 ≤ k1) (p2 : 1 ≤ k2) (e : k1 ^ n1 * k2 ^ n2 ≤ 5000) : szG ⟨bs, hs⟩ ≤ 5000 := by
  refine Nat.le_trans (Nat.mul_le_mul (Nat.le_trans (prodN_le (k := k1) fun x hx => ?_) (Nat.pow_le_pow_right p1 ?_)) (Nat.le_trans (prodN_le (k := k2) fun x hx => ?_) (Nat.pow_le_pow_right p2 ?_))) e
  · obtain ⟨b, hb, rfl⟩ := List.mem_map.mp hx
    exact h1 b hb
  · rw [List.length_map]; exact h2
  · obtain ⟨b, hb, rfl⟩ := List.mem_map.mp hx
    exact h3 b hb
  · rw [List.length_map]; exact h4
theorem sz_set {bs : List Box} {hs : List Hand} {i : Nat} {x z : Hand} (hx : hs[i]? = some x) (hl : z.2.length = x.2.length) (h : szG ⟨bs, hs⟩ ≤ 5000) : szG ⟨bs, hs.set i z⟩ ≤ 5000 := by
  have e : (hs.set i z).map (fun h => h.2.length) = hs.map fun h => h.2.length := by
    rw [List.map_set, hl]
    exact List.ext_getElem? fun k => by
      by_cases hk : i = k
      · subst hk
        rw [List.getElem?_set_self (by rw [List.length_map]; exact (List.getElem?_eq_some_iff.mp hx).1), List.getElem?_map, hx]
        rfl
      · rw [List.getElem?_set_ne hk]
  have e2 : szG ⟨bs, hs.set i z⟩ = szG ⟨bs, hs⟩ := by
    unfold szG
    show _ * prodN ((hs.set i z).map fun h => h.2.length) = _
    rw [e]
  rw [e2]
  exact h
def boxN (g : Gt) : Nat := prodN (g.bs.map fun b => (b.2 + 1).toNat)
/-- one hand alone comes to few states -/
def sz1 (g : Gt) : Prop := ∀ h ∈ g.hs, boxN g * h.2.length ≤ 2000
theorem sz1_le {bs : List Box} {hs : List Hand} {k1 n1 k2 : Nat} (h1 : ∀ b ∈ bs, (b.2 + 1).toNat ≤ k1) (h2 : bs.length ≤ n1) (h3 : ∀ h ∈ hs, h.2.length ≤ k2) (p1 : 1 ≤ k1) (e : k1 ^ n1 * k2 ≤ 2000) : sz1 ⟨bs, hs⟩ := fun h hh => by
  refine Nat.le_trans (Nat.mul_le_mul (Nat.le_trans (prodN_le (k := k1) fun x hx => ?_) (Nat.pow_le_pow_right p1 ?_)) (h3 h hh)) e
  · obtain ⟨b, hb, rfl⟩ := List.mem_map.mp hx
    exact h1 b hb
  · rw [List.length_map]; exact h2
theorem sz1_dec {g : Gt} (h : (g.hs.all fun h => decide (boxN g * h.2.length ≤ 2000)) = true) : sz1 g := fun x hx => of_decide_eq_true (List.all_eq_true.mp h x hx)
theorem sz1_set {bs : List Box} {hs : List Hand} {i : Nat} {x z : Hand} (hx : hs[i]? = some x) (hl : z.2.length = x.2.length) (h : sz1 ⟨bs, hs⟩) : sz1 ⟨bs, hs.set i z⟩ := fun y hy => by
  have hb : boxN ⟨bs, hs.set i z⟩ = boxN ⟨bs, hs⟩ := rfl
  rw [hb]
  have hy' : y ∈ hs.set i z := hy
  rcases List.mem_or_eq_of_mem_set hy' with w | w
  · exact h y w
  · rw [w, hl]
    exact h x (List.mem_of_getElem? hx)
def P_gate (ss : List S) (Φ : D → Prop) : Prop := ss = [.dice] ∧ ∀ g, OkGate g → szG g ≤ 5000 → sz1 g → Φ (dGate g)
theorem pair_ok (side : Int) (h : side = 0 ∨ side = 1) : OkHand [(0, 1), (0, 1), (0, 1)] (pairH side) := by
  rcases h with rfl | rfl
  · exact okHandB_ok (i := 4) (by decide +kernel)
  · exact okHandB_ok (i := 4) (by decide +kernel)
theorem bits_ok : ∀ m, 2 ≤ m → m ≤ 4 → ∀ h, h < m → OkHand (List.replicate m (0, 1)) (bitsH h m) := by
  intro m h2 h4 h hm
  have : ∃ i, okHandB (List.replicate m (0, 1)) (bitsH h m) i = true := by
    have cs : (m = 2 ∨ m = 3 ∨ m = 4) := by omega
    rcases cs with rfl | rfl | rfl
    · have ch : h = 0 ∨ h = 1 := by omega
      rcases ch with rfl | rfl
      · exact ⟨2, by decide +kernel⟩
      · exact ⟨6, by decide +kernel⟩
    · have ch : h = 0 ∨ h = 1 ∨ h = 2 := by omega
      rcases ch with rfl | rfl | rfl
      · exact ⟨3, by decide +kernel⟩
      · exact ⟨7, by decide +kernel⟩
      · exact ⟨11, by decide +kernel⟩
    · have ch : h = 0 ∨ h = 1 ∨ h = 2 ∨ h = 3 := by omega
      rcases ch with rfl | rfl | rfl | rfl
      · exact ⟨4, by decide +kernel⟩
      · exact ⟨8, by decide +kernel⟩
      · exact ⟨12, by decide +kernel⟩
      · exact ⟨16, by decide +kernel⟩
  obtain ⟨i, hi⟩ := this
  exact okHandB_ok hi
theorem box01_ok {m : Nat} (h1 : 1 ≤ m) (h2 : m ≤ 12) : OkBoxes (List.replicate m (0, 1)) := by
  refine ⟨by rw [List.length_replicate]; exact h1, by rw [List.length_replicate]; exact h2, fun b hb => ?_⟩
  rw [List.eq_of_mem_replicate hb]
  exact ⟨by decide, by decide, by decide⟩
theorem counter_sz : ∀ m, 1 ≤ m → m ≤ 5 → szG (counterG m) ≤ 5000 := by
  intro m h1 h5
  have cs : m = 1 ∨ m = 2 ∨ m = 3 ∨ m = 4 ∨ m = 5 := by omega
  rcases cs with rfl | rfl | rfl | rfl | rfl <;> decide +kernel
theorem counter_sz1 : ∀ m, 1 ≤ m → m ≤ 5 → sz1 (counterG m) := by
  intro m h1 h5
  have cs : m = 1 ∨ m = 2 ∨ m = 3 ∨ m = 4 ∨ m = 5 := by omega
  rcases cs with rfl | rfl | rfl | rfl | rfl <;> exact sz1_dec (by decide +kernel)
theorem counter_ok : ∀ m, 1 ≤ m → m ≤ 5 → OkGate (counterG m) := by
  intro m h1 h5
  refine ⟨box01_ok h1 (by omega), by simp [counterG], by simp [counterG], fun h hh => ?_⟩
  rw [List.mem_singleton.mp hh]
  have cs : m = 1 ∨ m = 2 ∨ m = 3 ∨ m = 4 ∨ m = 5 := by omega
  rcases cs with rfl | rfl | rfl | rfl | rfl
  · exact okHandB_ok (i := 5) (by decide +kernel)
  · exact okHandB_ok (i := 9) (by decide +kernel)
  · exact okHandB_ok (i := 13) (by decide +kernel)
  · exact okHandB_ok (i := 17) (by decide +kernel)
  · exact okHandB_ok (i := 21) (by decide +kernel)
end Gh
namespace Gh
open PySem L2 Dl
variable [KOf]
theorem ints_plain : ∀ ns : List Int, D.plains (ns.map .int) = true
  | [] => by simp [D.plains]
  | _ :: r => by simp [D.plains, D.plain, ints_plain r]
theorem ints_lay : ∀ ns : List Int, PyData.canLayAll0 (D.pys (ns.map .int)) = true
  | [] => by simp [D.pys, PyData.canLayAll0]
  | _ :: r => by simp [D.pys, D.py, PyData.canLayAll0, PyData.canLay0, ints_lay r]
theorem ints_depth : ∀ ns : List Int, PyData.depthAll (D.pys (ns.map .int)) = 0
  | [] => by simp [D.pys, PyData.depthAll]
  | _ :: r => by simp [D.pys, D.py, PyData.depthAll, PyData.depth, ints_depth r]
theorem dStp_plain (s : Stp) : (dStp s).plain = true := by
  cases s <;> simp [dStp, D.plain, D.plains, ints_plain]
theorem lay_put : PyData.strOk ("put" : Str) = true := by decide +kernel
theorem lay_go : PyData.strOk ("go" : Str) = true := by decide +kernel
theorem lay_in : PyData.strOk ("in" : Str) = true := by decide +kernel
theorem dStp_shaped (s : Stp) : SeqAt.shaped (dStp s).py = true := by
  cases s <;> simp [SeqAt.shaped, dStp, D.py, D.pys, PyData.canLay0, PyData.canLayAll0, PyData.depth, PyData.depthAll, ints_lay, ints_depth, lay_put, lay_go, lay_in]
theorem put_in : (("put" : Str) == ("in" : Str)) = false := by decide +kernel
theorem go_in : (("go" : Str) == ("in" : Str)) = false := by decide +kernel
theorem eqv_in (s : Stp) : PyData.eqv (dStp s).py (D.tup [.str "in"]).py = decide (s = .inn) := by
  cases s <;> simp [dStp, D.py, D.pys, PyData.eqv, PyData.eqvAll, put_in, go_in]
/-- x == ("in",), x != ("in",) of a step -/
theorem eq_in {s : Stp} {Φ : D → Prop} (h : Φ (.bl (decide (s = .inn)))) : wEqU (dStp s) (.tup [.str "in"]) Φ := by
  have e : eqS (dStp s) (.tup [.str "in"]) = none := by cases s <;> rfl
  unfold wEqU
  rw [e]
  refine ⟨⟨dStp_plain s, by simp [D.plain, D.plains], dStp_shaped s, dStp_shaped .inn⟩, ?_⟩
  rw [eqv_in]
  exact h
theorem ne_in {s : Stp} {Φ : D → Prop} (h : Φ (.bl (!decide (s = .inn)))) : wNeU (dStp s) (.tup [.str "in"]) Φ := by
  have e : eqS (dStp s) (.tup [.str "in"]) = none := by cases s <;> rfl
  unfold wNeU
  rw [e]
  refine ⟨⟨dStp_plain s, by simp [D.plain, D.plains], dStp_shaped s, dStp_shaped .inn⟩, ?_⟩
  rw [eqv_in]
  exact h
/-- a hand with one step another one -/
theorem ok_changed {bs : List Box} {h : Hand} {a : Nat} {s t : Stp} (ok : OkHand bs h) (ha : h.2[a]? = some t) (ht : t ≠ .inn) (hs : OkStp bs h.2.length s) (hn : s ≠ .inn) : OkHand bs (h.1, h.2.set a s) := by
  obtain ⟨l2, l24, ho, i, i0, hi, hu, k1, k2⟩ := ok
  have hne : a ≠ i := fun e => by
    rw [e, hi] at ha
    exact ht (Option.some.inj ha).symm
  refine ⟨by simpa using l2, by simpa using l24, fun z hz => ?_, i, i0, ?_, fun j hj => ?_, k1, k2⟩
  · show OkStp bs ((h.2.set a s).length : Nat) z
    rw [List.length_set]
    rcases List.mem_or_eq_of_mem_set hz with q | q
    · exact ho z q
    · rw [q]; exact hs
  · show (h.2.set a s)[i]? = _
    rw [List.getElem?_set_ne hne]
    exact hi
  · have hj' : (h.2.set a s)[j]? = some .inn := hj
    by_cases hc : a = j
    · subst hc
      rw [List.getElem?_set_self (List.getElem?_eq_some_iff.mp ha).1] at hj'
      exact absurd (Option.some.inj hj') hn
    · rw [List.getElem?_set_ne hc] at hj'
      exact hu j hj'
theorem cut_to {α : Type} {xs : List α} {a : Int} (h0 : 0 ≤ a) (hn : a.toNat ≤ xs.length) : cutG xs none (some a) = xs.take a.toNat := by
  show (xs.drop 0).take ((if a < 0 then (a + (xs.length : Int)).toNat else min a.toNat xs.length) - 0) = _
  rw [if_neg (by omega), Nat.min_eq_left hn, Nat.sub_zero, List.drop_zero]
theorem cut_from {α : Type} {xs : List α} {a : Int} (h0 : 0 ≤ a) (hn : a.toNat ≤ xs.length) : cutG xs (some a) none = xs.drop a.toNat := by
  show (xs.drop (if a < 0 then (a + (xs.length : Int)).toNat else min a.toNat xs.length)).take (xs.length - (if a < 0 then (a + (xs.length : Int)).toNat else min a.toNat xs.length)) = _
  rw [if_neg (by omega), Nat.min_eq_left hn, List.take_of_length_le (by rw [List.length_drop]; exact Nat.le_refl _)]
theorem take_set {α : Type} : ∀ {xs : List α} {k : Nat} {y : α}, k < xs.length → xs.take k ++ [y] ++ xs.drop (k + 1) = xs.set k y
  | [], _, _, h => absurd h (Nat.not_lt_zero _)
  | x :: xs, 0, y, _ => rfl
  | x :: xs, k + 1, y, h => by
    show x :: (xs.take k ++ [y] ++ xs.drop (k + 1)) = x :: xs.set k y
    rw [take_set (Nat.lt_of_succ_lt_succ h)]
theorem cut_set {α : Type} {xs : List α} {a : Int} (h0 : 0 ≤ a) (hn : a.toNat < xs.length) (y : α) : cutG xs none (some a) ++ [y] ++ cutG xs (some (a + 1)) none = xs.set a.toNat y := by
  have e : (a + 1).toNat = a.toNat + 1 := by omega
  rw [cut_to h0 (Nat.le_of_lt hn), cut_from (by omega) (by omega), e, take_set hn]
theorem cut_len1 {α : Type} {xs : List α} (lo hi : Option Int) : (cutG xs lo hi).length ≤ xs.length := by
  unfold cutG
  rw [List.length_take, List.length_drop]
  omega
end Gh
namespace Gh
open PySem L2 Dl
variable [KOf]
/-! ### states -/
structure Stt where
  b : List Int
  p : List Int
  deriving DecidableEq
def dInts (l : List Int) : D := .tup (l.map .int)
def dStt (s : Stt) : D := .tup [dInts s.b, dInts s.p]
structure OkStt (g : Gt) (s : Stt) : Prop where
  lb : s.b.length = g.bs.length
  lp : s.p.length = g.hs.length
  bx : ∀ (i : Nat) (x : Int) (b : Box), s.b[i]? = some x → g.bs[i]? = some b → 0 ≤ x ∧ x ≤ b.2
  pl : ∀ (i : Nat) (x : Int) (h : Hand), s.p[i]? = some x → g.hs[i]? = some h → 0 ≤ x ∧ x < h.2.length
/-- where a hand is within -/
def inAt (h : Hand) : Nat := h.2.idxOf .inn
theorem inAt_ok {bs : List Box} {h : Hand} (ok : OkHand bs h) : h.2[inAt h]? = some .inn ∧ 0 < inAt h ∧ (∀ j, h.2[j]? = some .inn → j = inAt h) ∧ 1 ≤ h.1 ∧ h.1 ≤ inAt h := by
  obtain ⟨i, i0, hi, hu, k1, k2⟩ := ok.inn
  have hm : Stp.inn ∈ h.2 := List.mem_of_getElem? hi
  have hl := List.idxOf_lt_length_of_mem hm
  have hg : h.2[inAt h]? = some .inn := by
    unfold inAt
    rw [List.getElem?_eq_getElem hl, List.getElem_idxOf]
  have e := hu _ hg
  refine ⟨hg, by rw [e]; exact i0, fun j hj => by rw [hu j hj, e], k1, by rw [e]; exact k2⟩
def nextAt (h : Hand) (x : Int) : Int := (x + 1) % h.2.length
/-- the state behind a hand's step -/
def stepM (s : Stt) (i : Nat) (h : Hand) (x : Int) : Stp → Stt
  | .put b n => ⟨s.b.set b.toNat n, s.p.set i (nextAt h x)⟩
  | .go b ns a => ⟨s.b, s.p.set i (if s.b.getD b.toNat 0 ∈ ns then a else nextAt h x)⟩
  | .inn => ⟨s.b, s.p.set i (nextAt h x)⟩
def doneM (g : Gt) (s : Stt) (i : Nat) : Stt := match g.hs[i]?, s.p[i]? with
  | some h, some x => (match h.2[x.toNat]? with
    | some st => stepM s i h x st
    | none => s)
  | _, _ => s
theorem doneM_eq {g : Gt} {s : Stt} {i : Nat} {h : Hand} {x : Int} {st : Stp} (h1 : g.hs[i]? = some h) (h2 : s.p[i]? = some x) (h3 : h.2[x.toNat]? = some st) : doneM g s i = stepM s i h x st := by
  unfold doneM
  rw [h1, h2]
  simp only [h3]
theorem nextAt_ok {bs : List Box} {h : Hand} {x : Int} (ok : OkHand bs h) (h0 : 0 ≤ x) : 0 ≤ nextAt h x ∧ nextAt h x < h.2.length := by
  have := ok.len2
  unfold nextAt
  exact ⟨Int.emod_nonneg _ (by omega), Int.emod_lt_of_pos _ (by omega)⟩
theorem doneM_ok {g : Gt} {s : Stt} {i : Nat} (og : OkGate g) (os : OkStt g s) : OkStt g (doneM g s i) := by
  unfold doneM
  split
  · rename_i h x eh ex
    split
    · rename_i st est
      have hh := og.hs h (List.mem_of_getElem? eh)
      have hx := os.pl i x h ex eh
      have nx := nextAt_ok hh hx.1
      have hst := hh.ok st (List.mem_of_getElem? est)
      have setp : ∀ y, 0 ≤ y ∧ y < (h.2.length : Int) → ∀ (k : Nat) (z : Int) (h' : Hand), (s.p.set i y)[k]? = some z → g.hs[k]? = some h' → 0 ≤ z ∧ z < h'.2.length := fun y hy k z h' e1 e2 => by
        by_cases hk : i = k
        · subst hk
          rw [List.getElem?_set_self (List.getElem?_eq_some_iff.mp ex).1] at e1
          rw [eh] at e2
          cases e1
          cases e2
          exact hy
        · rw [List.getElem?_set_ne hk] at e1
          exact os.pl k z h' e1 e2
      cases st with
      | put b n =>
        obtain ⟨y, b0, hb, n0, n1⟩ := hst
        refine ⟨by simp [stepM, os.lb], by simp [stepM, os.lp], fun k z bx e1 e2 => ?_, setp _ nx⟩
        have e1' : (s.b.set b.toNat n)[k]? = some z := e1
        by_cases hk : b.toNat = k
        · subst hk
          rw [hb] at e2
          cases e2
          rw [List.getElem?_set_self (by rw [os.lb]; exact (List.getElem?_eq_some_iff.mp hb).1)] at e1'
          cases e1'
          exact ⟨n0, n1⟩
        · rw [List.getElem?_set_ne hk] at e1'
          exact os.bx k z bx e1' e2
      | go b ns a =>
        obtain ⟨y, b0, hb, _, _, a1, a2⟩ := hst
        refine ⟨os.lb, by simp [stepM, os.lp], os.bx, setp _ ?_⟩
        split
        · exact ⟨by omega, a2⟩
        · exact nx
      | inn => exact ⟨os.lb, by simp [stepM, os.lp], os.bx, setp _ nx⟩
    · exact os
  · exact os
/-! ### promises -/
def P_wide_gate (ss : List S) (Φ : D → Prop) : Prop := ss = [.dice] ∧ ∀ g, OkGate g → Φ (dGate g)
def P_begin (ss : List S) (Φ : D → Prop) : Prop := ∃ g, ss = [.d (dGate g)] ∧ OkGate g ∧ Φ (dStt ⟨g.bs.map (·.1), g.hs.map fun _ => 0⟩)
def P_behind (ss : List S) (Φ : D → Prop) : Prop := ∃ g s, ∃ i : Nat, ss = [.d (dGate g), .d (dStt s), .d (.int i)] ∧ OkGate g ∧ OkStt g s ∧ i < g.hs.length ∧ Φ (dStt (doneM g s i))
def P_inner (ss : List S) (Φ : D → Prop) : Prop := ∃ g, ∃ i : Nat, ∃ h, ss = [.d (dGate g), .d (.int i)] ∧ OkGate g ∧ g.hs[i]? = some h ∧ Φ (.int (inAt h))
def P_state (ss : List S) (Φ : D → Prop) : Prop := ∃ g, ss = [.dice, .d (dGate g)] ∧ OkGate g ∧ ∀ s, OkStt g s → Φ (dStt s)
end Gh
namespace Gh
open PySem L2 Dl
variable [KOf]
theorem take_map {α β : Type} {xs : List α} {f : α → β} {i : Nat} {x : α} (h : xs[i]? = some x) : (xs.take (i + 1)).map f = (xs.take i).map f ++ [f x] := by
  rw [List.take_add_one, h, List.map_append]
  rfl
theorem map_at {α β : Type} {xs : List α} {f : α → β} {i : Nat} {y : β} (h : (xs.map f)[i]? = some y) : ∃ x, xs[i]? = some x ∧ y = f x := by
  rw [List.getElem?_map] at h
  cases q : xs[i]? with
  | none => rw [q] at h; cases h
  | some x => rw [q] at h; exact ⟨x, rfl, (Option.some.inj h).symm⟩
theorem atI_map {α : Type} {xs : List α} {f : α → D} {i : Nat} {x : α} (h : xs[i]? = some x) : L2.atI (xs.map f) (i : Int) = some (f x) := atI_nat (by rw [List.getElem?_map, h]; rfl)
theorem atI_mapI {α : Type} {xs : List α} {f : α → D} {i : Int} {x : α} (h0 : 0 ≤ i) (h : xs[i.toNat]? = some x) : L2.atI (xs.map f) i = some (f x) := atI_i h0 (by rw [List.getElem?_map, h]; rfl)
theorem steps_plain : ∀ l : List Stp, D.plains (l.map dStp) = true
  | [] => by simp [D.plains]
  | s :: r => by simp [D.plains, dStp_plain s, steps_plain r]
theorem dStp_lay (s : Stp) : PyData.canLay0 (dStp s).py = true := (Bool.and_eq_true_iff.mp (dStp_shaped s)).1
theorem dStp_depth (s : Stp) : PyData.depth (dStp s).py ≤ 2 := by
  cases s <;> simp [dStp, D.py, D.pys, PyData.depth, PyData.depthAll, ints_depth]
theorem steps_lay : ∀ l : List Stp, PyData.canLayAll0 (D.pys (l.map dStp)) = true
  | [] => by simp [D.pys, PyData.canLayAll0]
  | s :: r => by simp [D.pys, PyData.canLayAll0, dStp_lay s, steps_lay r]
theorem steps_depth : ∀ l : List Stp, PyData.depthAll (D.pys (l.map dStp)) ≤ 2
  | [] => by simp [D.pys, PyData.depthAll]
  | s :: r => by
    have h1 := dStp_depth s
    have h2 := steps_depth r
    simp only [List.map_cons, D.pys, PyData.depthAll]
    omega
theorem steps_shaped (l : List Stp) : SeqAt.shaped (D.lst (l.map dStp)).py = true := by
  have h := steps_depth l
  simp only [SeqAt.shaped, D.py, PyData.canLay0, PyData.depth, steps_lay, Bool.true_and]
  exact decide_eq_true (by omega)
theorem set_ints {l : List Int} {i : Nat} {x : Int} : (l.map D.int).set i (.int x) = (l.set i x).map .int := by
  rw [List.map_set]
theorem ints_flat (l : List Int) : (l.map D.int).all flatD = true := by
  rw [List.all_map]
  exact List.all_eq_true.mpr fun _ _ => rfl
theorem ints_in (l : List Int) (x : Int) : ((l.map D.int).any fun y => eqF y (.int x)) = decide (x ∈ l) := by
  rw [List.any_map]
  induction l with
  | nil => simp
  | cons y r ih =>
    rw [List.any_cons, ih]
    by_cases h : x = y
    · subst h
      simp [eqF]
    · have h' : ¬ y = x := fun z => h z.symm
      have e : ((fun y => eqF y (D.int x)) ∘ D.int) y = false := by
        show (y == x) = false
        exact beq_eq_false_iff_ne.mpr h'
      rw [e, Bool.false_or]
      simp [h]
end Gh
namespace Gh
open PySem L2 Dl
variable [KOf]
/-! ### hands by what they are at -/
def atB (q : Hand → Int → Bool) (g : Gt) (s : Stt) (i : Nat) : Bool := match g.hs[i]?, s.p[i]? with
  | some h, some x => q h x
  | _, _ => false
def isIn (h : Hand) (x : Int) : Bool := decide (x = inAt h)
def isWait (h : Hand) (x : Int) : Bool := decide (h.1 ≤ x) && decide (x < inAt h)
def isOut (_ : Hand) (x : Int) : Bool := decide (x = 0)
def handsD (q : Hand → Int → Bool) (g : Gt) (s : Stt) (n : Nat) : List D := ((List.range n).filter (atB q g s)).map fun (k : Nat) => D.int (k : Int)
theorem handsD_succ {q : Hand → Int → Bool} {g : Gt} {s : Stt} {i : Nat} {h : Hand} {x : Int} (e1 : g.hs[i]? = some h) (e2 : s.p[i]? = some x) : handsD q g s (i + 1) = if q h x = true then handsD q g s i ++ [.int (i : Int)] else handsD q g s i := by
  have e : atB q g s i = q h x := by unfold atB; rw [e1, e2]
  unfold handsD
  rw [List.range_succ, List.filter_append, List.map_append]
  by_cases hq : q h x = true
  · rw [if_pos hq]
    have : [i].filter (atB q g s) = [i] := by simp [e, hq]
    rw [this]
    rfl
  · rw [if_neg hq]
    have : [i].filter (atB q g s) = [] := by simp [e, hq]
    rw [this]
    simp
theorem handsD_yes {q : Hand → Int → Bool} {g : Gt} {s : Stt} {i : Nat} {h : Hand} {x : Int} (e1 : g.hs[i]? = some h) (e2 : s.p[i]? = some x) (e : q h x = true) : handsD q g s i ++ [.int (i : Int)] = handsD q g s (i + 1) := by rw [handsD_succ e1 e2, if_pos e]
theorem handsD_no {q : Hand → Int → Bool} {g : Gt} {s : Stt} {i : Nat} {h : Hand} {x : Int} (e1 : g.hs[i]? = some h) (e2 : s.p[i]? = some x) (e : ¬ q h x = true) : handsD q g s i = handsD q g s (i + 1) := by rw [handsD_succ e1 e2, if_neg e]
theorem handsD_len {q : Hand → Int → Bool} {g : Gt} {s : Stt} {n : Nat} : (handsD q g s n).length ≤ n := by
  unfold handsD
  rw [List.length_map]
  exact Nat.le_trans (List.length_filter_le _ _) (by rw [List.length_range]; exact Nat.le_refl _)
def P_waits (ss : List S) (Φ : D → Prop) : Prop := ∃ g s, ∃ i : Nat, ∃ h x, ss = [.d (dGate g), .d (dStt s), .d (.int i)] ∧ OkGate g ∧ g.hs[i]? = some h ∧ s.p[i]? = some x ∧ Φ (.bl (isWait h x))
def P_within (ss : List S) (Φ : D → Prop) : Prop := ∃ g s, ss = [.d (dGate g), .d (dStt s)] ∧ OkGate g ∧ OkStt g s ∧ Φ (.lst (handsD isIn g s g.hs.length))
def P_waiting (ss : List S) (Φ : D → Prop) : Prop := ∃ g s, ss = [.d (dGate g), .d (dStt s)] ∧ OkGate g ∧ OkStt g s ∧ Φ (.lst (handsD isWait g s g.hs.length))
/-! ### the program's own -/
def dProgs (g : Gt) : D := .tup (g.hs.map fun h => .tup (h.2.map dStp))
def dObj (C : Addr) (g : Gt) : D := .obj C ["pairs", "programs", "knocks", "insides"] [.tup (g.bs.map dBox), dProgs g, .tup (g.hs.map fun h => .int h.1), .tup (g.hs.map fun h => .int (inAt h))]
def PP_replaced (ss : List S) (Φ : D → Prop) : Prop := ∃ l : List Int, ∃ i v : Int, ss = [.d (dInts l), .d (.int i), .d (.int v)] ∧ 0 ≤ i ∧ i.toNat < l.length ∧ l.length ≤ 100 ∧ Φ (dInts (l.set i.toNat v))
def PP_Gate_many (C : Addr) (ss : List S) (Φ : D → Prop) : Prop := ∃ g, ss = [.d (dObj C g)] ∧ Φ (.int g.hs.length)
def PP_begin (C : Addr) (ss : List S) (Φ : D → Prop) : Prop := ∃ g, ss = [.d (dObj C g)] ∧ OkGate g ∧ Φ (dStt ⟨g.bs.map (·.1), g.hs.map fun _ => 0⟩)
def PP_within (C : Addr) (ss : List S) (Φ : D → Prop) : Prop := ∃ g s, ss = [.d (dObj C g), .d (dStt s)] ∧ OkGate g ∧ OkStt g s ∧ Φ (.lst (handsD isIn g s g.hs.length))
def PP_waiting (C : Addr) (ss : List S) (Φ : D → Prop) : Prop := ∃ g s, ss = [.d (dObj C g), .d (dStt s)] ∧ OkGate g ∧ OkStt g s ∧ Φ (.lst (handsD isWait g s g.hs.length))
def PP_outside (C : Addr) (ss : List S) (Φ : D → Prop) : Prop := ∃ g s, ss = [.d (dObj C g), .d (dStt s)] ∧ OkGate g ∧ OkStt g s ∧ Φ (.lst (handsD isOut g s g.hs.length))
end Gh
namespace Gh
open PySem L2 Dl
variable [KOf]
/-! ### what a gate is asked -/
def rdB (bs : List Box) (b : Int) (ns : List Int) : Bool := match bs[b.toNat]? with
  | some x => decide (0 ≤ b ∧ ns.Pairwise (· < ·) ∧ ∀ n ∈ ns, 0 ≤ n ∧ n ≤ x.2)
  | none => false
theorem okStpB_go (bs : List Box) (many b a : Int) (ns : List Int) : okStpB bs many (.go b ns a) = (rdB bs b ns && decide (1 ≤ a ∧ a < many)) := by
  cases e : bs[b.toNat]? with
  | none => simp [okStpB, rdB, e]
  | some x =>
    simp only [okStpB, rdB, e]
    by_cases h : 0 ≤ b ∧ ns.Pairwise (· < ·) ∧ ∀ n ∈ ns, 0 ≤ n ∧ n ≤ x.2
    · rw [decide_eq_true h, Bool.true_and]
      by_cases h2 : 1 ≤ a ∧ a < many
      · rw [decide_eq_true h2, decide_eq_true ⟨h.1, h.2.1, h.2.2, h2.1, h2.2⟩]
      · rw [decide_eq_false h2, decide_eq_false fun z => h2 z.2.2.2]
    · rw [decide_eq_false h, Bool.false_and, decide_eq_false fun z => h ⟨z.1, z.2.1, z.2.2.1⟩]
theorem okStpB_of {bs : List Box} {many : Int} {s : Stp} (h : OkStp bs many s) : okStpB bs many s = true := by
  cases s with
  | put b n =>
    obtain ⟨x, h1, h2, h3, h4⟩ := h
    simp only [okStpB, h2]
    exact decide_eq_true ⟨h1, h3, h4⟩
  | go b ns a =>
    obtain ⟨x, h1, h2, h3, h4, h5, h6⟩ := h
    simp only [okStpB, h2]
    exact decide_eq_true ⟨h1, h3, h4, h5, h6⟩
  | inn => rfl
def inB (l : List Stp) (i : Nat) : Bool := decide (l[i]? = some .inn)
def insD (l : List Stp) (n : Nat) : List D := ((List.range n).filter (inB l)).map fun (k : Nat) => D.int (k : Int)
theorem insD_yes {l : List Stp} {i : Nat} (e : l[i]? = some .inn) : insD l i ++ [.int (i : Int)] = insD l (i + 1) := by
  have h : inB l i = true := decide_eq_true e
  unfold insD
  rw [List.range_succ, List.filter_append, List.map_append]
  simp [h]
theorem insD_no {l : List Stp} {i : Nat} (e : l[i]? ≠ some .inn) : insD l i = insD l (i + 1) := by
  have h : inB l i = false := decide_eq_false e
  unfold insD
  rw [List.range_succ, List.filter_append, List.map_append]
  simp [h]
theorem insD_one {l : List Stp} {i : Nat} (h1 : l[i]? = some .inn) (h2 : ∀ j, l[j]? = some .inn → j = i) : ∀ n, insD l n = if i < n then [D.int (i : Int)] else [] := by
  intro n
  induction n with
  | zero => rfl
  | succ n ih =>
    by_cases hn : n = i
    · subst hn
      rw [← insD_yes h1, ih, if_neg (Nat.lt_irrefl _), if_pos (Nat.lt_succ_self _)]
      rfl
    · rw [← insD_no (fun z => hn (h2 n z)), ih]
      by_cases hl : i < n
      · rw [if_pos hl, if_pos (Nat.lt_succ_of_lt hl)]
      · rw [if_neg hl, if_neg (by omega)]
def PP_can_be_put (ss : List S) (Φ : D → Prop) : Prop := ∃ bs b n, ss = [.d (dBoxes bs), .d (.int b), .d (.int n)] ∧ bs.length ≤ 20 ∧ Φ (.bl (okStpB bs 0 (.put b n)))
def PP_can_be_read (ss : List S) (Φ : D → Prop) : Prop := ∃ bs b ns, ss = [.d (dBoxes bs), .d (.int b), .d (dInts ns)] ∧ bs.length ≤ 20 ∧ Φ (.bl (rdB bs b ns))
def PP_can_be_step (ss : List S) (Φ : D → Prop) : Prop := ∃ bs many s, ss = [.d (dBoxes bs), .d (.int many), .d (dStp s)] ∧ bs.length ≤ 20 ∧ Φ (.bl (okStpB bs many s))
def PP_places_of_in (ss : List S) (Φ : D → Prop) : Prop := ∃ l : List Stp, ss = [.d (.lst (l.map dStp))] ∧ l.length ≤ 100 ∧ Φ (.lst (insD l l.length))
def PP_check_boxes (ss : List S) (Φ : D → Prop) : Prop := ∃ bs, ss = [.d (dBoxes bs)] ∧ OkBoxes bs ∧ Φ .non
def PP_check_program (ss : List S) (Φ : D → Prop) : Prop := ∃ bs h, ∃ i : Int, ss = [.d (dBoxes bs), .d (.int i), .d (.lst (h.2.map dStp))] ∧ OkBoxes bs ∧ OkHand bs h ∧ Φ .non
def PP_check_knock (ss : List S) (Φ : D → Prop) : Prop := ∃ bs h, ∃ i : Int, ss = [.d (.int i), .d (.int h.1), .d (.lst (h.2.map dStp))] ∧ OkHand bs h ∧ Φ .non
def PP_check_hands (ss : List S) (Φ : D → Prop) : Prop := ∃ g, ss = [.d (dBoxes g.bs), .d (.lst (g.hs.map dHand))] ∧ OkGate g ∧ Φ .non
end Gh

/-! isinstance of plain data, one built-in type. -/
namespace Dl
open PySem L2 PyProof.Rows
variable [KOf]
inductive Ki where
  | bool | int | str | dict | tuple | list
def Ki.nm : Ki → String
  | .bool => "bool" | .int => "int" | .str => "str" | .dict => "dict" | .tuple => "tuple" | .list => "list"
def Ki.sn : Ki → Str
  | .bool => "bool" | .int => "int" | .str => "str" | .dict => "dict" | .tuple => "tuple" | .list => "list"
/-- is it of that type? -/
def isKi : Ki → D → Option Bool
  | .bool, .bl _ => some true | .int, .bl _ => some true
  | .int, .int _ => some true | .str, .str _ => some true
  | .tuple, .tup _ => some true | .list, .lst _ => some true
  | _, .obj _ _ _ => none | _, .raw _ => none | _, .dcI _ _ => none | _, .dcT _ _ => none
  | _, _ => some false
def tyD : D → String
  | .non => "NoneType" | .bl _ => "bool" | .int _ => "int" | .str _ => "str" | .lst _ => "list" | .tup _ => "tuple" | _ => ""
theorem kit_isKi {k : Ki} {d : D} {b : Bool} (h : isKi k d = some b) : kitB (tyD d) k.nm = some b := by
  cases d <;> cases k <;> cases h <;> (simp only [tyD, Ki.nm]; decide +kernel)
theorem Rep.ty {B : Addr → Prop} {H : Hp} {k : Ki} {v : V} {d : D} {b : Bool} (r : Rep B H v d) (h : isKi k d = some b) : TyX KOf.K H v (.type (tyD d)) := by
  cases r with
  | non => exact .base .non
  | bl b => exact .base (.bl b)
  | int i => exact .base (.int i)
  | str x => exact .base (.str x)
  | lst n s _ => exact .base (.lst s)
  | tup s _ =>
    rcases s with s | ⟨o, its, n, ho, hc, _⟩
    · exact .base (.tup s.2)
    · exact .kTuple ho hc
  | dcI => cases k <;> cases h
  | dcT => cases k <;> cases h
  | obj => cases k <;> cases h
  | raw => cases k <;> cases h
theorem Ki.boot : ∀ k : Ki, bootBuiltins k.sn = some (.type k.nm) := by
  intro k; cases k <;> decide +kernel
section
variable {X : Cx} {E : XK} {e : Expr} {te : TE} {w : WE} {pos p p2 : Pos}
def wIsi (k : Ki) (w : WE) : WE := fun ρ Φ => w ρ fun d => match isKi k d with
  | some b => Φ (.bl b)
  | none => False
theorem dk_isi (K : PySem.W.Frag) (k : Ki) {x : Str} (he : DE X E e te w) (hg : Gl X "isinstance") (hm : X.mg "isinstance" = none) (hg2 : Gl X x) (hm2 : X.mg x = none) (hx : x = k.sn := by rfl) (hK : X.K = K := by rfl) (hk : K = KOf.K := by rfl)
    (hn : x ≠ "__name__" := by decide) (hdb : (x == ("__debug__" : Str)) = false := by decide)
    (na : starEach [e, .Name x p2] X.env = (false, eval e X.env) :: starEach [.Name x p2] X.env := by rfl) (na2 : starEach [.Name x p2] X.env = (false, eval (.Name x p2) X.env) :: starEach [] X.env := by rfl)
    (hpl : (backTo pos (starEach [.Name x p2] X.env)).any (·.1) = false := by rfl) :
    DE X E (.Call (.Name "isinstance" p) [e, .Name x p2] [] pos) (tCB (rIsi K) (tCons te (tCons (tC (.ty k.nm)) tNil))) (wIsi k w) := by
  subst hk
  refine ⟨pe_callB (hK ▸ call_isi) hg hm (by decide +kernel) (pa_cons he.p (pa_cons (pe_bltn (v := .ty k.nm) hg2 hm2 (by rw [hx]; exact k.boot) rfl hn hdb) pa_nil na2) na) (he := na) (hpl := hpl), fun δ M σ H ρ R Φ Q h q => ?_⟩
  refine he.a δ M σ H ρ R _ _ h fun v H1 d e1 r1 h1 => ?_
  have h2 : (match isKi k d with | some b => Φ (.bl b) | none => False) := h1
  split at h2
  · rename_i b hb
    exact ⟨v, .ty k.nm, .type (tyD d), .type k.nm, b, rfl, .ty _, r1.ty hb, kit_ty (kit_isKi hb), q _ H1 _ e1 (.bl b) h2⟩
  · exact h2.elim
end
/-! ### the laws' alike, of what is alike -/
def Lv : Nat → D → Prop
  | 0, _ => False
  | n + 1, d => match d with
    | .obj _ _ _ => False
    | .dcI _ _ => False
    | .dcT _ _ => False
    | .raw _ => False
    | .lst xs => xs.length < 100000 ∧ ∀ x ∈ xs, Lv n x
    | .tup xs => xs.length < 100000 ∧ ∀ x ∈ xs, Lv n x
    | _ => True
def P_alike (n : Nat) (ss : List S) (Φ : D → Prop) : Prop := ∃ a : D, ss = [.d a, .d a] ∧ Lv n a ∧ Φ (.bl true)
theorem Lv.mono : ∀ {n : Nat} {d : D}, Lv n d → Lv (n + 1) d
  | 0, _, h => h.elim
  | n + 1, .non, _ => trivial
  | n + 1, .bl _, _ => trivial
  | n + 1, .int _, _ => trivial
  | n + 1, .str _, _ => trivial
  | n + 1, .lst _, ⟨h1, h2⟩ => ⟨h1, fun x hx => (h2 x hx).mono⟩
  | n + 1, .tup _, ⟨h1, h2⟩ => ⟨h1, fun x hx => (h2 x hx).mono⟩
end Dl

/-! A comprehension over a list while an exception is handled. -/
namespace Dl
open PySem PySem.Spec PyProof.Rows L2 HotX L2H
variable [KOf]
section
variable {prog : Program} {w : World} {A : Around} {E : Value → Shared → Prop} {s : Shared}
/-- a list iterator at its end, an exception handled -/
theorem list_end_hot {it l x1 : Addr} {i : Nat} {items : Array Value} {Q : Option Value → Shared → Prop} (hot : HotAt A x1 s.heap) (hne : x1 ≠ it) (hit : s.heap.IsListIter it l i) (hl : s.heap.IsList l items) (hx : items[i]? = none)
    (hQ : ∀ h', (∀ b o, b ≠ it → s.heap.get? b = some o → h'.get? b = some o) → Q none { s with heap := h' }) : wpAny (model prog w) A (pyNext (.ref it)) Q E s := by
  obtain ⟨hh, o1, vs1, h1, d1, c1⟩ := hot
  obtain ⟨o, ho, hc, hd⟩ := id hit
  obtain ⟨ol, hol, _, nl, hdl⟩ := hl
  unfold pyNext
  refine wpAny_bind (wpAny_attempt (wpAny_callSpecial?_slot (name := Str.ofString "__next__") hit.typeIs slot_listiter_next
    (wpAny_call_entry slot_listiter_next hit.typeIs entry_listiter_next ?_ (args_listiter_next _))))
  show wpAny _ _ (field (.ref it) 0 >>= _) _ _ s
  refine wpAny_bind (wpAny_field ho hd (x := .ref l) rfl ?_)
  show wpAny _ _ (if (Value.ref l == Value.none) = true then _ else _) _ _ s
  rw [if_neg (show ¬ ((Value.ref l == Value.none) = true) from Bool.false_ne_true)]
  show wpAny _ _ (field (.ref it) 1 >>= _) _ _ s
  refine wpAny_bind (wpAny_field ho hd (x := .int i 0) rfl ?_)
  show wpAny _ _ (seqItems? (.ref l) >>= _) _ _ s
  refine wpAny_bind (PySem.wpAny_seqItems hol hdl ?_)
  simp only [Int.toNat_natCast, hx]
  refine wpAny_bind (wpAny_rule (wpAny_bind (wpAny_setField ho hd (by simp) ?_)))
  show wpAny _ _ (newExc (.type "StopIteration") [] >>= _) _ _ _
  refine wpAny_bind ?_
  simp only [newExc, newTuple]
  refine wpAny_bind (wpAny_newObj_type ?_ (by size_fits))
  refine wpAny_bind (m := firstArgMember _ _) (wpAny_of_eq (a := Value.none) (by first | rfl | (simp only [firstArgMember]; rfl)) ?_)
  refine wpAny_newObj_type ?_ (by size_fits)
  have g1 : ∀ b ob, b ≠ it → s.heap.get? b = some ob → (s.heap.update it (Obj.mapFields (·.setIfInBounds 0 Value.none))).get? b = some ob := fun b ob hb e => by rw [Heap.get?_update_other _ _ hb.symm]; exact e
  refine raiseNew_hot ⟨hh, o1, vs1, Heap.get?_push_of_some _ (Heap.get?_push_of_some _ (g1 _ _ hne h1)), d1, c1⟩ (Nat.ne_of_lt (Heap.lt_size (Heap.get?_push_of_some _ (g1 _ _ hne h1)))) (Heap.get?_push_size _ rfl) rfl (by first | (simp; done) | (simp; omega)) ?_
  refine wpAny_bind (wpAny_isInstance (T := "StopIteration") (b := true) ⟨_, Heap.get?_update_self _ (Heap.get?_push_size _ rfl) rfl, rfl⟩ isSubtype_stop ?_)
  refine wpAny_pure (hQ _ fun b ob hb e => ?_)
  rw [Heap.get?_update_other _ _ (Nat.ne_of_gt (Heap.lt_size (Heap.get?_push_of_some _ (g1 _ _ hb e))))]
  exact Heap.get?_push_of_some _ (Heap.get?_push_of_some _ (g1 _ _ hb e))
end
section
variable {X : Cx}
/-- [elt for tg in iter], iter a tracked list that stays as it is -/
def tLcH (ti : TE) (g : TG) (te : TE) (vs : List Nat) : TE := fun σ H Q => ti σ H fun x H1 => ∃ a xs, x = .ref a ∧ H1 a = some (.lst xs) ∧ ∀ D, H1 D = none → ∃ W : Nat → Hp → Prop, W 0 (upd H1 D (.lst [])) ∧
  ∀ i H, W i H → H a = some (.lst xs) ∧ (xs.length ≤ i → Q (.ref D) H) ∧ ∀ x, xs[i]? = some x → g x (wipe σ vs) H fun σ2 H2 => wipe σ2 vs = wipe σ vs ∧ te σ2 H2 fun y H4 => ∃ acc, H4 D = some (.lst acc) ∧ acc.length < sizeLine ∧ W (i + 1) (upd H4 D (.lst (acc ++ [y])))
theorem pe_lcH {elt tg iter : Expr} {scope : Scope} {own : List (Str × Nat)} {pos : Pos} {ti : TE} {g : TG} {te : TE} (hc : HotC X) (hN : X.N.Nodup) (hi : PE X iter ti) (ok : BlkOk X.N X.env.scope scope own)
    (hg : ∀ (s : Shared) (H : Hp) (C : Addr) (cl : List (Str × Addr)) (fp : List Addr), PG (X.blk s H scope (compEnvC scope cl C X.env) fp) tg g)
    (he : ∀ (s : Shared) (H : Hp) (C : Addr) (cl : List (Str × Addr)) (fp : List Addr), PE (X.blk s H scope (compEnvC scope cl C X.env) fp) elt te) (hs : ∀ x, foldedSetIterable iter X.env x = pure x := by intro _; rfl) :
    PE X (.ListComp elt [⟨tg, iter, [], 0⟩] scope pos) (tLcH ti g te (own.map (·.2))) := by
  refine ⟨fun pins s σ H Q I h => ?_⟩
  rw [eval_ListComp]
  obtain ⟨p, ⟨hh, v1, e1, c1⟩, hp⟩ := hc
  have hfree : ∀ y ∈ scope.names, y.2 = .free → ∃ c, X.env.cells.lookup y.1 = some c := fun y hy e => (ok.free y hy e).elim (fun k => I.ok.has _ (.inl k)) (fun k => I.ok.has _ (.inr k))
  refine wpAny_comprehension_free (use := none) rfl hs (closure_ok hfree) ok.kind (fun y hy e => by rw [ok.uniq y hy, e]) (thn (hi.run pins s σ H _ I h) fun xv s1 ⟨x, H1, I1, rx, a, xs, ex, ha, q⟩ => ?_)
  subst ex
  have exv : xv = .ref a := rx
  subst exv
  obtain ⟨its1, rv1, pl1, hz1⟩ := I1.list (SqL.of ha)
  refine wpAny_pyIter_list pl1.isList ?_
  have I2 : Inv X pins σ H1 { s1 with heap := s1.heap.push { cls := .type "list_iterator", data := .fields #[.ref a, .int 0 0] } } := I1.kept (t' := s1.toks) fun b o e => Heap.get?_push_of_some _ e
  have fit := I1.fpOk (Nat.le_refl _) (I1.hok.fresh (Nat.le_refl _))
  generalize hs2 : ({ s1 with heap := s1.heap.push { cls := .type "list_iterator", data := .fields #[.ref a, .int 0 0] } } : Shared) = s2 at I2 ⊢
  have st2 : s2.heap.IsListIter s1.heap.objs.size a 0 := by rw [← hs2]; exact ⟨_, Heap.get?_push_size _ rfl, rfl, rfl⟩
  generalize s1.heap.objs.size = it at fit st2 ⊢
  refine wpAny_newObj_type (newEnv_comp ?_) (by show 0 ≤ sizeLine; decide)
  generalize hD : s2.heap.objs.size = D
  have hDn : H1 D = none := I2.hok.fresh (Nat.le_of_eq hD)
  have nDit : it ≠ D := by rw [← hD]; exact Nat.ne_of_lt (Heap.lt_size st2.choose_spec.1)
  obtain ⟨W, w0, turn⟩ := q D hDn
  have I3 : Inv X pins σ (upd H1 D (.lst [])) { s2 with heap := s2.heap.push { cls := .type "list", data := .seq ([] : List Value).toArray } } := by
    refine I2.laid (t' := s2.toks) (fun b o e => Heap.get?_push_of_some _ e) (Nat.le_of_eq hD) ⟨Nat.zero_le _, [], 0, .nil, ?_⟩
    rw [← hD]
    exact Heap.get?_push_size _ rfl
  have st3 : (s2.heap.push { cls := .type "list", data := .seq ([] : List Value).toArray }).IsListIter it a 0 := st2.at fun o e => Heap.get?_push_of_some _ e
  generalize hs3 : ({ s2 with heap := s2.heap.push { cls := .type "list", data := .seq ([] : List Value).toArray } } : Shared) = s3 at I3
  have st3 : s3.heap.IsListIter it a 0 := by rw [← hs3]; exact st3
  have fit3 : FpOk X pins (upd H1 D (.lst [])) it := ⟨by rw [upd_ne nDit]; exact fit.1, fit.2⟩
  have I4 := block_start (fp := [it]) I3 ok hN fun b hb => by
    have e : b = it := by simpa using hb
    subst e
    exact ⟨fit3, Heap.lt_size st3.choose_spec.1⟩
  have pg := hg s3 (upd H1 D (.lst [])) s3.heap.objs.size (cellsFrom (s3.heap.objs.size + 1) scope.names (cloFrom X.env.cells scope.names [])) [it]
  have pe := he s3 (upd H1 D (.lst [])) s3.heap.objs.size (cellsFrom (s3.heap.objs.size + 1) scope.names (cloFrom X.env.cells scope.names [])) [it]
  show codeAny _ _ (.compStart (.ListComp elt [⟨tg, iter, [], 0⟩] scope pos) 0 (.ref it) (.ref D) (compEnvC scope (cellsFrom (s3.heap.objs.size + 1) scope.names (cloFrom X.env.cells scope.names [])) s3.heap.objs.size X.env)) (compPost (model X.prog X.w) X.A X.xe none (EP X pins σ Q) (.ref D) s3.heap.objs.size) { s3 with heap := pushCells (s3.heap.push { cls := .type "dict", data := .dict #[] }) scope.names }
  have cL : (compEnvC scope (cellsFrom (s3.heap.objs.size + 1) scope.names (cloFrom X.env.cells scope.names [])) s3.heap.objs.size X.env).locals = s3.heap.objs.size := rfl
  generalize compEnvC scope (cellsFrom (s3.heap.objs.size + 1) scope.names (cloFrom X.env.cells scope.names [])) s3.heap.objs.size X.env = ce at I4 pg pe cL ⊢
  have st4 : (pushCells (s3.heap.push { cls := .type "dict", data := .dict #[] }) scope.names).IsListIter it a 0 := st3.at fun o e => pushCells_keeps _ _ _ _ (Heap.get?_push_of_some _ e)
  generalize upd H1 D (.lst []) = H3 at I3 I4 pg pe w0 fit3
  generalize hs4 : ({ s3 with heap := pushCells (s3.heap.push { cls := .type "dict", data := .dict #[] }) scope.names } : Shared) = s4 at I4 ⊢
  have st4 : s4.heap.IsListIter it a 0 := by rw [← hs4]; exact st4
  have ob : ∀ {i : Nat} {h : Heap}, h.IsListIter it a i → ∀ b ∈ [it], ∃ o, h.get? b = some o ∧ ∀ v, o.data ≠ .cell v := fun {i h} st b hb => by
    have e : b = it := by simpa using hb
    subst e
    obtain ⟨o, e, c, d⟩ := st
    exact ⟨o, e, fun v z => by rw [d] at z; cases z⟩
  have stat : ∀ {σ' : L2.St} {H' : Hp} {s' : Shared}, Inv (X.blk s3 H3 scope ce [it]) [] σ' H' s' → H' it = none → FpOk (X.blk s3 H3 scope ce [it]) [] H' it := fun {σ' H' s'} I' hn =>
    have hb : it ∈ (X.blk s3 H3 scope ce [it]).ex := List.mem_singleton.mpr rfl
    ⟨hn, (I'.ok.exf it hb).1, I'.ok.exfs it hb, .inl hb, fun x c e => (I'.ok.exf it hb).2 x c e, fun p hp => absurd (show p ∈ ([] : List (Addr × Obj)) ++ [] from hp) (by simp)⟩
  have loop : codeAny (model X.prog X.w) X.A (.compLoop (.ListComp elt [⟨tg, iter, [], 0⟩] scope pos) 0 (.ref it) (.ref D) ce) (compPost (model X.prog X.w) X.A X.xe none (EP X pins σ Q) (.ref D) s3.heap.objs.size) s4 := by
    refine compLoop_any (fun n s' => ∃ i H', n = xs.length - i ∧ Inv (X.blk s3 H3 scope ce [it]) [] (wipe σ (own.map (·.2))) H' s' ∧ s'.heap.IsListIter it a i ∧ H' it = none ∧ W i H') ?_ xs.length ⟨0, H3, rfl, I4, st4, fit3.1, w0⟩
    rintro n s5 ⟨i, H5, hn, I5, st5, n5, w5⟩
    obtain ⟨ha5, hend, hstep⟩ := turn i H5 w5
    obtain ⟨its, rv, pl, hz⟩ := I5.list (SqL.of ha5)
    obtain ⟨f0, f1, f2, f3, f4, f5⟩ := stat I5 n5
    cases ex : xs[i]? with
    | none =>
      have hge : xs.length ≤ i := List.getElem?_eq_none_iff.mp ex
      -- back in the def's context
      have I7 : Inv X pins σ H5 s5 := I3.call' (ch := [it]) I5.os I5.base I5.hok I5.bare fun b hb => by
        have e : b = it := by simpa using hb
        subst e
        exact ⟨fit3.2.2.2.1, fit3.2.1, fit3.2.2.2.2.1, fit3.2.2.2.2.2⟩
      have hp7 := I7.pin p (List.mem_append_left _ hp)
      have hl := rv.length
      refine list_end_hot ⟨hh, p.2, v1, hp7.1, e1, c1⟩ (fit3.2.2.2.2.2 p (List.mem_append_left _ hp)) st5 pl.isList (by simp; omega) fun h' k => ?_
      have I6 : Inv (X.blk s3 H3 scope ce [it]) [] (wipe σ (own.map (·.2))) H5 { s5 with heap := h' } := I5.turned (t' := s5.toks) k f0 f1 f3 f4 f5
      have I8 : Inv X pins σ H5 { s5 with heap := h' } := I7.turned (t' := s5.toks) k n5 fit3.2.1 fit3.2.2.2.1 fit3.2.2.2.2.1 fit3.2.2.2.2.2
      obtain ⟨m, hm, _⟩ := I6.loc
      have hm : h'.Ns ce.locals m := hm
      have nC : H5 ce.locals = none := I6.free
      rw [cL] at hm nC
      refine ⟨m, hm, fun h'' sb => ?_⟩
      obtain ⟨g0, g1, g2, g3, g4, g5⟩ := I3.fpOk (Nat.le_refl _) nC
      exact ⟨.ref D, H5, I8.turned (t' := s5.toks) (fun b o hb e => (sb.2 b hb).trans e) g0 g1 g3 g4 g5, rfl, hend hge⟩
    | some x =>
      obtain ⟨u, hu, ru⟩ := rv.get ex
      have hlt : i < xs.length := (List.getElem?_eq_some_iff.mp ex).1
      refine wpAny_pyNext_list_item st5 pl.isList (x := u) (by simpa using hu) fun h' st' sb => ?_
      have I6 : Inv (X.blk s3 H3 scope ce [it]) [] (wipe σ (own.map (·.2))) H5 { s5 with heap := h' } := I5.turned (t' := s5.toks) (fun b o hb e => (sb.2 b hb).trans e) f0 f1 f3 f4 f5
      obtain ⟨o, e, c, d⟩ := id st'
      refine go_of (s := { s5 with heap := h' }) e c d (by decide) ?_
      have I6' := I6.pinned (fp := [it]) (fun b hb => by
        have e : b = it := by simpa using hb
        subst e
        exact stat I6 n5) (ob st')
      refine thnF (pg.run _ _ _ H5 x u _ I6' ru (hstep x ex)) fun _ s8 ⟨σ8, H8, I8, hw8, q8⟩ => ?_
      refine wpAny_pure ?_
      rw [if_pos rfl]
      refine thnF (pe.run _ s8 σ8 H8 _ I8 q8) fun z s10 ⟨yv, H10, I10, r10, acc, hD10, hz10, nx⟩ => ?_
      refine app_ok (X := X.blk s3 H3 scope ce [it]) I10 hD10 hz10 r10 fun s11 I11 => ⟨xs.length - (i + 1), by omega, i + 1, _, rfl, ?_, ?_, ?_, nx⟩
      · have hl : (wipe σ (own.map (·.2))).length = σ8.length := by rw [← hw8, wipe_length]
        refine (I11.unpinned (pins := [])).weak hl fun j v e => ?_
        rw [← hw8] at e
        exact (wipe_some e).1
      · have z := I11.pin (it, o) (List.mem_append_right _ (List.mem_append_right _ (mem_pinsAt (List.mem_singleton.mpr rfl) e)))
        exact ⟨o, z.1, c, d⟩
      · have z := I11.pin (it, o) (List.mem_append_right _ (List.mem_append_right _ (mem_pinsAt (List.mem_singleton.mpr rfl) e)))
        exact z.2.1
  exact codeAny_compStart_list loop (wpAny_pyIter_listiter st4 loop)
end
end Dl

namespace Dl
open PySem PySem.Spec PyProof.Rows L2 HotX L2H
variable [KOf]
section
variable {X : Cx} {E : XK} {e elt tg iter : Expr} {te : TE} {w we : WE} {pos : Pos} {ti : TE} {wi : WE} {g : TG} {wg : WG} {scope : Scope} {own : List (Str × Nat)}
def wLcH (wi : WE) (g : WG) (we : WE) (vs : List Nat) : Env → (List D → Prop) → Prop := fun ρ Φ => wi ρ fun d => match d with
  | .lst xs => xs.length ≤ 100000 ∧ ∃ I : Nat → List D → Prop, I 0 [] ∧
    (∀ i x acc, xs[i]? = some x → I i acc → g x (wipeS ρ.sl vs) fun l2 => we ⟨⟨fun _ => False, ρ.c.lk⟩, l2⟩ fun d => I (i + 1) (acc ++ [d])) ∧ ∀ acc, I xs.length acc → Φ acc
  | _ => False
theorem abs_lcH {vs : List Nat} (hi : AbsE E ti wi) (hg : AbsG vs g wg) (he : AbsE E0 te we) : AbsF E (tLcH ti g te vs) (wLcH wi wg we vs) := fun δ M σ H ρ R Φ Q h k => by
  obtain ⟨c, l⟩ := ρ
  refine hi δ M σ H ⟨c, l⟩ R _ _ h fun v H1 d e1 r1 h1 => ?_
  cases r1 <;> first | exact False.elim h1 | skip
  rename_i a vxs xs na sa rxs
  obtain ⟨hz, I, I0, Is, Ie⟩ := h1
  refine ⟨a, vxs, rfl, sa, fun D hD => ?_⟩
  have hDH : H D = none := e1.free R.okd hD
  have ndl : δ ≠ some D := fun z => by
    obtain ⟨ns, q, _⟩ := R.okd D z
    rw [hDH] at q; cases q
  have nDa : a ≠ D := fun z => by rw [z, hD] at sa; cases sa
  have naB : ¬ Bn δ (D :: M) a := fun z => z.elim (fun z => na (.inl z)) fun z => (List.mem_cons.mp z).elim nDa fun z => na (.inr z)
  have rxs' : RepL (Bn δ (D :: M)) H1 vxs xs := rxs.less (bn_cons hD)
  have hlen := rxs.length
  refine ⟨fun i H' => i ≤ xs.length ∧ ∃ acc us, H' D = some (.lst us) ∧ RepL (Bn δ (D :: M)) H' us acc ∧ I i acc ∧ Ext δ H1 H' ∧ Kept (Bn δ (D :: M)) H1 H' ∧ acc.length ≤ i, ⟨Nat.zero_le _, [], [], upd_same, .nil, I0, Ext.new hD, Kept.new hD, Nat.le_refl _⟩, ?_⟩
  rintro i H' ⟨hle, acc, us, hu, rl, hI, ex, kp, hal⟩
  refine ⟨kp _ _ sa naB, fun hge => ?_, fun v hv => ?_⟩
  · have e : i = xs.length := by omega
    subst e
    exact k D us H' acc hDH (e1.trans ex) hu rl (Ie acc hI)
  · have hlt : i < xs.length := by rw [← hlen]; exact (List.getElem?_eq_some_iff.mp hv).1
    have RB : RE δ (D :: M) H' E0 (wipe σ vs) ⟨⟨fun _ => False, c.lk⟩, wipeS l vs⟩ := R.block hDH (e1.trans ex) hu
    obtain ⟨x, hx, r2⟩ := (rxs'.keep kp).atV hv
    refine hg E0 δ (D :: M) (wipe σ vs) H' _ _ v _ RB r2 _ _ (Is i _ acc hx hI) fun σ3 l3 R3 o3 n3 h3 => ?_
    refine ⟨(wipe_off o3).trans (wipe_off (off_wipe (vs := vs) (a := σ))), ?_⟩
    refine he δ (D :: M) σ3 H' _ R3 _ _ h3 fun y H4 d e4 r4 h4 => ?_
    have hu4 := e4.1 _ _ hu ndl
    have kput : Kept (Bn δ (D :: M)) H4 (upd H4 D (.lst (us ++ [y]))) := Kept.put (.inr List.mem_cons_self)
    refine ⟨us, hu4, by rw [rl.length]; exact sz_lt (by omega), hlt, acc ++ [d], us ++ [y], upd_same, ((rl.keep e4.kept).app (.cons r4 .nil)).keep kput, h4, (ex.trans e4).mut hD, (kp.trans e4.kept).trans kput, ?_⟩
    rw [List.length_append]
    exact Nat.succ_le_succ hal
theorem df_lcH (hc : HotC X) (hN : X.N.Nodup) (hi : DE X E iter ti wi) (ok : BlkOk X.N X.env.scope scope own)
    (hg : ∀ (s : Shared) (H : Hp) (C : Addr) (cl : List (Str × Addr)) (fp : List Addr), DG (X.blk s H scope (compEnvC scope cl C X.env) fp) (own.map (·.2)) tg g wg)
    (he : ∀ (s : Shared) (H : Hp) (C : Addr) (cl : List (Str × Addr)) (fp : List Addr), DE (X.blk s H scope (compEnvC scope cl C X.env) fp) E0 elt te we) (hs : ∀ x, foldedSetIterable iter X.env x = pure x := by intro _; rfl) :
    DF X E (.ListComp elt [⟨tg, iter, [], 0⟩] scope pos) (tLcH ti g te (own.map (·.2))) (wLcH wi wg we (own.map (·.2))) :=
  ⟨pe_lcH hc hN hi.p ok (fun s H C cl fp => (hg s H C cl fp).p) (fun s H C cl fp => (he s H C cl fp).p) hs,
    abs_lcH hi.a (hg X.s_0 X.H_0 X.env.locals [] []).a (he X.s_0 X.H_0 X.env.locals [] []).a⟩
end
/-! ### a def called in an except suite, which is told of the handled exception's object -/
structure FnE (P : Program) (w : World) (K : PySem.W.Frag) (mg : Str → Option Value) (base : Heap) (CX : CXT) (k : Nat) (f : Addr) (fd : FuncData) (ps : List Str) (Zp : Addr × Obj → Prop) (sp : Addr → L2.Sp) : Prop where
  len : ∀ a vs H Q E, sp a vs H Q E → vs.length = ps.length
  run : ∀ (A : Around) (outer : List PySem.Env) (s : Shared) (H : Hp) (args : Args) (us : List Value) (vs : List V) (Q : VK) (E : XK) (p : Addr × Obj), RoomH k A → Hot1 A p → Zp p → PinOk outer H s p → Env0 P w K mg base A outer s H → BindsTo s fd args (ps.zip us) → Vals vs us → sp p.1 vs H Q E →
    codeAny (model P w) A (.call (.ref f) args) (CR CX outer P w H s Q E) s
theorem fn_E {CX : CXT} {P : Program} {w : World} {K : PySem.W.Frag} {mg : Str → Option Value} {base : Heap} {k : Nat} {f : Addr} {name qual : Str} {params : Arguments} {body : List Stmt} {scope : Scope} {dV kV doc pm cdv ct oc : Value} {an od : Option Addr}
    {osl : Array (Option Value)} {N ps : List Str} {Zp : Addr × Obj → Prop} {sp : Addr → L2.Sp} (lk : K.lookup f = some ⟨oc, od, .func (PySem.W.fnOf name qual params body scope dV kV doc pm an cdv ct), osl⟩) (hcd : PySem.W.codeIn K cdv qual = true) (S : FnScope N ps scope)
    (len : ∀ a vs H Q E, sp a vs H Q E → vs.length = ps.length)
    (hbody : ∀ (A : Around) (outer : List PySem.Env) (s : Shared) (H : Hp) (vs : List V) (Q : VK) (E : XK) (p : Addr × Obj), Hot1 A p → Zp p → RoomH k (A.deeper (envOfC qual scope s.heap.objs.size f cdv)) → sp p.1 vs H Q E →
      ∃ t, PSs (cxH CX P w K mg base N qual scope f cdv A outer s H E p) body t ∧ t { nx := fun _ H' => Q .non H', rt := Q } (L2.start N vs) H) :
    FnE P w K mg base CX (k + 1) f (PySem.W.fnOf name qual params body scope dV kV doc pm an cdv ct) ps Zp sp := by
  refine ⟨len, fun A outer s H args us vs Q E p hr hot hz hpin e0 hb r hsp => ?_⟩
  have bk : ∀ b o, base.get? b = some o → s.heap.get? b = some o := fun b o e => (e0.bs b o e).1
  have KX : K.In s.heap := e0.mod.kin.keeps bk
  have loc : ∀ y ∈ ps.zip us, scope.names.lookup y.1 = some .local ∨ (scope.names.lookup y.1 = some .cell ∧ ((cellsFrom (s.heap.objs.size + 1) scope.names []).lookup y.1).isSome = true) := by
    rintro ⟨n, v⟩ hy
    exact (S.par n (List.of_mem_zip hy).1).imp id fun q => ⟨q, PySem.W.cellsFrom_some _ _ _ (.inl q)⟩
  refine codeAny_call_function hr.depth (KX _ _ lk) rfl S.co S.gen rfl (PySem.W.codeRec_of KX hcd) (hb _ _ _ _ (wpAny_newFunctionEnv_cells S.kind loc fun env he s1 x => ?_))
  subst he
  obtain ⟨t, ht, hq⟩ := hbody A outer s H vs Q E p hot hz (hr.deeper _) hsp
  have I := inv_startH (CX := CX) (E := E) S hpin e0 (len _ _ _ _ _ hsp) r x
  refine ⟨(e0.mod.nolimit.keeps bk).keeps x.toInCall.keep, codeAny_func (wpAny_mono (ht.run [] s1 (L2.start N vs) H _ I hq) (fun fl s' hs => ?_) fun e s' hs => hs)⟩
  cases fl with
  | ret u =>
    obtain ⟨v, σ', H', J, rv, q⟩ := hs
    exact ⟨v, H', J.os, J.bare, J.base, J.hok, rv, q⟩
  | next =>
    obtain ⟨σ', H', J, q⟩ := hs
    exact ⟨V.non, H', J.os, J.bare, J.base, J.hok, rfl, q⟩
  | brk => obtain ⟨_, _, _, q⟩ := hs; exact q.elim
  | cont => obtain ⟨_, _, _, q⟩ := hs; exact q.elim
section
variable {X : Cx} {CX : CXT} {k : Nat} {f : Addr} {fd : FuncData} {ps : List Str} {Zp : Addr × Obj → Prop} {sp : Addr → L2.Sp} {E : L2.St → XK} {x : Str} {q pos : Pos} {e : Expr} {es : List Expr} {t : TA}
theorem pe_callE {p : Addr × Obj} (F : FnE X.prog X.w X.K X.mg X.base CX k f fd ps Zp sp) (hr : RoomH k X.A) (hot : Hot1 X.A p) (hz : Zp p) (hp : p ∈ X.pn) (hg : Gl X x) (hm : X.mg x = some (.ref f)) (hk : PySem.W.keepIn X.K (.ref f) = true) (hb : Binds X.K fd ps []) (hx : ∀ σ, PassesAt CX X σ (E σ))
    (ha : PA X (e :: es) t) (hdb : (x == ("__debug__" : Str)) = false := by decide) (he : starEach (e :: es) X.env = (false, eval e X.env) :: starEach es X.env := by rfl) (hpl : (backTo pos (starEach es X.env)).any (·.1) = false := by rfl) :
    PE X (.Call (.Name x q) (e :: es) [] pos) (tCallS (sp p.1) E t) := by
  refine ⟨fun pins s σ H Q I h => wpAny_Call_Name_kw (ld_glob I hg hm (PySem.W.callWith_K (h₀ := X.base) I.ok.mod.kin hk (thn (ha.run pos pins s σ H _ I h) fun us s1 ⟨vs, H1, I1, r, q⟩ => ⟨I1.kIn, ?_⟩) he hpl) hdb)⟩
  have b := hb s1 us I1.kIn (by rw [List.append_nil, ← r.length]; exact F.len _ _ _ _ _ q)
  rw [List.append_nil] at b
  have P1 := I1.pin p (List.mem_append_left _ hp)
  refine wpAny_call (codeAny_mono (F.run X.A X.stack s1 H1 ⟨us, []⟩ us vs Q (E σ) p hr hot hz ⟨P1.1, P1.2.1, fun hm => (List.mem_cons.mp (I1.stkSub p.1 hm)).elim P1.2.2.1 P1.2.2.2.1, P1.2.2.2.2⟩ I1.env0 b r q) fun r s' hq => ?_)
  cases r with
  | error e => exact hx σ pins H1 s1 e s' I1 hq
  | ok fl => cases fl with
    | ret u => exact I1.after hq
    | next => exact False.elim hq
    | brk => exact False.elim hq
    | cont => exact False.elim hq
end
/-! ### isinstance of the handled exception -/
theorem call_isP {X : Cx} {p : Addr × Obj} {D : Addr} (hp : p ∈ X.pn) (C : ExcC X.K D) (hz : Zc (.ref D) none p.2) (hf : ∃ vs, p.2.data = .fields vs) : CallR X (.builtin "isinstance") (rIsE X.K D p.1) := by
  intro pins s σ H xs us Q I r h
  obtain ⟨c, cv, b, rfl, hcv, e, q⟩ := h
  obtain ⟨u1, u2, rfl, rx, rt⟩ := vals2 r
  have ex : u1 = .ref p.1 := rx
  subst ex
  have ec := hcv _ rt
  subst ec
  have hget := (I.pin p (List.mem_append_left _ hp)).1
  obtain ⟨vs, hv⟩ := hf
  have J : PySem.W.InstAt s.heap p.1 p.2 D none := by
    obtain ⟨a, oc, od, oda, osl⟩ := p
    obtain ⟨h1, h2⟩ := hz
    dsimp only at h1 h2 hv hget
    subst h1 h2 hv
    exact ⟨hget, rfl, rfl, trivial⟩
  exact PySem.W.kia_one (PySem.W.handS_kitx_exc C.hg C.hk C.hs C.hd C.ha C.hn C.ht C.hm) I.kIn J e (fun z => nomatch z) fun tk => ⟨.bl b, H, I.kept (t' := tk) fun _ _ z => z, rfl, q⟩
end Dl

namespace Dl
open PySem PySem.Spec PyProof.Rows L2 HotX L2H
variable [KOf]
section
variable {X : Cx} {E : XK} {e : Expr} {te : TE} {w : WE} {pos q q2 : Pos} {x : Str}
def wIsE (a : Addr) (b : Bool) (w : WE) : WE := fun ρ Φ => w ρ fun d => d = .raw (.ref a) ∧ Φ (.bl b)
theorem de_isE {p : Addr × Obj} {D : Addr} {c : V} {cv : Value} {b : Bool} (hp : p ∈ X.pn) (C : ExcC X.K D) (hz : Zc (.ref D) none p.2) (hf : ∃ vs, p.2.data = .fields vs) (hg : Gl X "isinstance") (hm : X.mg "isinstance" = none)
    (he : DE X E e te w) (hx : PE X (.Name x q2) (tC c)) (hc : ∀ u, RelV c u → u = cv) (hk : PySem.W.kitOne X.K (.ref D) cv = some b)
    (na : starEach [e, .Name x q2] X.env = (false, eval e X.env) :: starEach [.Name x q2] X.env := by rfl) (na2 : starEach [.Name x q2] X.env = (false, eval (.Name x q2) X.env) :: starEach [] X.env := by rfl)
    (hpl : (backTo pos (starEach [.Name x q2] X.env)).any (·.1) = false := by rfl) :
    DE X E (.Call (.Name "isinstance" q) [e, .Name x q2] [] pos) (tCB (rIsE X.K D p.1) (tCons te (tCons (tC c) tNil))) (wIsE p.1 b w) := by
  refine ⟨pe_callB (call_isP hp C hz hf) hg hm (by decide +kernel) (pa_cons he.p (pa_cons hx pa_nil na2) na) (he := na) (hpl := hpl), fun δ M σ H ρ R Φ Q h k => ?_⟩
  refine he.a δ M σ H ρ R _ _ h fun v H1 d e1 r1 h1 => ?_
  obtain ⟨ed, h1⟩ := h1
  subst ed
  cases r1
  exact ⟨c, cv, b, rfl, hc, hk, k _ H1 _ e1 (.bl b) h1⟩
end
section
variable {P : Program} {w : World} {K : PySem.W.Frag} {mg : Str → Option Value} {base : Heap} {x qual : Str} {st : Stmt} {f : Addr} {fd : FuncData} {N ps : List Str} {k n : Nat} {Zp : Addr × Obj → Prop}
/-- a def over data, called in an except suite -/
theorem fn_DE {Pd : Addr → List S → (D → Prop) → Prop} (F : Fun K x qual st f fd) (Sc : FnScope N ps (defScope st)) (hn : ps.length = n)
    (hbody : ∀ (cdv : Value) (A : Around) (outer : List PySem.Env) (s : Shared) (H : Hp) (Eo : XK) (p : Addr × Obj), Hot1 A p → Zp p → RoomH k (A.deeper (envOfC qual (defScope st) s.heap.objs.size f cdv)) →
      ∃ t w', DSs ((cxH CX0 P w K mg base N qual (defScope st) f cdv A outer s H Eo p).nox) E0 (defBody st) t w' ∧ ∀ ss Φ, ss.length = n → Pd p.1 ss Φ → w' ⟨fun _ => False, fun _ => False⟩ { nx := fun _ => Φ .non, rt := Φ } (startS N.length ss)) :
    FnE P w K mg base CX0 (k + 1) f fd ps Zp fun a => spD n (Pd a) := by
  obtain ⟨oc, od, kV, doc, pm, an, cdv, ct, osl, rfl, lk, hcd⟩ := F.ex
  refine fn_E lk hcd Sc (fun a vs H Q E h => ?_) fun A outer s H vs Q E p hot hz hr h => ?_
  · obtain ⟨δ, M, ss, Φ, h1, _⟩ := h
    rw [h1, hn]
  · obtain ⟨δ, M, ss, Φ, h1, h2, h3, h4, h5, h6, h7⟩ := h
    obtain ⟨t, w', hs, hw⟩ := hbody cdv A outer s H E p hot hz hr
    exact ⟨t, hs.p.nox, hs.a δ M H ⟨fun _ => False, fun _ => False⟩ { nx := fun _ => Φ .non, rt := Φ } _ ⟨fun σ H' l R h => h7 .non H' .non R.kd.toExt .non h, fun v H' d kd r h => h7 v H' d kd.toExt r h, fun _ _ _ _ h => h.elim, fun _ _ _ _ h => h.elim⟩ _ H _ (rs_start h2 h3 h4 h5 fun _ _ _ _ _ _ z => z.elim) (hw ss Φ (by rw [← h2.length, h1]) h6)⟩
end
/-! ### what the exceptions' classes are -/
/-- ExcC, as a Bool of the written part -/
def excCB (K : PySem.W.Frag) (D : Addr) : Bool :=
  He.eqO (PySem.W.findIn K (.ref D) "__getattribute__") (some (some (.builtin "BaseException.__getattribute__"))) && He.eqO (PySem.W.findIn K (.ref D) "__getattr__") (some none) && decide (PySem.W.subIn K (.ref D) (.type "BaseException") = some true) && PySem.W.hasDictIn K D &&
  He.eqO (PySem.W.findIn K (.ref D) "__class__") (some (some (.builtin "object.__class__"))) && He.eqO (PySem.W.specialIn K (.builtin "object.__class__") "__get__") (some (some (.builtin "getset_descriptor.__get__"))) && decide (PySem.W.takesIn K (.builtin "object.__class__") = some true) && decide (PySem.W.mroIn K D (.type "object") = some true)
theorem excCB_ok {K : PySem.W.Frag} {D : Addr} (h : excCB K D = true) : ExcC K D := by
  unfold excCB at h
  simp only [Bool.and_eq_true] at h
  obtain ⟨⟨⟨⟨⟨⟨⟨h1, h2⟩, h3⟩, h4⟩, h5⟩, h6⟩, h7⟩, h8⟩ := h
  exact ⟨He.eqO_ok h1, He.eqO_ok h2, of_decide_eq_true h3, h4, He.eqO_ok h5, He.eqO_ok h6, of_decide_eq_true h7, of_decide_eq_true h8⟩
end Dl

/-! Defs that raise, the exception's context None. -/
namespace Dl
open PySem PySem.Spec PyProof.Rows L2
variable [KOf]
section
variable {Pr : Program} {w : World} {K : PySem.W.Frag} {mg : Str → Option Value} {base : Heap} {x qual : Str} {st : Stmt} {f : Addr} {fd : FuncData} {N ps : List Str} {k n : Nat}
theorem fn_N {P : List S → (D → Prop) → (XD → Prop) → Prop} (F : Fun K x qual st f fd) (Sc : FnScope N ps (defScope st)) (hn : ps.length = n)
    (hbody : ∀ (cdv : Value) (A : Around) (outer : List PySem.Env) (s : Shared) (H : Hp) (E : XK), Room k (A.deeper (PyProof.Rows.envOfC qual (defScope st) s.heap.objs.size f cdv)) →
      ∃ t w', DSs (cxOf (L2N.CX Pr w) Pr w K mg base N qual (defScope st) f cdv A outer s H E) E (defBody st) t w' ∧ ∀ ss Φ Ψ, ss.length = n → P ss Φ Ψ → w' ⟨Ψ, fun _ => False⟩ { nx := fun _ => Φ .non, rt := Φ } (startS N.length ss)) : FnOk Pr w K mg base (L2N.CX Pr w) (k + 1) f fd ps (spX n P) := by
  obtain ⟨oc, od, kV, doc, pm, an, cdv, ct, osl, rfl, lk, hcd⟩ := F.ex
  refine fn_of lk hcd Sc (fun vs H Q E h => ?_) (fun A outer s H vs Q E hr h => ?_)
  · obtain ⟨δ, M, ss, Φ, Ψ, h1, _⟩ := h
    rw [h1, hn]
  · obtain ⟨δ, M, ss, Φ, Ψ, h1, h2, h3, h4, h5, h6, h7, h8⟩ := h
    obtain ⟨t, w', hs, hw⟩ := hbody cdv A outer s H E hr
    refine ⟨t, hs.p, hs.a δ M H ⟨Ψ, fun _ => False⟩ { nx := fun _ => Φ .non, rt := Φ } _ ⟨fun σ H' l R h => h7 .non H' .non R.kd.toExt .non h, fun v H' d kd r h => h7 v H' d kd.toExt r h, fun _ _ _ _ h => h.elim, fun _ _ _ _ h => h.elim⟩ _ H _ (rs_start h2 h3 h4 h5 h8) (hw ss Φ Ψ (by rw [← h2.length, h1]) h6)⟩
end
section
variable {X : Cx} {E : XK} {e : Expr} {te : TE} {w : WE} {pos pos' p p2 : Pos} {x m : Str} {C : Addr} {bmB : List Value} {B newId initId : String}
/-- X(e), the new exception's context None -/
theorem pmk_arg {ta : TE} (F : ExcBaseFacts B newId initId bmB) (q : PySem.W.excIn X.K C bmB newId = true) (gC : X.mg x = some (.ref C)) (kC : PySem.W.keepIn X.K (.ref C) = true) (r : Raises X (.ref C)) (hg : Gl X x)
    (he : PE X e ta) (hs : starEach [e] X.env = (false, eval e X.env) :: starEach [] X.env := by rfl) (hdb : (x == ("__debug__" : Str)) = false := by decide) :
    L2N.PMk X (.Call (.Name x p) [e] [] pos) (fun σ H Q => ta σ H fun _ H1 => Q (.ref C) none H1) := by
  intro pins s σ H Q I h
  refine wpAny_Call_Name_kw (ld_glob I hg gC (PySem.W.callWith_K (h₀ := X.base) I.ok.mod.kin kC ?_ hs (by rfl)) hdb)
  rw [hs]
  refine Calls.spliced_cons (thn (he.run pins s σ H _ I h) fun u s1 ⟨v, H1, I1, r1, q1⟩ => Calls.spliced_nil ⟨I1.kIn, ?_⟩)
  obtain ⟨bm, N, nm, qn, bs, hdct, sn, sub, ab, col, dd, k0, k1, k2, k3, k5, mN, hC, hN, hni, T⟩ := exc_obj I1.kIn q
  exact wpAny_call_exc_subT F T hC hN hni (fun h' e hm => L2N.mk_of I1 hm r q1 (I1.hok.gone hm.new)) (by show 1 ≤ sizeLine; rw [sizeLine_eq]; omega)
def wRaise (C : Addr) : WS := fun c _ _ => c.ex ⟨.ref C, none⟩
def wRaise1 (C : Addr) (w : WE) : WS := fun c _ l => w ⟨c, l⟩ fun _ => c.ex ⟨.ref C, none⟩
theorem ds_raise (hc : X.calm = true) (tk : L2N.Takes X (fun cls d _ H => E cls d H)) (h : L2N.PMk X e (fun _ H Q => Q (.ref C) none H)) : DS X E (.Raise (some e) none pos) (fun _ _ H => E (.ref C) none H) (wRaise C) :=
  ⟨L2N.ps_raise hc tk h, fun δ M0 H0 c Φ D ok σ H l R h => let ⟨M, m, n, Re⟩ := R.ex; Re.ex _ none H none (Ext.refl H) rfl h⟩
theorem ds_raise1 (hc : X.calm = true) (tk : L2N.Takes X (fun cls d _ H => E cls d H)) (ha : AbsE E te w) (h : L2N.PMk X e (fun σ H Q => te σ H fun _ H1 => Q (.ref C) none H1)) : DS X E (.Raise (some e) none pos) (fun _ σ H => te σ H fun _ H1 => E (.ref C) none H1) (wRaise1 C w) :=
  ⟨L2N.ps_raise hc tk h, fun δ M0 H0 c Φ D ok σ H l R h => let ⟨M, m, n, Re⟩ := R.ex; ha δ M σ H ⟨c, l⟩ Re _ _ h fun v H1 d e1 r1 h1 => Re.ex _ none H1 none e1 rfl h1⟩
/-! ### f'..' of a constant text and an int -/
def wFmt (w : WE) : WE := fun ρ Φ => w ρ fun d => match d with
  | .int i => i.natAbs.log2 < 1920 ∧ ∀ x, Φ (.str x)
  | _ => False
theorem de_fmt {fp : Pos} (he : DE X E e te w) : DE X E (.FormattedValue e (-1) none fp) (tFmt te) (wFmt w) := by
  refine ⟨pe_fmt he.p, fun δ M σ H ρ R Φ Q h k => ?_⟩
  refine he.a δ M σ H ρ R _ _ h fun v H1 d e1 r1 h1 => ?_
  cases r1 <;> first | exact False.elim h1 | skip
  rename_i i
  obtain ⟨h2, h3⟩ := (h1 : i.natAbs.log2 < 1920 ∧ ∀ x, Φ (.str x))
  exact .inr ⟨i, rfl, h2, k _ H1 _ e1 (.str _) (h3 _)⟩
end
/-- called where it raises nothing -/
theorem _root_.L2.FnOk.calmN {Pr : Program} {w : World} {K : PySem.W.Frag} {mg : Str → Option Value} {base : Heap} {k n : Nat} {f : Addr} {fd : FuncData} {ps : List Str} {P : List S → (D → Prop) → (XD → Prop) → Prop} (F : FnOk Pr w K mg base (L2N.CX Pr w) k f fd ps (spX n P)) :
    FnOk Pr w K mg base CX0 k f fd ps (spD n fun ss Φ => P ss Φ fun _ => False) := by
  have cv : ∀ {vs : List V} {H : Hp} {Q : VK} {E : XK}, spD n (fun ss Φ => P ss Φ fun _ => False) vs H Q E → spX n P vs H Q E0 := fun {vs H Q E} ⟨δ, M, ss, Φ, h1, h2, h3, h4, h5, h6, h7⟩ => ⟨δ, M, ss, Φ, fun _ => False, h1, h2, h3, h4, h5, h6, h7, fun _ _ _ _ _ _ z => z.elim⟩
  refine ⟨fun vs H Q E h => F.len vs H Q E0 (cv h), fun A outer s H args us vs Q E hr he hb hv h => codeAny_mono (F.run A outer s H args us vs Q E0 hr he hb hv (cv h)) fun r s' hq => ?_⟩
  cases r with
  | ok fl => cases fl <;> exact hq
  | error e =>
    have hq' : L2N.CX Pr w outer H s E0 e s' := hq
    unfold L2N.CX at hq'
    obtain ⟨_, _, _, _, _, _, _, _, _, _, _, _, z⟩ := hq'
    exact False.elim z
end Dl

/-! An __init__ over data: calls, then the fields, one behind another. -/
namespace Dl
open PySem PySem.Spec PyProof.Rows L2
variable [KOf]
theorem putF_new {f : Str} {v : V} : ∀ {fs : List (Str × V)}, f ∉ fs.map (·.1) → putF f v fs = fs ++ [(f, v)]
  | [], _ => rfl
  | (g, y) :: r, h => by
    have h1 : g ≠ f := fun z => h (by rw [z]; exact List.mem_cons_self)
    show (if g = f then _ else _) = _
    rw [if_neg h1, putF_new fun z => h (List.mem_cons_of_mem _ z)]
    rfl
theorem zip_fst {α β : Type} : ∀ {ns : List α} {vs : List β}, ns.length = vs.length → (ns.zip vs).map (·.1) = ns
  | [], [], _ => rfl
  | n :: ns, v :: vs, h => by
    show n :: (ns.zip vs).map (·.1) = n :: ns
    rw [zip_fst (Nat.succ.inj h)]
/-- the new instance, and what has happened since the entry -/
structure IS (δ : Option Addr) (M : List Addr) (E : XK) (x C dx : Addr) (H0 : Hp) (σ : L2.St) (H : Hp) (l : Sl) (c : Ct) (ns : List Str) (ds : List D) : Prop where
  R : RE δ M H E σ ⟨c, l⟩
  xM : x ∈ M
  xd : δ ≠ some x
  s0 : σ[0]? = some (some (.ref x))
  no : ∀ (i : Nat) (s : S), l[i]? = some (some s) → s.adr = none
  at' : ∃ vs, H x = some (.ins C dx (ns.zip vs)) ∧ ns.length = vs.length ∧ RepL (Bn δ M) H vs ds
  kx : Kept (fun a => δ = some a ∨ a = x) H0 H
  kd : ∀ a, δ = some a → DiceAt H0 a → DiceAt H a
section
variable {δ : Option Addr} {M : List Addr} {E : XK} {x C dx : Addr} {H0 H H' : Hp} {σ : L2.St} {l : Sl} {c : Ct} {ns : List Str} {ds : List D}
theorem IS.ext (e : Ext δ H H') (s : IS δ M E x C dx H0 σ H l c ns ds) : IS δ M E x C dx H0 σ H' l c ns ds :=
  ⟨s.R.ext e, s.xM, s.xd, s.s0, s.no, let ⟨vs, h1, h2, h3⟩ := s.at'; ⟨vs, e.1 _ _ h1 s.xd, h2, h3.keep e.kept⟩, s.kx.trans (e.1.wide fun _ => Or.inl), fun a ha d => e.2 a ha (s.kd a ha d)⟩
theorem IS.calm (s : IS δ M E x C dx H0 σ H l c ns ds) : IS δ M E x C dx H0 σ H l ⟨fun _ => False, c.lk⟩ ns ds :=
  ⟨⟨s.R.len, s.R.rep, s.R.one, s.R.okM, s.R.okd, let ⟨He, Me, a, m, b, _⟩ := s.R.en; ⟨He, Me, a, m, b, fun _ _ _ _ _ _ z => z.elim⟩⟩, s.xM, s.xd, s.s0, s.no, s.at', s.kx, s.kd⟩
theorem IS.poke {f : Str} {v : V} {d : D} (s : IS δ M E x C dx H0 σ H l ⟨fun _ => False, c.lk⟩ ns ds) (r : Rep (Bn δ M) H v d) (hf : f ∉ ns) {vs : List V} (h1 : H x = some (.ins C dx (ns.zip vs))) (h2 : ns.length = vs.length) (h3 : RepL (Bn δ M) H vs ds) :
    IS δ M E x C dx H0 σ (upd H x (.ins C dx (putF f v (ns.zip vs)))) l ⟨fun _ => False, c.lk⟩ (ns ++ [f]) (ds ++ [d]) := by
  have kp : ∀ o : HO, Kept (Bn δ M) H (upd H x o) := fun o => Kept.put (.inr s.xM)
  have ep : putF f v (ns.zip vs) = (ns ++ [f]).zip (vs ++ [v]) := by
    rw [putF_new (by rw [zip_fst h2]; exact hf), List.zip_append h2]
    rfl
  have dk : ∀ (o : HO) (a : Addr), δ = some a → DiceAt H a → DiceAt (upd H x o) a := fun o a ha ⟨ms, q, z⟩ => ⟨ms, by rw [upd_ne (fun y => s.xd (by rw [← y]; exact ha))]; exact q, z⟩
  refine ⟨⟨s.R.len, fun i t q => ?_, s.R.one, fun b hb => ?_, fun a ha => dk _ a ha (s.R.okd a ha), ⟨_, [], Ext.refl _, (fun _ z => nomatch z), (fun i p t z e => by rw [s.no i t z] at e; cases e), fun _ _ _ _ _ _ z => False.elim z⟩⟩, s.xM, s.xd, s.s0, s.no, ⟨vs ++ [v], by rw [upd_same, ep], by rw [List.length_append, List.length_append, h2]; rfl, (h3.app (.cons r .nil)).keep (kp _)⟩, s.kx.trans (Kept.put (.inr rfl)), fun a ha q => dk _ a ha (s.kd a ha q)⟩
  · obtain ⟨u, g1, g2⟩ := s.R.rep i t q
    refine ⟨u, g1, ?_⟩
    cases g2 with
    | d r => exact .d (r.keep (kp _))
    | obj => cases s.no _ _ q
    | gh => cases s.no _ _ q
    | dice ha hd => exact .dice ha (dk _ _ ha hd)
  · by_cases e : b = x
    · exact ⟨_, by rw [e]; exact upd_same⟩
    · obtain ⟨o, q⟩ := s.R.okM b hb
      exact ⟨o, by rw [upd_ne e]; exact q⟩
end
abbrev WIn := Ct → List Str → List D → Sl → (List Str → List D → Prop) → Prop
def AbsIn (C : Addr) (E : XK) (t : TS) (w : WIn) : Prop := ∀ (δ : Option Addr) (M : List Addr) (x dx : Addr) (H0 : Hp) (σ : L2.St) (H : Hp) (l : Sl) (c : Ct) (ns : List Str) (ds : List D) (Φ : List Str → List D → Prop) (D : Ends), IS δ M E x C dx H0 σ H l c ns ds → w c ns ds l Φ →
  (∀ σ' H' c' ns' ds', IS δ M E x C dx H0 σ' H' l c' ns' ds' → Φ ns' ds' → D.nx σ' H') → t D σ H
structure DIn (C : Addr) (X : Cx) (E : XK) (s : List Stmt) (t : TS) (w : WIn) : Prop where
  p : PSs X s t
  a : AbsIn C E t w
section
variable {X : Cx} {E : XK} {C : Addr} {e : Expr} {te : TE} {w : WE} {pos pos' : Pos} {rest : List Stmt} {u : TS} {w2 : WIn} {f x0 : Str} {p0 : Pos}
def wiNil : WIn := fun _ ns ds _ Φ => Φ ns ds
theorem in_nil : DIn C X E [] tNext wiNil := ⟨pss_nil, fun δ M x dx H0 σ H l c ns ds Φ D s h k => k σ H c ns ds s h⟩
def wiExpr (w : WE) (w2 : WIn) : WIn := fun c ns ds l Φ => w ⟨c, l⟩ fun _ => w2 c ns ds l Φ
theorem in_expr (he : DE X E e te w) (hr : DIn C X E rest u w2) (hs : swapsWith e none pos.line X.env = pure false := by rfl) : DIn C X E (.Expr e pos :: rest) (tSeq (tDrop te) u) (wiExpr w w2) :=
  ⟨pss_cons (ps_expr he.p hs) hr.p, fun δ M x dx H0 σ H l c ns ds Φ D s h k => he.a δ M σ H ⟨c, l⟩ s.R _ _ h fun v H1 d e1 r1 h1 => hr.a δ M x dx H0 σ H1 l c ns ds Φ D (s.ext e1) h1 k⟩
def wiFld (f : Str) (w : WE) (w2 : WIn) : WIn := fun c ns ds l Φ => w ⟨⟨fun _ => False, c.lk⟩, l⟩ fun d => (f ∉ ns ∧ ns.length < 1000) ∧ w2 ⟨fun _ => False, c.lk⟩ (ns ++ [f]) (ds ++ [d]) l Φ
theorem in_fld (K : PySem.W.Frag) (cl : Cls K C) (nA : NoAttr K C f) (he : DE X E e te w) (hr : DIn C X E rest u w2) (hN : X.N[0]? = some x0 := by rfl) (hv : Vis X.env.scope x0 := by first | exact Or.inl rfl | exact Or.inr (Or.inl rfl) | exact Or.inr (Or.inr rfl)) (hK : X.K = K := by rfl)
    (hd : (x0 == ("__debug__" : Str)) = false := by decide) (hcd : (x0 == ("__classdict__" : Str)) = false := by decide) (hs : swapsWith e (some (.Attribute (.Name x0 p0) f pos')) pos.line X.env = pure false := by rfl) :
    DIn C X E (.Assign [.Attribute (.Name x0 p0) f pos'] e pos :: rest) (tSeq (sFld K (tVar 0) te f) u) (wiFld f w w2) := by
  subst hK
  refine ⟨pss_cons (ps_fld (pe_var hN hv hd hcd) he.p hs) hr.p, fun δ M x dx H0 σ H l c ns ds Φ D s h k => ?_⟩
  refine he.a δ M σ H ⟨⟨fun _ => False, c.lk⟩, l⟩ s.calm.R _ _ h fun v H1 d e1 r1 h1 => ?_
  have s1 := s.calm.ext e1
  obtain ⟨⟨hf, hn⟩, h2⟩ := h1
  obtain ⟨vs, g1, g2, g3⟩ := s1.at'
  refine ⟨.ref x, s1.s0, x, C, dx, ns.zip vs, rfl, g1, cl, nA, by rw [List.length_zip]; omega, ?_⟩
  exact hr.a δ M x dx H0 σ _ l _ _ _ Φ D (s1.poke r1 hf g1 g2 g3) h2 k
end
/-- the promise of an __init__: ss its arguments behind self -/
def spInit (C : Addr) (n : Nat) (P : List S → (List Str → List D → Prop) → (XD → Prop) → Prop) : L2.Sp := fun vs H Q E => ∃ (δ : Option Addr) (M : List Addr) (x dx : Addr) (rest : List V) (ss : List S) (Φ : List Str → List D → Prop) (Ψ : XD → Prop), vs = .ref x :: rest ∧ rest.length = n ∧ H x = some (.ins C dx []) ∧ x ∈ M ∧ δ ≠ some x ∧
  Paired (RepS δ M H) rest ss ∧ noOwn ss = true ∧ (∀ b, b ∈ M → ∃ o, H b = some o) ∧ (∀ a, δ = some a → DiceAt H a) ∧ P ss Φ Ψ ∧
  (∀ H' vs' ns ds, Kept (fun a => δ = some a ∨ a = x) H H' → (∀ a, δ = some a → DiceAt H a → DiceAt H' a) → H' x = some (.ins C dx (ns.zip vs')) → ns.length = vs'.length → RepL (Bn δ M) H' vs' ds → Φ ns ds → Q .non H') ∧
  ∀ cls d H' fs, Ext δ H H' → RepX δ M H' d ⟨cls, fs⟩ → Ψ ⟨cls, fs⟩ → E cls d H'
/-- the slots at an __init__'s entry: self is not looked at -/
def startI (n : Nat) (ss : List S) : Sl := none :: startS (n - 1) ss
theorem RE.cons0 {δ : Option Addr} {M : List Addr} {H : Hp} {E : XK} {σ : L2.St} {c : Ct} {l : Sl} {a : Option V} (R : RE δ M H E σ ⟨c, l⟩) : RE δ M H E (a :: σ) ⟨c, none :: l⟩ := by
  refine ⟨Nat.succ_le_succ R.len, fun i s q => ?_, fun i j p xs ys q1 q2 e1 e2 => ?_, R.okM, R.okd, ?_⟩
  · cases i with
    | zero => cases q
    | succ i => exact R.rep i s q
  · cases i with
    | zero => cases q1
    | succ i => cases j with
      | zero => cases q2
      | succ j => exact congrArg (· + 1) (R.one i j p xs ys q1 q2 e1 e2)
  · obtain ⟨He, Me, a, m, b, q⟩ := R.en
    refine ⟨He, Me, a, m, fun i p xs z => ?_, q⟩
    cases i with
    | zero => cases z
    | succ i => exact b i p xs z
section
variable {Pr : Program} {w : World} {K : PySem.W.Frag} {mg : Str → Option Value} {base : Heap} {x0 qual : Str} {st : Stmt} {f C : Addr} {fd : FuncData} {N ps : List Str} {k n : Nat} {CX : CXT}
theorem fn_init {P : List S → (List Str → List D → Prop) → (XD → Prop) → Prop} (F : Fun K x0 qual st f fd) (Sc : FnScope N ps (defScope st)) (hn : ps.length = n + 1) (hN : n + 1 ≤ N.length)
    (hbody : ∀ (cdv : Value) (A : Around) (outer : List PySem.Env) (s : Shared) (H : Hp) (E : XK), Room k (A.deeper (PyProof.Rows.envOfC qual (defScope st) s.heap.objs.size f cdv)) →
      ∃ t w', DIn C (cxOf CX Pr w K mg base N qual (defScope st) f cdv A outer s H E) E (defBody st) t w' ∧ ∀ ss Φ Ψ, ss.length = n → P ss Φ Ψ → w' ⟨Ψ, fun _ => False⟩ [] [] (startI N.length ss) Φ) : FnOk Pr w K mg base CX (k + 1) f fd ps (spInit C n P) := by
  obtain ⟨oc, od, kV, doc, pm, an, cdv, ct, osl, rfl, lk, hcd⟩ := F.ex
  refine fn_of lk hcd Sc (fun vs H Q E h => ?_) (fun A outer s H vs Q E hr h => ?_)
  · obtain ⟨δ, M, x, dx, rest, ss, Φ, Ψ, rfl, hl, _⟩ := h
    rw [hn, ← hl]
    rfl
  · obtain ⟨δ, M, x, dx, rest, ss, Φ, Ψ, rfl, hl, hx, xM, xd, hp, no, okM, okd, hP, hQ, hE⟩ := h
    obtain ⟨t, w', hs, hw⟩ := hbody cdv A outer s H E hr
    have hss : ss.length = n := by rw [← hp.length, hl]
    cases N with
    | nil => exact absurd hN (by simp)
    | cons n0 N' =>
      have st0 : L2.start (n0 :: N') (.ref x :: rest) = some (.ref x) :: L2.start N' rest := by
        unfold L2.start
        show some (V.ref x) :: (rest.map some ++ List.replicate (N'.length + 1 - (rest.length + 1)) none) = _
        rw [Nat.add_sub_add_right]
      obtain ⟨M1, m1, m2, R⟩ := (rs_start (N := N') (E := E) (ex := Ψ) hp no okM okd hE).ex
      have hno : ∀ (i : Nat) (s : S), (startI (n0 :: N').length ss)[i]? = some (some s) → s.adr = none := fun i s z => by
        cases i with
        | zero => cases z
        | succ i => exact noOwn_at no (start_at z)
      refine ⟨t, hs.p, hs.a δ M1 x dx H _ H (startI (n0 :: N').length ss) ⟨Ψ, fun _ => False⟩ [] [] Φ _ ⟨by rw [st0]; exact R.cons0, m1 x xM, xd, by rw [st0]; rfl, hno, ⟨[], hx, rfl, .nil⟩, Kept.refl _ H, fun _ _ q => q⟩ (hw ss Φ Ψ hss hP) fun σ' H' c' ns' ds' s' hφ => ?_⟩
      obtain ⟨vs', g1, g2, g3⟩ := s'.at'
      exact hQ H' vs' ns' ds' s'.kx s'.kd g1 g2 (g3.less (bn_less m1)) hφ
end
theorem paired_more {δ : Option Addr} {M : List Addr} {H H' : Hp} {x : Addr} (hx : H x = none) (e : Ext δ H H') : ∀ {vs : List V} {ss : List S}, Paired (RepS δ M H) vs ss → noOwn ss = true → Paired (RepS δ (x :: M) H') vs ss
  | _, _, .nil, _ => .nil
  | _, _, .cons (b := .d _) (.d r) t, no => .cons (.d ((r.less (bn_cons hx)).keep e.kept)) (paired_more hx e t no)
  | _, _, .cons (b := .dice) (.dice h1 h2) t, no => .cons (.dice h1 (e.2 _ h1 h2)) (paired_more hx e t no)
  | _, _, .cons (b := .obj _ _) _ _, no => by cases no
  | _, _, .cons (b := .gh _ _) _ _, no => by cases no
section
variable {X : Cx} {E : XK} {CX : CXT} {k n : Nat} {f C : Addr} {fd : FuncData} {ps : List Str} {x : Str} {e : Expr} {es : List Expr} {tl : TA} {ws : WA} {p pos : Pos} {P : List S → (List Str → List D → Prop) → (XD → Prop) → Prop}
def wMake (C : Addr) (P : List S → (List Str → List D → Prop) → (XD → Prop) → Prop) (ws : WA) : WE := fun ρ Φ => ws ρ fun ss => P ss (fun ns ds => Φ (.obj C ns ds)) ρ.c.ex
theorem de_make (Mm : Mk X.K C f) (F : FnOk X.prog X.w X.K X.mg X.base CX k f fd ps (spInit C n P)) (hr : Room (k + 1) X.A) (hg : Gl X x) (hm : X.mg x = some (.ref C)) (hb : Binds X.K fd ps []) (hx : Passes CX X E)
    (ha : DA X E (e :: es) tl ws) (hn : (e :: es).length = n := by rfl) (hdb : (x == ("__debug__" : Str)) = false := by decide) (he : starEach (e :: es) X.env = (false, eval e X.env) :: starEach es X.env := by rfl) (hpl : (backTo pos (starEach es X.env)).any (·.1) = false := by rfl) :
    DE X E (.Call (.Name x p) (e :: es) [] pos) (tMake C (spInit C n P) [] E tl) (wMake C P ws) := by
  refine ⟨pe_make Mm F hr hg hm hb .nil hx ha.p hdb he hpl, fun δ M σ H ρ R Φ Q h kq => ?_⟩
  refine ha.a δ M σ H ρ R _ _ h fun vs H1 ss e1 r1 l1 n1 h1 x dx hxn hdn hne => ?_
  have R1 := R.ext e1
  have hx2 : (upd H1 dx (.own x)) x = none := by rw [upd_ne hne.symm]; exact hxn
  have e12 : Ext δ H1 (upd (upd H1 dx (.own x)) x (.ins C dx [])) := (Ext.new hdn).trans (Ext.new hx2)
  have R2 := R1.ext e12
  have xd : δ ≠ some x := fun z => by
    obtain ⟨ms, q, _⟩ := R1.okd x z
    rw [hxn] at q; cases q
  rw [List.append_nil]
  refine ⟨δ, x :: M, x, dx, vs, ss, fun ns ds => Φ (.obj C ns ds), ρ.c.ex, rfl, (Paired.length r1).trans (l1.trans hn), upd_same, List.mem_cons_self, xd, paired_more hxn e12 r1 n1, n1, fun b hb => ?_, R2.okd, h1, fun H' vs' ns ds kx kd hx' hl rl hφ => ⟨rfl, ?_⟩, fun cls d H' fs e3 rx hex => R1.ex cls d H' fs (e12.trans e3) (rx.less bn_tail) hex⟩
  · rcases List.mem_cons.mp hb with z | z
    · exact ⟨_, by rw [z]; exact upd_same⟩
    · exact R2.okM b z
  · refine kq (.ref x) H' (.obj C ns ds) (e1.trans ⟨fun b o q nb => ?_, fun a ha q => kd a ha (e12.2 a ha q)⟩) (.obj (R1.fresh hxn) hx' hl (rl.less bn_tail)) hφ
    exact kx b o (e12.1 b o q nb) fun z => z.elim nb fun z => by rw [z, hxn] at q; cases q
end
end Dl

/-! Defs that hand back a new list that nobody else holds. -/
namespace Dl
open PySem PySem.Spec PyProof.Rows L2
variable [KOf]
def spF (n : Nat) (P : List S → (List D → Prop) → Prop) : L2.Sp := fun vs H Q _ => ∃ (δ : Option Addr) (M : List Addr) (ss : List S) (Φ : List D → Prop), vs.length = n ∧ Paired (RepS δ M H) vs ss ∧ noOwn ss = true ∧ (∀ b, b ∈ M → ∃ o, H b = some o) ∧ (∀ a, δ = some a → DiceAt H a) ∧
  P ss Φ ∧ ∀ p us H' ds, H p = none → Ext δ H H' → H' p = some (.lst us) → RepL (Bn δ (p :: M)) H' us ds → Φ ds → Q (.ref p) H'
abbrev WF := Ct → (List D → Prop) → Sl → Prop
def AbsSF (E : XK) (t : TS) (w : WF) : Prop := ∀ (δ : Option Addr) (M0 : List Addr) (H0 : Hp) (c : Ct) (Φ : List D → Prop) (D : Ends),
  (∀ p us H' ds, c.lk p ∨ H0 p = none → KD δ c.lk H0 H' → H' p = some (.lst us) → RepL (Bn δ (p :: M0)) H' us ds → Φ ds → D.rt (.ref p) H') → ∀ σ H l, RS δ M0 H0 E c σ H l → w c Φ l → t D σ H
structure DSF (X : Cx) (E : XK) (s : List Stmt) (t : TS) (w : WF) : Prop where
  p : PSs X s t
  a : AbsSF E t w
section
variable {X : Cx} {E : XK} {e : Expr} {es : List Expr} {te : TE} {tl : TA} {ws : WA} {pos : Pos} {st : Stmt} {rest : List Stmt} {t u : TS} {w1 : WS} {w2 : WF}
def wfCons (a : WS) (b : WF) : WF := fun c Φ l => a c { nx := fun l' => b c Φ l', rt := fun _ => False } l
theorem dsf_cons (h1 : DS X E st t w1) (h2 : DSF X E rest u w2) : DSF X E (st :: rest) (tSeq t u) (wfCons w1 w2) :=
  ⟨pss_cons h1.p h2.p, fun δ M0 H0 c Φ D ok σ H l R h => h1.a δ M0 H0 c { nx := fun l' => w2 c Φ l', rt := fun _ => False } { D with nx := u D } ⟨fun σ' H' l' R' h' => h2.a δ M0 H0 c Φ D ok σ' H' l' R' h', fun _ _ _ _ _ z => z.elim, fun _ _ _ _ z => z.elim, fun _ _ _ _ z => z.elim⟩ σ H l R h⟩
def wfRet (i : Nat) : WF := fun _ Φ l => match look l i with
  | some (.obj _ (.lst xs)) => Φ xs
  | _ => False
theorem dsf_ret (i : Nat) {x : Str} {p2 : Pos} (hN : X.N[i]? = some x := by rfl) (hv : Vis X.env.scope x := by first | exact Or.inl rfl | exact Or.inr (Or.inl rfl) | exact Or.inr (Or.inr rfl)) (hd : (x == ("__debug__" : Str)) = false := by decide)
    (hcd : (x == ("__classdict__" : Str)) = false := by decide) : DSF X E [.Return (some (.Name x p2)) pos] (tRet (tVar i)) (wfRet i) := by
  refine ⟨pss_one (ps_ret (pe_var hN hv hd hcd)), fun δ M0 H0 c Φ D ok σ H l R h => ?_⟩
  unfold wfRet at h
  split at h
  · rename_i p xs hl
    have hl' := look_get hl
    have hw := R.wr _ p _ hl' rfl
    obtain ⟨M, m, n, Re⟩ := R.ex
    obtain ⟨v, e, r⟩ := Re.rep _ _ hl'
    cases r with
    | obj hm hn hq =>
      obtain ⟨us, hq, rl⟩ := hq
      exact ⟨_, e rfl, ok p _ H xs hw R.kd hq (rl.less fun b z => by
        rcases z with z | z
        · exact .inl (.inl z)
        · rcases List.mem_cons.mp z with z | z
          · exact .inl (.inr (by rw [z]; exact hm))
          · exact .inl (.inr (m b z))) h⟩
  · exact h.elim
section
variable {CX : CXT} {k f n : Nat} {fd : FuncData} {ps : List Str} {P : List S → (List D → Prop) → Prop} {x : Str} {p : Pos}
def wCallF (P : List S → (List D → Prop) → Prop) (ws : WA) : Env → (List D → Prop) → Prop := fun ρ Φ => ws ρ fun ss => P ss Φ
theorem df_call (F : FnOk X.prog X.w X.K X.mg X.base CX0 k f fd ps (spF n P)) (hr : Room k X.A) (hg : Gl X x) (hm : X.mg x = some (.ref f)) (hk : PySem.W.keepIn X.K (.ref f) = true) (hb : Binds X.K fd ps [])
    (ha : DA X E (e :: es) tl ws) (hn : (e :: es).length = n := by rfl) (hdb : (x == ("__debug__" : Str)) = false := by decide) (he : starEach (e :: es) X.env = (false, eval e X.env) :: starEach es X.env := by rfl) (hpl : (backTo pos (starEach es X.env)).any (·.1) = false := by rfl) :
    DF X E (.Call (.Name x p) (e :: es) [] pos) (tCall (spF n P) [] E0 tl) (wCallF P ws) := by
  refine ⟨pe_call F hr hg hm hk hb .nil pass0 ha.p hdb he hpl, fun δ M σ H ρ R Φ Q h k => ?_⟩
  refine ha.a δ M σ H ρ R _ _ h fun vs H1 ss e1 r1 l1 n1 h1 => ?_
  have R1 := R.ext e1
  show spF n P (vs ++ []) H1 Q E0
  rw [List.append_nil]
  exact ⟨δ, M, ss, Φ, (Paired.length r1).trans (l1.trans hn), r1, n1, R1.okM, R1.okd, h1, fun p us H2 ds hp e2 hq rl h2 => k p us H2 ds (e1.free R.okd hp) (e1.trans e2) hq rl h2⟩
end
/-- [..].clear(), of a new list -/
def wClear (w : Env → (List D → Prop) → Prop) : WS := fun c Φ l => w ⟨c, l⟩ fun _ => Φ.nx l
theorem ds_clear {w : Env → (List D → Prop) → Prop} {apos cpos : Pos} (he : DF X E e te w) (hbase : attributeBase e "clear" X.env (eval e X.env) = eval e X.env := by rfl) (hline : (apos.endLine == cpos.line) = true := by rfl)
    (hs : swapsWith (.Call (.Attribute e "clear" apos) [] [] cpos) none pos.line X.env = pure false := by rfl) :
    DS X E (.Expr (.Call (.Attribute e "clear" apos) [] [] cpos) pos) (tDrop (tBM0 X.K "list" rClear te)) (wClear w) := by
  refine ⟨ps_expr (pe_bm0 PySem.F.plainAttrs_list PySem.F.slot_list_clear PySem.F.type_list_clear mt_clear he.p hbase hline) hs, fun δ M0 H0 c Φ D ok σ H l R h => ?_⟩
  obtain ⟨M, m, n, Re⟩ := R.ex
  refine he.a δ M σ H ⟨c, l⟩ Re _ _ h fun p us H1 ds hp e1 hq rl h1 => ?_
  exact ⟨.inl ⟨rfl, us, Or.inl (Or.inl hq)⟩, p, us, rfl, rfl, hq, ok.nx σ _ l (R.ext (e1.mut hp)) h1⟩
end
section
variable {Pr : Program} {w : World} {K : PySem.W.Frag} {mg : Str → Option Value} {base : Heap} {x qual : Str} {st : Stmt} {f : Addr} {fd : FuncData} {N ps : List Str} {k n : Nat}
theorem fn_F {P : List S → (List D → Prop) → Prop} (F : Fun K x qual st f fd) (Sc : FnScope N ps (defScope st)) (hn : ps.length = n)
    (hbody : ∀ (cdv : Value) (A : Around) (outer : List PySem.Env) (s : Shared) (H : Hp) (Eo : XK), Room k (A.deeper (PyProof.Rows.envOfC qual (defScope st) s.heap.objs.size f cdv)) →
      ∃ t w', DSF ((cxOf CX0 Pr w K mg base N qual (defScope st) f cdv A outer s H Eo).nox) E0 (defBody st) t w' ∧ ∀ ss Φ, ss.length = n → P ss Φ → w' ⟨fun _ => False, fun _ => False⟩ Φ (startS N.length ss)) : FnOk Pr w K mg base CX0 (k + 1) f fd ps (spF n P) := by
  refine F.ok Sc (fun vs H Q E h => ?_) (fun cdv A outer s H vs Q E hr h => ?_)
  · obtain ⟨δ, M, ss, Φ, h1, _⟩ := h
    rw [h1, hn]
  · obtain ⟨δ, M, ss, Φ, h1, h2, h3, h4, h5, h6, h7⟩ := h
    obtain ⟨t, w', hs, hw⟩ := hbody cdv A outer s H E hr
    refine ⟨t, hs.p, hs.a δ M H ⟨fun _ => False, fun _ => False⟩ Φ _ (fun p us H' ds hl kd hq rl h => h7 p us H' ds (hl.resolve_left fun z => z) kd.toExt hq rl h) _ H _ (rs_start h2 h3 h4 h5 fun _ _ _ _ _ _ z => z.elim) (hw ss Φ (by rw [← h2.length, h1]) h6)⟩
end
end Dl

/-! try: f(..) except X as e: return g(e, 'word') -/
namespace Dl
open PySem PySem.Spec PyProof.Rows L2 HotX L2H
variable [KOf]
theorem RE.calm0 {δ : Option Addr} {M : List Addr} {H : Hp} {E E' : XK} {σ : L2.St} {c : Ct} {l : Sl} (R : RE δ M H E σ ⟨c, l⟩) : RE δ M H E' σ ⟨⟨fun _ => False, c.lk⟩, l⟩ :=
  ⟨R.len, R.rep, R.one, R.okM, R.okd, let ⟨He, Me, a, m, b, _⟩ := R.en; ⟨He, Me, a, m, b, fun _ _ _ _ _ _ z => z.elim⟩⟩
theorem ext_none0 {δ : Option Addr} {H H' : Hp} (h : Ext none H H') : Ext δ H H' := ⟨fun b o e _ => h.1 b o e (fun z => nomatch z), fun a _ ⟨ns, q, l⟩ => ⟨ns, h.1 a _ q (fun z => nomatch z), l⟩⟩
theorem pss_if0 {X : Cx} {st : List Stmt} {t : TS} {c : Prop} (h : c → PSs X st t) : PSs X st (fun D σ H => c ∧ t D σ H) := ⟨fun pins s σ H D I q => (h q.1).run pins s σ H D I q.2⟩
def P_is0 (a : Addr) (word : Str) (ss : List S) (Φ : D → Prop) : Prop := ss = [.d (.raw (.ref a)), .d (.str word)] ∧ Φ (.bl true)
theorem takesN0 {X : Cx} : L2N.Takes X (fun _ _ _ _ => False) := fun u s' x => by
  obtain ⟨_, _, _, _, _, _, _, _, _, _, _, _, _, _, _, _, z⟩ := x
  exact z.elim
def wTryIs (i : Nat) (aN : Addr) (PX : List S → (D → Prop) → (XD → Prop) → Prop) (ws : WA) : WS := fun c Φ l => i < l.length ∧ ws ⟨⟨fun _ => False, c.lk⟩, l⟩ fun ss => PX ss (fun _ => Φ.nx l) fun x => x = ⟨.ref aN, none⟩ ∧ Φ.rt (.bl true)
section
variable {X : Cx} {E : XK} {i j k n : Nat} {aN aGE f fi : Addr} {fd fdi : FuncData} {ps psi : List Str} {PX : List S → (D → Prop) → (XD → Prop) → Prop} {e : Expr} {es : List Expr} {tl : TA} {ws : WA} {x y z nn word : Str} {p p2 p3 p4 p5 p6 p7 np pos pos' : Pos} {jw : Bool}
def tsIs (i : Nat) (aN : Addr) (word : Str) (a : Addr) (cls : Value) (d : Option Addr) : TS := fun D σ H => (cls = .ref aN ∧ d = none) ∧ tRet (tCallS (spD 2 (P_is0 a word)) (fun _ => E0) (tCons (tVar i) (tCons (tC (.str word)) tNil))) D σ H
theorem abs_tryIs {Wout : WX} {ln : Nat} (hln : i < ln) (kE : PySem.W.exmOne X.K (.ref aN) (.ref aGE) = some true) (hn : (e :: es).length = n) (ha : AbsA E0 (e :: es).length tl ws) :
    AbsS E (tLen ln (fun D σ H => tDrop (tCallS (spX n PX) (fun σ => L2.WE (wAs X.K (.ref aGE) i (tsIs i aN word) Wout D) σ) tl) D σ H)) (wTryIs i aN PX ws) := fun δ M0 H0 c Φ D ok σ H l R h hsl => by
  obtain ⟨M, m, nb, Re⟩ := R.ex
  obtain ⟨hi, h⟩ := h
  refine ha δ M σ H ⟨⟨fun _ => False, c.lk⟩, l⟩ Re.calm0 _ _ h fun vs H1 ss e1 r1 l1 n1 h1 => ?_
  have R1 := Re.ext e1
  refine ⟨δ, M, ss, _, _, (Paired.length r1).trans (l1.trans hn), r1, n1, R1.okM, R1.okd, h1, fun v H2 d e2 r2 h2 => ok.nx σ H2 l (R.ext (e1.trans e2)) h2, fun cls d H2 fs e2 rx ⟨ex, hrt⟩ => ?_⟩
  cases ex
  have ed : d = none := rx
  subst ed
  refine ⟨true, kE, fun _ a ha => ⟨⟨rfl, rfl⟩, ?_⟩, fun z => nomatch z⟩
  have hl : i < σ.length := by omega
  refine ⟨.ref a, List.getElem?_set_self hl, ?_⟩
  refine ⟨none, [], [.d (.raw (.ref a)), .d (.str word)], fun d => d = .bl true, rfl, .cons (.d (.raw _)) (.cons (.d (.str _)) .nil), rfl, (fun b hb => nomatch hb), (fun a z => nomatch z), ⟨rfl, rfl⟩, fun v H3 d e3 r3 ed => ?_⟩
  subst ed
  cases r3
  exact ok.rt _ H3 _ (R.kd.ext ((e1.trans e2).trans (ext_none0 e3))) (.bl true) hrt
end
section
variable {Pr : Program} {w : World} {K : PySem.W.Frag} {mg : Str → Option Value} {base : Heap} {N : List Str} {q : Str} {sc : Scope} {ff : Addr} {cdv : Value} {A : Around} {outer : List PySem.Env} {s : Shared} {H : Hp} {E EC : XK} {i k n : Nat} {aN aGE f fi : Addr} {fd fdi : FuncData} {ps psi : List Str} {PX : List S → (D → Prop) → (XD → Prop) → Prop} {e : Expr} {es : List Expr} {tl : TA} {ws : WA} {x y z nn word : Str} {p p2 p3 p4 p5 p6 p7 p8 np pos pos' : Pos}
theorem ds_tryIs (hN : N.Nodup) (hi : N[i]? = some nn) (hln : ((cxOf CX0 Pr w K mg base N q sc ff cdv A outer s H E).nox).env.kindOf nn = some .local) (hc : Names ((cxOf CX0 Pr w K mg base N q sc ff cdv A outer s H E).nox) x (.ref aGE)) (kE : PySem.W.exmOne K (.ref aN) (.ref aGE) = some true)
    (F : FnOk Pr w K mg base (L2N.CX Pr w) k f fd ps (spX n PX)) (hr : Room k ((cxOf CX0 Pr w K mg base N q sc ff cdv A outer s H E).nox).A) (hr1 : 1 ≤ k) (hg : Gl ((cxOf CX0 Pr w K mg base N q sc ff cdv A outer s H E).nox) y) (hm : mg y = some (.ref f)) (hk : PySem.W.keepIn K (.ref f) = true) (hb : Binds K fd ps [])
    (ha : ∀ (pn : List (Addr × Obj)) (xe : Value → Shared → Prop), DA (((cxOf CX0 Pr w K mg base N q sc ff cdv A outer s H E).nox).tr pn xe) E0 (e :: es) tl ws)
    (FI : FnE Pr w K mg base CX0 1 fi fdi psi (fun p => L2N.Zn (.ref aN) none p.2) fun a => spD 2 (P_is0 a word)) (hgi : Gl ((cxOf CX0 Pr w K mg base N q sc ff cdv A outer s H E).nox) z) (mI : mg z = some (.ref fi)) (kI : PySem.W.keepIn K (.ref fi) = true) (bI : Binds K fdi psi [])
    (hn : (e :: es).length = n := by rfl) (hdb : (y == ("__debug__" : Str)) = false := by decide) (hdz : (z == ("__debug__" : Str)) = false := by decide)
    (he : ∀ (pn : List (Addr × Obj)) (xe : Value → Shared → Prop), starEach (e :: es) (((cxOf CX0 Pr w K mg base N q sc ff cdv A outer s H E).nox).tr pn xe).env = (false, eval e (((cxOf CX0 Pr w K mg base N q sc ff cdv A outer s H E).nox).tr pn xe).env) :: starEach es (((cxOf CX0 Pr w K mg base N q sc ff cdv A outer s H E).nox).tr pn xe).env := by intro _ _; rfl)
    (hpl : ∀ (pn : List (Addr × Obj)) (xe : Value → Shared → Prop), (backTo p2 (starEach es (((cxOf CX0 Pr w K mg base N q sc ff cdv A outer s H E).nox).tr pn xe).env)).any (·.1) = false := by intro _ _; rfl)
    (hsw : ∀ (pn : List (Addr × Obj)) (xe : Value → Shared → Prop), swapsWith (.Call (.Name y p) (e :: es) [] p2) none p3.line (((cxOf CX0 Pr w K mg base N q sc ff cdv A outer s H E).nox).tr pn xe).env = pure false := by intro _ _; rfl)
    (hvis : Vis ((cxOf CX0 Pr w K mg base N q sc ff cdv A outer s H E).nox).env.scope nn := by first | exact Or.inl rfl | exact Or.inr (Or.inl rfl) | exact Or.inr (Or.inr rfl)) (hdn : (nn == ("__debug__" : Str)) = false := by decide) (hdc : (nn == ("__classdict__" : Str)) = false := by decide) :
    DS ((cxOf CX0 Pr w K mg base N q sc ff cdv A outer s H E).nox) EC (.Try [.Expr (.Call (.Name y p) (e :: es) [] p2) p3] [.ExceptHandler (some (.Name x np)) (some nn) [.Return (some (.Call (.Name z p4) [.Name nn p5, .Constant (.str word) 0 p6] [] p7)) p8] pos'] [] [] pos)
      (tLen N.length (fun D σ H' => tDrop (tCallS (spX n PX) (fun σ => L2.WE (wAs K (.ref aGE) i (tsIs i aN word) (fun _ _ _ _ => False) D) σ) tl) D σ H')) (wTryIs i aN PX ws) := by
  refine ⟨ps_len (X := (cxOf CX0 Pr w K mg base N q sc ff cdv A outer s H E).nox) ?_, abs_tryIs (lt_of_at hi) (X := (cxOf CX0 Pr w K mg base N q sc ff cdv A outer s H E).nox) kE hn (ha [] (fun _ _ => True)).a⟩
  refine L2N.ps_try_as (i := i) (Wout := fun _ _ _ _ => False) (ts := tsIs i aN word) rfl rfl hN hi hln hc takesN0
      (fun W pn xe tk _ => pss_one (ps_expr (pe_callS F hr hg hm hk hb (fun σ => L2N.passAt tk σ) (ha pn xe).p hdb (he pn xe) (hpl pn xe)) (hsw pn xe)))
      (fun a oe cls d pn hz hf => pss_if0 fun hc => ?_)
  obtain ⟨rfl, rfl⟩ := hc
  obtain ⟨vs0, hv⟩ := hf
  refine pss_one (ps_ret ?_)
  have hx : ∀ σ, PassesAt CX0 (Cx.suite (cxOf CX0 Pr w K mg base N q sc ff cdv A outer s H E).nox a ((a, oe) :: pn)) σ E0 := fun σ _ _ _ _ _ _ c => False.elim c
  exact pe_callE (p := (a, oe)) (X := Cx.suite (cxOf CX0 Pr w K mg base N q sc ff cdv A outer s H E).nox a ((a, oe) :: pn)) (sp := fun a => spD 2 (P_is0 a word)) (E := fun _ => E0) FI ⟨(hr.mono hr1).dp, (hr.mono hr1).un⟩ ⟨rfl, vs0, hv, hz.2.2 vs0 hv⟩ hz List.mem_cons_self hgi mI kI bI hx (pa_cons (pe_var hi hvis hdn hdc) (pa_cons pe_str pa_nil)) hdz
end
end Dl

/-! weavings -/
namespace Gh
open PySem L2 Dl
variable [KOf]
def begM (g : Gt) : Stt := ⟨g.bs.map (·.1), g.hs.map fun _ => 0⟩
def stAt (g : Gt) (ws : List Int) : Nat → Stt
  | 0 => begM g
  | n + 1 => doneM g (stAt g ws n) ((ws[n]?).getD 0).toNat
def statesD (g : Gt) (ws : List Int) (n : Nat) : List D := (List.range (n + 1)).map fun k => dStt (stAt g ws k)
theorem statesD_zero (g : Gt) (ws : List Int) : statesD g ws 0 = [dStt (begM g)] := rfl
theorem statesD_succ (g : Gt) (ws : List Int) (n : Nat) : statesD g ws (n + 1) = statesD g ws n ++ [dStt (stAt g ws (n + 1))] := by
  unfold statesD
  rw [List.range_succ (n := n + 1), List.map_append]
  rfl
theorem statesD_len (g : Gt) (ws : List Int) (n : Nat) : (statesD g ws n).length = n + 1 := by
  unfold statesD
  rw [List.length_map, List.length_range]
theorem statesD_at (g : Gt) (ws : List Int) (n : Nat) : (statesD g ws n)[n]? = some (dStt (stAt g ws n)) := by
  unfold statesD
  rw [List.getElem?_map, List.getElem?_range (Nat.lt_succ_self n)]
  rfl
theorem begM_ok {g : Gt} (og : OkGate g) : OkStt g (begM g) := by
  refine ⟨by simp [begM], by simp [begM], fun i x b e1 e2 => ?_, fun i x h e1 e2 => ?_⟩
  · have e3 : (g.bs.map (·.1))[i]? = some x := e1
    rw [List.getElem?_map, e2] at e3
    have e4 : b.1 = x := Option.some.inj e3
    have := og.bs.2.2 b (List.mem_of_getElem? e2)
    obtain ⟨h1, h2, h3⟩ := this
    rw [← e4]
    exact ⟨h1, h2⟩
  · have e3 : (g.hs.map fun _ => (0 : Int))[i]? = some x := e1
    rw [List.getElem?_map, e2] at e3
    have e4 : (0 : Int) = x := Option.some.inj e3
    have := (og.hs h (List.mem_of_getElem? e2)).len2
    rw [← e4]
    exact ⟨Int.le_refl _, by omega⟩
theorem stAt_ok {g : Gt} {ws : List Int} (og : OkGate g) : ∀ n, OkStt g (stAt g ws n)
  | 0 => begM_ok og
  | n + 1 => doneM_ok og (stAt_ok og n)
theorem stAt_congr {g : Gt} {ws vs : List Int} : ∀ n, (∀ i < n, ws[i]? = vs[i]?) → stAt g ws n = stAt g vs n
  | 0, _ => rfl
  | n + 1, h => by
    show doneM g (stAt g ws n) _ = doneM g (stAt g vs n) _
    rw [stAt_congr n fun i hi => h i (Nat.lt_succ_of_lt hi), h n (Nat.lt_succ_self n)]
def Good (g : Gt) (ws : List Int) : Prop := ∀ w ∈ ws, 0 ≤ w ∧ w < g.hs.length
def P_played (ss : List S) (Φ : D → Prop) : Prop := ∃ (g : Gt) (ws : List Int), ss = [.d (dGate g), .d (.lst (ws.map .int))] ∧ OkGate g ∧ ws.length ≤ 10000 ∧ Good g ws ∧ Φ (.lst (statesD g ws ws.length))
def PP_playedF (C : Addr) (ss : List S) (Φ : List D → Prop) : Prop := ∃ (g : Gt) (ws : List Int), ss = [.d (dObj C g), .d (.lst (ws.map .int))] ∧ OkGate g ∧ ws.length ≤ 10000 ∧ Good g ws ∧ Φ (statesD g ws ws.length)
def PP_played (C aN : Addr) (ss : List S) (Φ : D → Prop) (Ψ : XD → Prop) : Prop := ∃ (g : Gt) (ws : List Int) (n : Nat) (w : Int), ss = [.d (dObj C g), .d (.lst (ws.map .int))] ∧ OkGate g ∧ ws.length ≤ 10000 ∧ ws[n]? = some w ∧ ¬ (0 ≤ w ∧ w < g.hs.length) ∧ w.natAbs ≤ 1000000000 ∧ (∀ i x, i < n → ws[i]? = some x → 0 ≤ x ∧ x < g.hs.length) ∧ Ψ ⟨.ref aN, none⟩
end Gh
namespace Gh
open PySem L2 Dl
variable [KOf]
theorem statesD_last (g : Gt) (ws : List Int) (n : Nat) : atI (statesD g ws n) (-1) = some (dStt (stAt g ws n)) := by
  have e : ixN (n + 1) (-1) = some n := by
    unfold ixN
    rw [if_neg (by omega), if_pos (by omega)]
    congr 1
    omega
  unfold atI
  rw [statesD_len, e]
  exact statesD_at g ws n
end Gh

/-! Dicts whose keys are nested tuples, over the layer. -/
namespace Dl
open PySem L2 PyProof.Rows
variable [KOf]
mutual
/-- a value as a key -/
inductive NK (K : PySem.W.Frag) (H : Hp) : V → NestedKey → Prop
  | non : NK K H .non .none
  | int (i : Int) : NK K H (.int i) (.num i)
  | str (x : Str) : NK K H (.str x) (.text x)
  | tup {a : Addr} {xs : List V} {ks : List NestedKey} : SqT K H a xs → NKs K H xs ks → NK K H (.ref a) (.tup ks)
inductive NKs (K : PySem.W.Frag) (H : Hp) : List V → List NestedKey → Prop
  | nil : NKs K H [] []
  | cons {v : V} {vs : List V} {k : NestedKey} {ks : List NestedKey} : NK K H v k → NKs K H vs ks → NKs K H (v :: vs) (k :: ks)
end
theorem keysOf_cons {d : D} {ds : List D} {ks : List NestedKey} (h : keysOf (d :: ds) = some ks) : ∃ k r, keyOf d = some k ∧ keysOf ds = some r ∧ ks = k :: r := by
  unfold keysOf at h
  cases e1 : keyOf d with
  | none => rw [e1] at h; cases h
  | some k =>
    cases e2 : keysOf ds with
    | none => rw [e1, e2] at h; cases h
    | some r => rw [e1, e2] at h; cases h; exact ⟨k, r, rfl, rfl, rfl⟩
theorem keysOf_of {d : D} {ds : List D} {k : NestedKey} {ks : List NestedKey} (h : keyOf d = some k) (h' : keysOf ds = some ks) : keysOf (d :: ds) = some (k :: ks) := by
  unfold keysOf
  rw [h, h']
section
variable {B : Addr → Prop} {H : Hp}
mutual
theorem Rep.nk : ∀ {v : V} {d : D} {k : NestedKey}, Rep B H v d → keyOf d = some k → NK KOf.K H v k
  | _, _, _, .non, h => by unfold keyOf at h; cases h; exact .non
  | _, _, _, .bl _, h => by unfold keyOf at h; cases h
  | _, _, _, .int i, h => by unfold keyOf at h; cases h; exact .int i
  | _, _, _, .str x, h => by unfold keyOf at h; cases h; exact .str x
  | _, _, _, .lst .., h => by unfold keyOf at h; cases h
  | _, _, _, .tup (ds := ds) s r, h => by
    unfold keyOf at h
    cases e : keysOf ds with
    | none => rw [e] at h; cases h
    | some ks => rw [e] at h; cases h; exact .tup s.sq (RepL.nk r e)
  | _, _, _, .obj .., h => by unfold keyOf at h; cases h
  | _, _, _, .dcI .., h => by unfold keyOf at h; cases h
  | _, _, _, .dcT .., h => by unfold keyOf at h; cases h
  | _, _, _, .raw _, h => by unfold keyOf at h; cases h
theorem RepL.nk : ∀ {vs : List V} {ds : List D} {ks : List NestedKey}, RepL B H vs ds → keysOf ds = some ks → NKs KOf.K H vs ks
  | _, _, _, .nil, h => by unfold keysOf at h; cases h; exact .nil
  | _, _, _, .cons r t, h => by
    obtain ⟨k, q, e1, e2, rfl⟩ := keysOf_cons h
    exact .cons (Rep.nk r e1) (RepL.nk t e2)
end
end
section
variable {X : Cx} {pins : List (Addr × Obj)} {σ : L2.St} {H : Hp} {s : Shared}
mutual
theorem NK.is (I : Inv X pins σ H s) : ∀ {v : V} {u : Value} {k : NestedKey}, NK X.K H v k → RelV v u → NestedIs s.heap k u
  | _, _, _, .non, r => by cases (show _ = Value.none from r); exact .none
  | _, _, _, .int i, r => by obtain ⟨t, e⟩ := (show ∃ t, _ = Value.int i t from r); subst e; exact .int i t
  | _, _, _, .str x, r => by obtain ⟨t, e⟩ := (show ∃ t, _ = Value.str x t from r); subst e; exact .text x t
  | _, _, _, .tup (a := a) h n, r => by
    cases (show _ = Value.ref a from r)
    obtain ⟨its, rr, ⟨o, ho, hc, m, hd⟩, _⟩ := I.tuple h
    exact .tup ho hc hd (by have := NKs.is I n rr; simpa using this)
theorem NKs.is (I : Inv X pins σ H s) : ∀ {vs : List V} {us : List Value} {ks : List NestedKey}, NKs X.K H vs ks → Vals vs us → NestedAll s.heap ks us
  | _, _, _, .nil, r => by cases r; exact .nil
  | _, _, _, .cons n t, r => by
    cases r with
    | cons r1 r2 => exact .cons (NK.is I n r1) (NKs.is I t r2)
end
mutual
theorem NK.inj (I : Inv X pins σ H s) : ∀ {v : V} {k k' : NestedKey}, NK X.K H v k → NK X.K H v k' → k = k'
  | _, _, _, .non, h => by cases h; rfl
  | _, _, _, .int i, h => by cases h; rfl
  | _, _, _, .str x, h => by cases h; rfl
  | _, _, _, .tup h n, h' => by
    cases h' with
    | tup g m =>
      have e := I.tuple_inj h g
      subst e
      rw [NKs.inj I n m]
theorem NKs.inj (I : Inv X pins σ H s) : ∀ {vs : List V} {ks ks' : List NestedKey}, NKs X.K H vs ks → NKs X.K H vs ks' → ks = ks'
  | _, _, _, .nil, h => by cases h; rfl
  | _, _, _, .cons n t, h => by
    cases h with
    | cons m u => rw [NK.inj I n m, NKs.inj I t u]
end
end
/-- a key and its place -/
structure NAt (K : PySem.W.Frag) (H : Hp) (y : V) (k : NestedKey) (b : Addr) : Prop where
  e : y = .ref b
  nk : NK K H y k
  dp : k.depth ≤ 8
/-- a dict whose keys are nested tuples -/
structure NDct (K : PySem.W.Frag) (H : Hp) (a : Addr) (xs : List (NestedKey × Addr × Value)) : Prop where
  at' : H a = some (dNO a xs)
  nd : (xs.map (·.1)).Nodup
  sm : (a == sysModules) = false
  sz : xs.length ≤ sizeLine
  ks : ∀ x ∈ xs, NK K H (.ref x.2.1) x.1 ∧ x.1.depth ≤ 8
section
variable {X : Cx} {pins : List (Addr × Obj)} {σ : L2.St} {H : Hp} {s : Shared} {a b : Addr} {xs : List (NestedKey × Addr × Value)} {k : NestedKey} {y v : V} {u r : Value} {A : Around} {E : Value → Shared → Prop}
theorem NDct.of (I : Inv X pins σ H s) (hP : X.prog = KOf.Pr) (hw : X.w = KOf.w) (d : NDct X.K H a xs) : s.heap.DictOfH (nestedKind X.prog X.w) a xs := by
  obtain ⟨o, es, ep, h1, h2, h3, h4⟩ := (I.hok a _ d.at').1
  exact ⟨o, es, ep, h1, h2, h3, by rw [hP, hw]; exact h4, fun x hx => ⟨NK.is I (d.ks x hx).1 rfl, (d.ks x hx).2⟩, d.nd⟩
theorem NAt.is (I : Inv X pins σ H s) (n : NAt X.K H y k b) (ry : RelV y u) : u = .ref b ∧ (nestedKind X.prog X.w).is s.heap k b := by
  obtain ⟨rfl, h, dp⟩ := n
  cases (show u = Value.ref b from ry)
  exact ⟨rfl, NK.is I h rfl, dp⟩
theorem room_in1 (hu : A.units + 64 < cLine) : (nestedKind X.prog X.w).room A.in1 := by
  show A.units + 1 + 8 < cLine
  omega
/-- d[y] -/
theorem n_getItem {p : Addr × Value} {Q : Value → Shared → Prop} (hP : X.prog = KOf.Pr) (hw : X.w = KOf.w) (hu : A.units + 64 < cLine) (I : Inv X pins σ H s) (d : NDct X.K H a xs) (n : NAt X.K H y k b) (ry : RelV y u) (hp : atKey xs k = some p) (h : ∀ s', Inv X pins σ H s' → Q p.2 s') :
    wpAny (model X.prog X.w) A (getItem (.ref a) u) Q E s := by
  obtain ⟨rfl, hk⟩ := n.is I ry
  exact wpAny_getItem_heap (room_in1 hu) hk (d.of I hP hw) hp (h _ (I.tok _))
theorem n_in {Q : Value → Shared → Prop} (hP : X.prog = KOf.Pr) (hw : X.w = KOf.w) (hu : A.units + 64 < cLine) (I : Inv X pins σ H s) (d : NDct X.K H a xs) (n : NAt X.K H y k b) (ry : RelV y u) (h : ∀ s', Inv X pins σ H s' → Q (.bool (atKey xs k).isSome) s') :
    wpAny (model X.prog X.w) A (compareOp .In u (.ref a)) Q E s := by
  obtain ⟨rfl, hk⟩ := n.is I ry
  exact wpAny_in_heap (room_in1 hu) hk d.sm (d.of I hP hw) (h _ (I.tok _))
theorem n_notIn {Q : Value → Shared → Prop} (hP : X.prog = KOf.Pr) (hw : X.w = KOf.w) (hu : A.units + 64 < cLine) (I : Inv X pins σ H s) (d : NDct X.K H a xs) (n : NAt X.K H y k b) (ry : RelV y u) (h : ∀ s', Inv X pins σ H s' → Q (.bool (!(atKey xs k).isSome)) s') :
    wpAny (model X.prog X.w) A (compareOp .NotIn u (.ref a)) Q E s := by
  obtain ⟨rfl, hk⟩ := n.is I ry
  exact wpAny_notIn_heap (room_in1 hu) hk d.sm (d.of I hP hw) (h _ (I.tok _))
theorem dNO_ok {P : Program} {w : World} {H' : Hp} {h' : Heap} {xs' : List (NestedKey × Addr × Value)} (hP : P = KOf.Pr) (hw : w = KOf.w) (dd : h'.DictOfH (nestedKind P w) a xs') : ObjOk P w H' h' a (dNO a xs') := by
  subst hP hw
  obtain ⟨o, es, ep, h1, h2, h3, h4, _⟩ := dd
  refine ⟨⟨o, es, ep, h1, h2, h3, h4⟩, ⟨o, h1⟩, fun g1 g2 ⟨o', es', ep', e1, e2, e3, e4⟩ k => ⟨o', es', ep', k _ e1, e2, e3, e4⟩⟩
/-- d[y] = v -/
theorem n_setItem {Q : Unit → Shared → Prop} (hP : X.prog = KOf.Pr) (hw : X.w = KOf.w) (hu : A.units + 64 < cLine) (I : Inv X pins σ H s) (d : NDct X.K H a xs) (n : NAt X.K H y k b) (ry : RelV y u)
    (h : ∀ s', Inv X pins σ (upd H a (dNO a (storedH xs k b r))) s' → Q () s') : wpAny (model X.prog X.w) A (setItem (.ref a) u r) Q E s := by
  obtain ⟨rfl, hk⟩ := n.is I ry
  refine wpAny_setItem_heap (hsz := d.sz) (room_in1 hu) hk (d.of I hP hw) fun h' dd' hs => h _ ?_
  have he : ∃ q, h'.get? a = some q := let ⟨q, _, _, hq, _⟩ := dd'; ⟨q, hq⟩
  exact d_write I (by rw [d.at']; exact True.intro) hs he (dNO_ok hP hw dd')
end

/-! ### readings and rules -/
def tNGet (K : PySem.W.Frag) (td ty : TE) : TE := fun σ H Q => td σ H fun x H1 => ty σ H1 fun y H2 => ∃ a xs k b p v, x = .ref a ∧ NDct K H2 a xs ∧ NAt K H2 y k b ∧ atKey xs k = some p ∧ RelV v p.2 ∧ Q v H2
def tNIn (K : PySem.W.Frag) (ty td : TE) : TE := fun σ H Q => ty σ H fun y H1 => td σ H1 fun x H2 => ∃ a xs k b, x = .ref a ∧ NDct K H2 a xs ∧ NAt K H2 y k b ∧ Q (.bl (atKey xs k).isSome) H2
def tNNotIn (K : PySem.W.Frag) (ty td : TE) : TE := fun σ H Q => ty σ H fun y H1 => td σ H1 fun x H2 => ∃ a xs k b, x = .ref a ∧ NDct K H2 a xs ∧ NAt K H2 y k b ∧ Q (.bl (!(atKey xs k).isSome)) H2
def sNPut (K : PySem.W.Frag) (td ty tv : TE) : TS := fun D σ H => tv σ H fun v H1 => td σ H1 fun x H2 => ty σ H2 fun y H3 => ∃ a xs k b, x = .ref a ∧ NDct K H3 a xs ∧ NAt K H3 y k b ∧ ∀ r, RelV v r → D.nx σ (upd H3 a (dNO a (storedH xs k b r)))
section
variable {X : Cx} {o i value : Expr} {pos pos' : Pos} {td ty tv : TE}
theorem pe_nget (hP : X.prog = KOf.Pr) (hw : X.w = KOf.w) (hu : X.A.units + 64 < cLine) (ho : PE X o td) (hi : PE X i ty) (hs : NoSl i) : PE X (.Subscript o i pos) (tNGet X.K td ty) := by
  refine ⟨fun pins s σ H Q I h => ?_⟩
  refine subD_of PySem.F.slot_dict_getitem.lookup hs (thn (ho.run pins s σ H _ I h) fun u s1 ⟨x, H1, I1, rx, q1⟩ => thn (hi.run pins s1 σ H1 _ I1 q1) fun iv s2 ⟨y, H2, I2, ry, a, xs, k, b, p, v, ex, d, n, hp, rv, q2⟩ => ?_)
  subst ex
  obtain rfl : u = Value.ref a := rx
  exact ⟨(d.of I2 hP hw).typeIs, n_getItem hP hw hu I2 d n ry hp fun s3 I3 => ⟨v, H2, I3, rv, q2⟩⟩
theorem pc_nin (hP : X.prog = KOf.Pr) (hw : X.w = KOf.w) (hu : X.A.units + 64 < cLine) (hi : PE X i ty) (ho : PE X o td) : PC X .In i o (tNIn X.K ty td) := by
  refine ⟨fun pins s σ H Q I h => ?_⟩
  refine thn (hi.run pins s σ H _ I h) fun iv s1 ⟨y, H1, I1, ry, q1⟩ => thn (ho.run pins s1 σ H1 _ I1 q1) fun u s2 ⟨x, H2, I2, rx, a, xs, k, b, ex, d, n, q2⟩ => ?_
  subst ex
  obtain rfl : u = Value.ref a := rx
  exact n_in hP hw hu I2 d n ry fun s3 I3 => ⟨.bl _, H2, I3, rfl, q2⟩
theorem pc_nnotin (hP : X.prog = KOf.Pr) (hw : X.w = KOf.w) (hu : X.A.units + 64 < cLine) (hi : PE X i ty) (ho : PE X o td) : PC X .NotIn i o (tNNotIn X.K ty td) := by
  refine ⟨fun pins s σ H Q I h => ?_⟩
  refine thn (hi.run pins s σ H _ I h) fun iv s1 ⟨y, H1, I1, ry, q1⟩ => thn (ho.run pins s1 σ H1 _ I1 q1) fun u s2 ⟨x, H2, I2, rx, a, xs, k, b, ex, d, n, q2⟩ => ?_
  subst ex
  obtain rfl : u = Value.ref a := rx
  exact n_notIn hP hw hu I2 d n ry fun s3 I3 => ⟨.bl _, H2, I3, rfl, q2⟩
theorem ps_nput (hP : X.prog = KOf.Pr) (hw : X.w = KOf.w) (hu : X.A.units + 64 < cLine) (ho : PE X o td) (hi : PE X i ty) (hv : PE X value tv) (hs : swapsWith value (some (.Subscript o i pos')) pos.line X.env = pure false) :
    PS X (.Assign [.Subscript o i pos'] value pos) (sNPut X.K td ty tv) := by
  refine ⟨fun pins s σ H D I h => ?_⟩
  refine wpAny_Assign_Subscript (thn (hv.run pins s σ H _ I h) fun r s1 ⟨v, H1, I1, rv, q1⟩ => thn (ho.run pins s1 σ H1 _ I1 q1) fun u s2 ⟨x, H2, I2, rx, q2⟩ => thn (hi.run pins s2 σ H2 _ I2 q2) fun iv s3 ⟨y, H3, I3, ry, a, xs, k, b, ex, d, n, q3⟩ => ?_) hs
  subst ex
  obtain rfl : u = Value.ref a := rx
  exact n_setItem hP hw hu I3 d n ry fun s4 I4 => ⟨σ, _, I4, q3 r rv⟩
/-- {}, to be such a dict -/
def tNNew : TE := fun _ H Q => ∀ p, H p = none → (p == sysModules) = false → Q (.ref p) (upd H p (dNO p []))
theorem pe_nnew (hP : X.prog = KOf.Pr) (hw : X.w = KOf.w) : PE X (.Dict [] [] pos) tNNew := ⟨fun pins s σ H Q I h =>
  wpAny_Dict_empty ⟨.ref s.heap.objs.size, _, I.laid (a := s.heap.objs.size) (o := dNO s.heap.objs.size []) (t' := s.toks) (fun _ _ q => Heap.get?_push_of_some _ q) (Nat.le_refl _) (dNO_ok hP hw (Heap.DictOfH.new s.heap)), rfl,
    h _ (I.hok.fresh (Nat.le_refl _)) (beq_eq_false_iff_ne.mpr (Ne.symm (Nat.ne_of_lt I.big)))⟩⟩
/-- {k: v} -/
def tNDisp1 (K : PySem.W.Frag) (tk tv : TE) : TE := fun σ H Q => ∀ p, H p = none → (p == sysModules) = false → tk σ (upd H p (dNO p [])) fun y H1 => tv σ H1 fun v H2 => H2 p = some (dNO p []) ∧ ∃ k b, NAt K H2 y k b ∧ ∀ r, RelV v r → Q (.ref p) (upd H2 p (dNO p [(k, b, r)]))
theorem pe_ndisp1 {k v : Expr} {tk tv : TE} (hP : X.prog = KOf.Pr) (hw : X.w = KOf.w) (hu : X.A.units + 64 < cLine) (hk : PE X k tk) (hv : PE X v tv) : PE X (.Dict [some k] [v] pos) (tNDisp1 X.K tk tv) := by
  refine ⟨fun pins s σ H Q I q => ?_⟩
  have hn := I.hok.fresh (Nat.le_refl s.heap.objs.size)
  have hsm : (s.heap.objs.size == sysModules) = false := beq_eq_false_iff_ne.mpr (Ne.symm (Nat.ne_of_lt I.big))
  have I1 := I.laid (a := s.heap.objs.size) (o := dNO s.heap.objs.size []) (h' := s.heap.push { cls := .type "dict", data := .dict #[] }) (t' := s.toks) (fun _ _ q => Heap.get?_push_of_some _ q) (Nat.le_refl _) (dNO_ok hP hw (Heap.DictOfH.new s.heap))
  have hz : (evalEachOpt [some k] X.env).zip ((evalEach [v] X.env).map fun t => do let x ← t; standAt pos; pure x) = (pairTrees [some k] [v] X.env pos).map fun p => (some p.1, p.2) := zip_pairTrees _ _ _ _ rfl rfl
  have hgo : wpAny (model X.prog X.w) X.A (subDict (pairTrees [some k] [v] X.env pos)) (fun d s' => ∃ x H', Inv X pins σ H' s' ∧ RelV x (Value.ref d) ∧ Q x H') X.xe s := by
    refine wpAny_subDictH (knd := nestedKind X.prog X.w) (show X.A.units + 8 < cLine by omega) (by simp [pairTrees]) ?_
    refine pairTrees_cons_walk (thn (hk.run pins _ σ _ _ I1 (q _ hn hsm)) fun u s1 ⟨y, H1, I1', ry, q1⟩ => thn (hv.run pins s1 σ H1 _ I1' q1) fun r s2 ⟨z, H2, I2, rz, e, kk, b, n, q2⟩ => pairTrees_nil_walk ?_)
    obtain ⟨rfl, his⟩ := n.is I2 ry
    have d2 : NDct X.K H2 s.heap.objs.size [] := ⟨e, List.nodup_nil, hsm, Nat.zero_le _, fun x hx => nomatch hx⟩
    refine ⟨[(kk, b, r)], ⟨rfl, rfl, his, trivial⟩, d2.of I2 hP hw, fun h' tk' dd hs => ⟨.ref s.heap.objs.size, _, ?_, rfl, q2 r rz⟩⟩
    have he : ∃ q, h'.get? s.heap.objs.size = some q := let ⟨q, _, _, hq, _⟩ := dd; ⟨q, hq⟩
    exact d_write I2 (by rw [e]; exact True.intro) hs he (dNO_ok hP hw dd)
  have hne : pairTrees [some k] [v] X.env pos ≠ [] := fun z => List.cons_ne_nil _ _ z
  have hlen : (pairTrees [some k] [v] X.env pos).length < 17 := by show 1 < 17; decide
  rw [arm_eval_Dict, hz, dictDisplay_pairs _ hne hlen]
  refine wpAny_bind (wpAny_standAt (wpAny_bind ?_))
  exact wpAny_mono hgo (fun d s' h => wpAny_pure h) fun _ _ e => e
end
end Dl

/-! Objects of one's own, by their places: lists, dicts. -/
namespace Dl
open PySem L2 PyProof.Rows
variable [KOf]
mutual
theorem keyOf_inj : ∀ {a b : D} {k : NestedKey}, keyOf a = some k → keyOf b = some k → a = b := by
  intro a b k h h'
  cases a <;> cases b <;> simp only [keyOf, reduceCtorEq, Option.some.injEq] at h h' <;> first | rfl | (subst h; cases h'; done) | (subst h; injection h' with e; subst e; rfl) | skip
  all_goals first
    | (subst h; simp only [Option.map_eq_some_iff] at h'; obtain ⟨_, _, z⟩ := h'; cases z; done)
    | (subst h'; simp only [Option.map_eq_some_iff] at h; obtain ⟨_, _, z⟩ := h; cases z; done)
    | skip
  rename_i xs ys
  simp only [Option.map_eq_some_iff] at h h'
  obtain ⟨ks, e1, rfl⟩ := h
  obtain ⟨ks', e2, e3⟩ := h'
  injection e3 with e3
  subst e3
  rw [keysOf_inj e1 e2]
theorem keysOf_inj : ∀ {a b : List D} {k : List NestedKey}, keysOf a = some k → keysOf b = some k → a = b := by
  intro a b k h h'
  cases a with
  | nil =>
    unfold keysOf at h
    cases h
    cases b with
    | nil => rfl
    | cons y b => obtain ⟨_, _, _, _, z⟩ := keysOf_cons h'; cases z
  | cons x a =>
    obtain ⟨k1, r1, e1, e2, rfl⟩ := keysOf_cons h
    cases b with
    | nil => unfold keysOf at h'; cases h'
    | cons y b =>
      obtain ⟨k2, r2, f1, f2, z⟩ := keysOf_cons h'
      injection z with z1 z2
      subst z1 z2
      rw [keyOf_inj e1 f1, keysOf_inj e2 f2]
end
theorem keysOf_len : ∀ {a : List D} {k : List NestedKey}, keysOf a = some k → a.length = k.length
  | [], _, h => by unfold keysOf at h; cases h; rfl
  | _ :: _, _, h => by
    obtain ⟨_, _, _, e2, rfl⟩ := keysOf_cons h
    rw [List.length_cons, List.length_cons, keysOf_len e2]
theorem keysOf_at : ∀ {a : List D} {k : List NestedKey} {i : Nat} {d : D}, keysOf a = some k → a[i]? = some d → ∃ n, k[i]? = some n ∧ keyOf d = some n
  | [], _, _, _, _, z => by cases z
  | x :: a, _, 0, d, h, z => by
    obtain ⟨k1, r1, e1, e2, rfl⟩ := keysOf_cons h
    cases z
    exact ⟨k1, rfl, e1⟩
  | x :: a, _, i + 1, d, h, z => by
    obtain ⟨k1, r1, e1, e2, rfl⟩ := keysOf_cons h
    exact keysOf_at (i := i) e2 z
theorem keysOf_app : ∀ {a b : List D} {k l : List NestedKey}, keysOf a = some k → keysOf b = some l → keysOf (a ++ b) = some (k ++ l)
  | [], _, _, _, h, h' => by unfold keysOf at h; cases h; exact h'
  | x :: a, _, _, _, h, h' => by
    obtain ⟨k1, r1, e1, e2, rfl⟩ := keysOf_cons h
    exact keysOf_of e1 (keysOf_app e2 h')
theorem keysOf_mem {a : List D} {k : List NestedKey} {d : D} {n : NestedKey} (h : keysOf a = some k) (e : keyOf d = some n) : d ∈ a ↔ n ∈ k := by
  constructor
  · intro hd
    obtain ⟨i, hi⟩ := List.getElem?_of_mem hd
    obtain ⟨m, h1, h2⟩ := keysOf_at h hi
    rw [e] at h2
    cases h2
    exact List.mem_of_getElem? h1
  · intro hn
    obtain ⟨i, hi⟩ := List.getElem?_of_mem hn
    have hl : i < a.length := by rw [keysOf_len h]; exact (List.getElem?_eq_some_iff.mp hi).1
    obtain ⟨m, h1, h2⟩ := keysOf_at h (List.getElem?_eq_getElem hl)
    rw [hi] at h1
    cases h1
    rw [keyOf_inj e h2]
    exact List.getElem_mem hl
/-- data that are a key -/
def KeyD (d : D) : Prop := ∃ xs ks, d = .tup xs ∧ keysOf xs = some ks ∧ (NestedKey.tup ks).depth ≤ 8
theorem KeyD.k {d : D} (h : KeyD d) : ∃ k, keyOf d = some k ∧ k.depth ≤ 8 := by
  obtain ⟨xs, ks, rfl, h1, h2⟩ := h
  exact ⟨.tup ks, by unfold keyOf; rw [h1]; rfl, h2⟩

/-! ### where an object stands -/
def At (l : Sl) (q : Addr) (j : Nat) (o : OC) : Prop := l[j]? = some (some (.obj q o)) ∨ l[j]? = some (some (.gh q o))
def upS (o : OC) : Option S → Option S
  | some (.obj p _) => some (.obj p o)
  | some (.gh p _) => some (.gh p o)
  | x => x
def upG : Sl → Nat → OC → Sl
  | [], _, _ => []
  | x :: r, 0, o => upS o x :: r
  | x :: r, j + 1, o => x :: upG r j o
theorem upG_obj : ∀ {l : Sl} {j : Nat} {q : Addr} {o0 : OC} (o : OC), l[j]? = some (some (.obj q o0)) → upG l j o = setS l j (.obj q o)
  | [], _, _, _, _, h => by cases h
  | x :: r, 0, q, o0, o, h => by cases h; rfl
  | x :: r, j + 1, q, o0, o, h => by
    show x :: upG r j o = x :: setS r j _
    rw [upG_obj (l := r) (j := j) o (by simpa using h)]
theorem upG_gh : ∀ {l : Sl} {j : Nat} {q : Addr} {o0 : OC} (o : OC), l[j]? = some (some (.gh q o0)) → upG l j o = setS l j (.gh q o)
  | [], _, _, _, _, h => by cases h
  | x :: r, 0, q, o0, o, h => by cases h; rfl
  | x :: r, j + 1, q, o0, o, h => by
    show x :: upG r j o = x :: setS r j _
    rw [upG_gh (l := r) (j := j) o (by simpa using h)]
section
variable {δ : Option Addr} {M M0 : List Addr} {H H0 H1 : Hp} {E : XK} {σ : L2.St} {c : Ct} {l : Sl} {q : Addr} {j : Nat} {o o0 : OC} {ρ : Env}
theorem RE.at' (R : RE δ M H E σ ρ) (h : At ρ.sl q j o) : q ∈ M ∧ δ ≠ some q ∧ RepO (Bn δ M) H q o := by
  rcases h with h | h
  · obtain ⟨v, _, r⟩ := R.rep _ _ h
    cases r with
    | obj m n r => exact ⟨m, n, r⟩
  · obtain ⟨v, _, r⟩ := R.rep _ _ h
    cases r with
    | gh m n r => exact ⟨m, n, r⟩
theorem RS.putG {h : HO} (R : RS δ M0 H0 E c σ H l) (hl : At l q j o0) (m : ∀ b, b ∈ M0 → b ∈ M) (n : ∀ b, b ∈ M → b ∈ M0 ∨ H0 b = none) (Re : RE δ M H E σ ⟨c, l⟩) (r : RepO (Bn δ M) (upd H q h) q o) : RS δ M0 H0 E c σ (upd H q h) (upG l j o) := by
  rcases hl with hl | hl
  · rw [upG_obj o hl]
    exact R.put hl rfl (by simp [S.put]) m n Re r
  · rw [upG_gh o hl]
    exact R.put hl rfl (by simp [S.put]) m n Re r
theorem RE.putG {h : HO} (hl : At l q j o0) (Re : RE δ M H E σ ⟨c, l⟩) (r : RepO (Bn δ M) (upd H q h) q o) : RE δ M (upd H q h) E σ ⟨c, upG l j o⟩ := by
  rcases hl with hl | hl
  · rw [upG_obj o hl]
    exact RE.put hl rfl (by simp [S.put]) Re r
  · rw [upG_gh o hl]
    exact RE.put hl rfl (by simp [S.put]) Re r
theorem rep_ref {B : Addr → Prop} {v w : V} (r : Rep B H v (.raw w)) : v = w := by cases r; rfl
end

section
variable {X : Cx} {E : XK} {e e2 o i value : Expr} {te te2 to ti tv : TE} {w w2 wo wk wv : WE} {pos pos' p : Pos} {x : Str}
/-- a name that holds an object of one's own, as a value -/
def wVarO (i : Nat) : WE := fun ρ Φ => match look ρ.sl i with
  | some (.obj p _) => Φ (.raw (.ref p))
  | _ => False
theorem de_varO (i : Nat) {x : Str} {pos : Pos} (hN : X.N[i]? = some x := by rfl) (hv : Vis X.env.scope x := by first | exact Or.inl rfl | exact Or.inr (Or.inl rfl) | exact Or.inr (Or.inr rfl)) (hd : (x == ("__debug__" : Str)) = false := by decide)
    (hcd : (x == ("__classdict__" : Str)) = false := by decide) : DE X E (.Name x pos) (tVar i) (wVarO i) := by
  refine ⟨pe_var hN hv hd hcd, fun δ M σ H ρ R Φ Q h k => ?_⟩
  unfold wVarO at h
  split at h
  · rename_i p o hl
    obtain ⟨e, _⟩ := R.own' hl
    exact ⟨_, e, k _ H _ (Ext.refl H) (.raw _) h⟩
  · exact h.elim
/-! ### lists -/
def wLenG (wo : WE) : WE := fun ρ Φ => wo ρ fun d => ∃ q j xs, d = .raw (.ref q) ∧ At ρ.sl q j (.lst xs) ∧ Φ (.int xs.length)
theorem de_lenG (hg : Gl X "len") (hm : X.mg "len" = none) (ho : DE X E o to wo) (hst : starEach [o] X.env = (false, eval o X.env) :: starEach [] X.env := by rfl) :
    DE X E (.Call (.Name "len" p) [o] [] pos) (tCB (fun xs H Q => ∃ p ys, xs = [.ref p] ∧ (SqL X.K H p ys ∨ SqT X.K H p ys) ∧ Q (.int ys.length) H) (tCons to tNil)) (wLenG wo) := by
  refine ⟨pe_callB call_len_seq hg hm PySem.boot_len (pa_cons ho.p pa_nil hst) (he := hst), fun δ M σ H ρ R Φ Q h k => ?_⟩
  refine ho.a δ M σ H ρ R _ _ h fun v H1 d e1 r1 h1 => ?_
  obtain ⟨q, j, xs, rfl, ha, h1⟩ := h1
  cases rep_ref r1
  obtain ⟨_, _, vs, hq, rl⟩ := (R.ext e1).at' ha
  exact ⟨q, vs, rfl, .inl (SqL.of hq), k _ H1 _ e1 (by rw [rl.length]; exact .int _) h1⟩
def wIxG (wo wk : WE) : WE := fun ρ Φ => wo ρ fun d => wk ρ fun f => ∃ q j xs k x, d = .raw (.ref q) ∧ f = .int k ∧ At ρ.sl q j (.lst xs) ∧ atI xs k = some x ∧ Φ x
theorem de_ixG (ho : DE X E o to wo) (hi : DE X E i ti wk) (hs : PlainIx i := by exact fun _ _ => rfl) (hK : X.K = KOf.K := by rfl) : DE X E (.Subscript o i pos) (tOp (rIxL KOf.K) to ti) (wIxG wo wk) := by
  refine ⟨pe_ix (hK ▸ ix_list) ho.p hi.p hs, fun δ M σ H ρ R Φ Q h k => ?_⟩
  refine ho.a δ M σ H ρ R _ _ h fun v H1 d e1 r1 h1 => ?_
  refine hi.a δ M σ H1 ρ (R.ext e1) _ _ h1 fun u H2 f e2 r2 h2 => ?_
  obtain ⟨q, j, xs, n, x, rfl, rfl, ha, hx, h2⟩ := h2
  cases rep_ref r1
  cases r2
  obtain ⟨_, _, vs, hq, rl⟩ := ((R.ext e1).ext e2).at' ha
  obtain ⟨y, ey, ry⟩ := rl.atI hx
  exact ⟨q, vs, n, y, rfl, rfl, SqL.of hq, ey, k y H2 x (e1.trans e2) ry h2⟩
def wAppG (wo w : WE) : WS := fun c Φ l => wo ⟨c, l⟩ fun d => ∃ q j xs, d = .raw (.ref q) ∧ At l q j (.lst xs) ∧ w ⟨c, l⟩ fun x => xs.length < 100000 ∧ Φ.nx (upG l j (.lst (xs ++ [x])))
theorem ds_appG {epos apos cpos : Pos} (ho : DE X E o to wo) (he : DE X E e te w) (hst : starEach (e :: []) X.env = (false, eval e X.env) :: starEach [] X.env := by rfl)
    (hbase : attributeBase o "append" X.env (eval o X.env) = eval o X.env := by rfl)
    (hfew : ((backTo cpos (starEach (e :: []) X.env)).all (fun x => !x.1) && (backToKw cpos (keywordEach [] X.env)).all (fun x => x.1.isSome)
      && decide ((e :: []).length + ([] : List Keyword).length + (if ([] : List Keyword).isEmpty then 0 else 1) < 30)) = true := by rfl)
    (hline : (apos.endLine == cpos.line) = true := by rfl) (hplain : (backTo cpos (starEach [] X.env)).any (·.1) = false := by rfl)
    (hs : swapsWith (.Call (.Attribute o "append" apos) [e] [] cpos) none epos.line X.env = pure false := by rfl) (hK : X.K = KOf.K := by rfl) :
    DS X E (.Expr (.Call (.Attribute o "append" apos) [e] [] cpos) epos) (tDrop (tBM KOf.K "list" rAppend to (tCons te tNil))) (wAppG wo w) := by
  refine ⟨hK ▸ ps_expr (pe_bm PySem.F.plainAttrs_list PySem.F.slot_list_append PySem.F.type_list_append mt_append ho.p (pa_cons he.p pa_nil hst) hbase hfew hline hst hplain) hs, fun δ M0 H0 c Φ D ok σ H l R h => ?_⟩
  obtain ⟨M, m, n, Re⟩ := R.ex
  refine ho.a δ M σ H ⟨c, l⟩ Re _ _ h fun v H1 d e1 r1 h1 => ?_
  obtain ⟨q, j, xs, rfl, ha, h1⟩ := h1
  cases rep_ref r1
  have Re1 := Re.ext e1
  obtain ⟨hm, nd, vs, hq, rl⟩ := Re1.at' ha
  refine ⟨.inl ⟨rfl, _, SqL.of hq⟩, ?_⟩
  refine he.a δ M σ H1 ⟨c, l⟩ Re1 _ _ h1 fun u H2 x e2 r2 h2 => ?_
  have hq2 := e2.1 _ _ hq nd
  exact ⟨q, vs, u, rfl, rfl, hq2, by rw [rl.length]; exact sz_lt h2.1, ok.nx _ _ _ (((R.ext e1).ext e2).putG (o := .lst (xs ++ [x])) ha m n (Re1.ext e2) ⟨_, upd_same, ((rl.keep e2.kept).app (.cons r2 .nil)).keep (Kept.put (.inr hm))⟩) h2.2⟩
/-- x = o.pop() -/
def wPopG (wo : WE) (g : WG) : WS := fun c Φ l => wo ⟨c, l⟩ fun d => ∃ q j xs x, d = .raw (.ref q) ∧ At l q j (.lst xs) ∧ xs[xs.length - 1]? = some x ∧ g x (upG l j (.lst xs.dropLast)) Φ.nx
theorem RepL.dropLast {B : Addr → Prop} {H : Hp} {vs : List V} {ds : List D} (r : RepL B H vs ds) : RepL B H vs.dropLast ds.dropLast := by
  rw [List.dropLast_eq_take, List.dropLast_eq_take, r.length]
  exact r.take _
theorem ds_popG {ix : List Nat} {tg : Expr} {g : TG} {wg : WG} {apos cpos : Pos} (ho : DE X E o to wo) (hg : DG X ix tg g wg) (hbase : attributeBase o "pop" X.env (eval o X.env) = eval o X.env := by rfl) (hline : (apos.endLine == cpos.line) = true := by rfl)
    (hs : swapsWithSole [tg] (.Call (.Attribute o "pop" apos) [] [] cpos) pos.line X.env = pure false := by rfl) (hw : swappedStores [tg] (.Call (.Attribute o "pop" apos) [] [] cpos) X.env = pure none := by rfl)
    (h1 : (assignEach [tg] X.env).map (·.2) = [assign tg X.env] := by rfl) (hK : X.K = KOf.K := by rfl) : DS X E (.Assign [tg] (.Call (.Attribute o "pop" apos) [] [] cpos) pos) (tAsg (tBM0 KOf.K "list" rPop to) g) (wPopG wo wg) := by
  refine ⟨hK ▸ ps_asg (pe_bm0 PySem.F.plainAttrs_list PySem.F.slot_list_pop PySem.F.type_list_pop mt_pop ho.p hbase hline) hg.p hs hw h1, fun δ M0 H0 c Φ D ok σ H l R h => ?_⟩
  obtain ⟨M, m, n, Re⟩ := R.ex
  refine ho.a δ M σ H ⟨c, l⟩ Re _ _ h fun v H1 d e1 r1 h1 => ?_
  obtain ⟨q, j, xs, x, rfl, ha, hx, h1⟩ := h1
  cases rep_ref r1
  have Re1 := Re.ext e1
  obtain ⟨hm, nd, vs, hq, rl⟩ := Re1.at' ha
  obtain ⟨y, hy, ry⟩ := rl.at hx
  refine ⟨.inl ⟨rfl, _, SqL.of hq⟩, q, vs, y, rfl, rfl, hq, by rw [rl.length]; exact hy, ?_⟩
  have kp : Kept (Bn δ M) H1 (upd H1 q (.lst vs.dropLast)) := Kept.put (.inr hm)
  have R2 := (R.ext e1).putG (h := .lst vs.dropLast) (o := .lst xs.dropLast) ha m n Re1 ⟨_, upd_same, rl.dropLast.keep kp⟩
  obtain ⟨M2, m2, n2, Re2⟩ := R2.ex
  have hM : RE δ M (upd H1 q (.lst vs.dropLast)) E σ ⟨c, upG l j (.lst xs.dropLast)⟩ := RE.putG ha Re1 ⟨_, upd_same, rl.dropLast.keep kp⟩
  exact hg.a E δ M σ _ c _ y x hM (ry.keep kp) _ _ h1 fun σ' l' R' _ n' h' => ok.nx σ' _ l' (R2.noNew m n R' n') h'
end
end Dl

/-! Dicts of one's own, and such that are plain data. -/
namespace Dl
open PySem L2 PyProof.Rows
variable [KOf]
/-! ### keys that are tuples -/
section
variable {B : Addr → Prop} {H : Hp} {q : Addr} {es : List (NestedKey × Addr × Value)} {ps : List Addr} {nks : List NestedKey} {vs : List V}
theorem NKs.at {K : PySem.W.Frag} : ∀ {vs : List V} {ks : List NestedKey} {i : Nat} {v : V} {k : NestedKey}, NKs K H vs ks → vs[i]? = some v → ks[i]? = some k → NK K H v k
  | _, _, _, _, _, .nil, e, _ => by cases e
  | _, _, 0, _, _, .cons n _, e, f => by cases e; cases f; exact n
  | _, _, i + 1, _, _, .cons _ t, e, f => NKs.at (i := i) t (by simpa using e) (by simpa using f)
theorem DctX.nd' (x : DctX q es ps nks vs) (h : H q = some (dNO q es)) {ks : List D} (hk : keysOf ks = some nks) (r : RepL B H (ps.map V.ref) ks) : NDct KOf.K H q es := by
  refine ⟨h, by rw [x.eks]; exact x.nd, x.sm, x.sz, fun e he => ?_⟩
  obtain ⟨i, hi⟩ := List.getElem?_of_mem he
  have h1 : nks[i]? = some e.1 := by rw [← x.eks, List.getElem?_map, hi]; rfl
  have h2 : (ps.map V.ref)[i]? = some (.ref e.2.1) := by rw [← x.eps, List.getElem?_map, List.getElem?_map, hi]; rfl
  exact ⟨(r.nk hk).at h2 h1, x.dp _ (List.mem_of_getElem? h1)⟩
theorem DctX.get (x : DctX q es ps nks vs) {i : Nat} {k : NestedKey} {v : V} (h1 : nks[i]? = some k) (h2 : vs[i]? = some v) : ∃ p, atKey es k = some p ∧ RelV v p.2 := by
  obtain ⟨u, e1, e2⟩ := x.evs.get h2
  rw [List.getElem?_map] at e1
  cases hi : es[i]? with
  | none => rw [hi] at e1; cases e1
  | some y =>
    rw [hi] at e1
    have h3 : (es.map (·.1))[i]? = some k := by rw [x.eks]; exact h1
    rw [List.getElem?_map, hi] at h3
    have e3 : y.1 = k := Option.some.inj h3
    have e4 : y.2.2 = u := Option.some.inj e1
    refine ⟨y.2, atKey_of_get (i := i) (by rw [x.eks]; exact x.nd) (by rw [hi, ← e3]), ?_⟩
    rw [e4]
    exact e2
theorem DctX.none (x : DctX q es ps nks vs) {k : NestedKey} (h : k ∉ nks) : atKey es k = none := atKey_none_of_get fun j p z => h (by
  rw [← x.eks]
  exact List.mem_map.mpr ⟨_, List.mem_of_getElem? z, rfl⟩)
theorem DctX.app (x : DctX q es ps nks vs) {k : NestedKey} {b : Addr} {r : Value} {v : V} (h : k ∉ nks) (hr : RelV v r) (hd : k.depth ≤ 8) (hz : es.length < sizeLine) : DctX q (storedH es k b r) (ps ++ [b]) (nks ++ [k]) (vs ++ [v]) := by
  rw [storedH_new (x.none h)]
  refine ⟨by rw [List.map_append, x.eks]; rfl, by rw [List.map_append, x.eps]; rfl, by rw [List.map_append]; exact x.evs.append (.cons hr .nil), ?_, x.sm, by rw [List.length_append]; exact hz, fun n hn => ?_⟩
  · exact List.nodup_append.mpr ⟨x.nd, by simp, fun a ha b hb e => by rw [List.mem_singleton.mp hb] at e; rw [e] at ha; exact h ha⟩
  · rcases List.mem_append.mp hn with z | z
    · exact x.dp n z
    · rw [List.mem_singleton.mp z]; exact hd
theorem DctX.set (x : DctX q es ps nks vs) {i : Nat} {k : NestedKey} {b : Addr} {r : Value} {v v0 : V} (h1 : nks[i]? = some k) (h2 : vs[i]? = some v0) (hr : RelV v r) : DctX q (storedH es k b r) ps nks (vs.set i v) := by
  obtain ⟨p, hp, _⟩ := x.get h1 h2
  rw [storedH_old hp]
  refine ⟨by rw [keys_map_putAt]; exact x.eks, ?_, ?_, x.nd, x.sm, by rw [List.length_map]; exact x.sz, x.dp⟩
  · rw [List.map_map, ← x.eps]
    refine List.map_congr_left fun y _ => ?_
    show (putAt k r y).2.1 = y.2.1
    unfold putAt
    split <;> rfl
  · have e : (es.map (putAt k r)).map (·.2.2) = (es.map (·.2.2)).set i r := by
      refine List.ext_getElem? fun j => ?_
      rw [List.map_map, List.getElem?_map, List.getElem?_set, List.length_map, List.getElem?_map]
      cases hj : es[j]? with
      | none =>
        have hl : es.length ≤ j := List.getElem?_eq_none_iff.mp hj
        by_cases hij : i = j
        · subst hij
          rw [if_pos rfl, if_neg (by omega)]
          rfl
        · rw [if_neg hij]; rfl
      | some y =>
        have hl : j < es.length := (List.getElem?_eq_some_iff.mp hj).1
        have hy : nks[j]? = some y.1 := by rw [← x.eks, List.getElem?_map, hj]; rfl
        by_cases hij : i = j
        · subst hij
          rw [if_pos rfl, if_pos hl]
          have : y.1 = k := by rw [h1] at hy; exact (Option.some.inj hy).symm
          show some (putAt k r y).2.2 = some r
          unfold putAt
          rw [if_pos this]
        · rw [if_neg hij]
          have : ¬ y.1 = k := fun z => hij ((List.getElem?_inj (List.getElem?_eq_some_iff.mp h1).1 x.nd).mp (by rw [h1, hy, z]))
          show some (putAt k r y).2.2 = some y.2.2
          unfold putAt
          rw [if_neg this]
    rw [e]
    exact x.evs.set hr i
end
section
variable {X : Cx} {E : XK} {e o i value : Expr} {te to ti tv : TE} {w wo wk wv : WE} {pos pos' p : Pos} {x : Str}
/-- what a dict of tuple keys holds: one of one's own, or plain data -/
def DvT (l : Sl) (d : D) (ks xs : List D) : Prop := d = .dcT ks xs ∨ ∃ q j, d = .raw (.ref q) ∧ At l q j (.dT ks xs)
theorem DvT.of {δ : Option Addr} {M : List Addr} {H : Hp} {σ : L2.St} {ρ : Env} {v : V} {d : D} {ks xs : List D} (h : DvT ρ.sl d ks xs) (R : RE δ M H E σ ρ) (r : Rep (Bn δ M) H v d) :
    ∃ q es ps nks vs, v = .ref q ∧ H q = some (dNO q es) ∧ DctX q es ps nks vs ∧ keysOf ks = some nks ∧ RepL (Bn δ M) H (ps.map V.ref) ks ∧ RepL (Bn δ M) H vs xs := by
  rcases h with rfl | ⟨q, j, rfl, ha⟩
  · cases r with
    | dcT n h e r1 r2 =>
      obtain ⟨es, h1, h2⟩ := h
      exact ⟨_, es, _, _, _, rfl, h1, h2, e, r1, r2⟩
  · cases rep_ref r
    obtain ⟨_, _, ps, nks, vs, ⟨es, h1, h2⟩, e, r1, r2⟩ := R.at' ha
    exact ⟨_, es, _, _, _, rfl, h1, h2, e, r1, r2⟩
theorem KeyD.at {B : Addr → Prop} {H : Hp} {y : V} {d : D} (h : KeyD d) (r : Rep B H y d) : ∃ k b, keyOf d = some k ∧ NAt KOf.K H y k b := by
  obtain ⟨xs, ks, rfl, h1, h2⟩ := h
  have e : keyOf (.tup xs) = some (.tup ks) := by unfold keyOf; rw [h1]; rfl
  have n := r.nk e
  cases r with
  | tup s rl => exact ⟨.tup ks, _, e, rfl, n, h2⟩
structure KX (X : Cx) : Prop where
  K : X.K = KOf.K := by rfl
  P : X.prog = KOf.Pr := by rfl
  w : X.w = KOf.w := by rfl
def wGetT (wo wk : WE) : WE := fun ρ Φ => wo ρ fun d => wk ρ fun f => ∃ ks xs : List D, DvT ρ.sl d ks xs ∧ KeyD f ∧ ∃ (i : Nat) (x : D), ks[i]? = some f ∧ xs[i]? = some x ∧ Φ x
theorem de_getT (hu : X.A.units + 64 < cLine) (ho : DE X E o to wo) (hi : DE X E i ti wk) (hs : NoSl i := by exact fun _ _ => rfl) (k : KX X := by exact {}) : DE X E (.Subscript o i pos) (tNGet KOf.K to ti) (wGetT wo wk) := by
  refine ⟨k.K ▸ pe_nget k.P k.w hu ho.p hi.p hs, fun δ M σ H ρ R Φ Q h kk => ?_⟩
  refine ho.a δ M σ H ρ R _ _ h fun v H1 d e1 r1 h1 => ?_
  refine hi.a δ M σ H1 ρ (R.ext e1) _ _ h1 fun u H2 f e2 r2 h2 => ?_
  obtain ⟨ks, xs, hd, hk, n, x, h3, h4, h5⟩ := h2
  obtain ⟨q, es, ps, nks, vs, rfl, hq, dx, ek, rk, rv⟩ := hd.of ((R.ext e1).ext e2) (r1.keep e2.kept)
  obtain ⟨key, b, e3, na⟩ := hk.at r2
  obtain ⟨m, g1, g2⟩ := keysOf_at ek h3
  rw [e3] at g2
  cases g2
  obtain ⟨y, hy, ry⟩ := rv.at h4
  obtain ⟨pr, hp, hr⟩ := dx.get g1 hy
  exact ⟨q, es, key, b, pr, y, rfl, dx.nd' hq ek rk, na, hp, hr, kk y H2 x (e1.trans e2) ry h5⟩
/-- k in d, k not in d -/
def wInT (neg : Bool) (wk wo : WE) : WE := fun ρ Φ => wk ρ fun f => wo ρ fun d => ∃ ks xs, DvT ρ.sl d ks xs ∧ KeyD f ∧ (f ∈ ks → Φ (.bl (!neg))) ∧ (f ∉ ks → Φ (.bl neg))
theorem atKey_in {q : Addr} {es : List (NestedKey × Addr × Value)} {ps : List Addr} {nks : List NestedKey} {vs : List V} {ks : List D} {f : D} {key : NestedKey} (dx : DctX q es ps nks vs) (ek : keysOf ks = some nks) (e3 : keyOf f = some key) : (f ∈ ks ∧ (atKey es key).isSome = true) ∨ (f ∉ ks ∧ (atKey es key).isSome = false) := by
  by_cases hm : f ∈ ks
  · refine .inl ⟨hm, ?_⟩
    obtain ⟨i, hi⟩ := List.getElem?_of_mem ((keysOf_mem ek e3).mp hm)
    have hl : i < vs.length := by
      have h1 := dx.evs.length
      have h2 := congrArg List.length dx.eks
      rw [List.length_map] at h1 h2
      have h3 := (List.getElem?_eq_some_iff.mp hi).1
      omega
    obtain ⟨p, hp, _⟩ := dx.get hi (List.getElem?_eq_getElem hl)
    rw [hp]; rfl
  · refine .inr ⟨hm, ?_⟩
    rw [dx.none (fun z => hm ((keysOf_mem ek e3).mpr z))]
    rfl
theorem abs_inT {neg : Bool} (hi : AbsE E ti wk) (ho : AbsE E to wo) {t : TE} (ht : t = if neg then tNNotIn KOf.K ti to else tNIn KOf.K ti to) : AbsE E t (wInT neg wk wo) := fun δ M σ H ρ R Φ Q h kk => by
  have go : ti σ H fun y H1 => to σ H1 fun x H2 => ∃ a xs k b, x = .ref a ∧ NDct KOf.K H2 a xs ∧ NAt KOf.K H2 y k b ∧ Q (.bl (if neg then !(atKey xs k).isSome else (atKey xs k).isSome)) H2 := by
    refine hi δ M σ H ρ R _ _ h fun u H1 f e1 r1 h1 => ?_
    refine ho δ M σ H1 ρ (R.ext e1) _ _ h1 fun v H2 d e2 r2 h2 => ?_
    obtain ⟨ks, xs, hd, hk, h3, h4⟩ := h2
    obtain ⟨q, es, ps, nks, vs, rfl, hq, dx, ek, rk, rv⟩ := hd.of ((R.ext e1).ext e2) r2
    obtain ⟨key, b, e3, na⟩ := hk.at (r1.keep e2.kept)
    refine ⟨q, es, key, b, rfl, dx.nd' hq ek rk, na, ?_⟩
    rcases atKey_in dx ek e3 with ⟨hm, e⟩ | ⟨hm, e⟩
    · rw [e]
      have : (if neg then !true else true) = !neg := by cases neg <;> rfl
      rw [this]
      exact kk _ H2 _ (e1.trans e2) (.bl _) (h3 hm)
    · rw [e]
      have : (if neg then !false else false) = neg := by cases neg <;> rfl
      rw [this]
      exact kk _ H2 _ (e1.trans e2) (.bl _) (h4 hm)
  cases neg with
  | true => rw [ht]; exact go
  | false => rw [ht]; exact go
theorem de_inT (hu : X.A.units + 64 < cLine) (hi : DE X E i ti wk) (ho : DE X E o to wo) (hb : behindInMarks .In o = false := by rfl) (k : KX X := by exact {}) : DE X E (.Compare i [.In] [o] pos) (tNIn KOf.K ti to) (wInT false wk wo) :=
  ⟨pe_cmp (k.K ▸ pc_nin k.P k.w hu hi.p ho.p) hb, abs_inT hi.a ho.a (by rfl)⟩
theorem de_notInT (hu : X.A.units + 64 < cLine) (hi : DE X E i ti wk) (ho : DE X E o to wo) (hb : behindInMarks .NotIn o = false := by rfl) (k : KX X := by exact {}) : DE X E (.Compare i [.NotIn] [o] pos) (tNNotIn KOf.K ti to) (wInT true wk wo) :=
  ⟨pe_cmp (k.K ▸ pc_nnotin k.P k.w hu hi.p ho.p) hb, abs_inT hi.a ho.a (by rfl)⟩
theorem abs_test {t : TE} {w : WE} (h : AbsE E t w) : AbsT E (tB t) (wTest w) := fun δ M σ H ρ R Φ Q hw k => by
  refine h δ M σ H ρ R _ _ hw fun v H' d e r h' => ?_
  cases r <;> first | exact False.elim h' | exact ⟨_, rfl, k _ H' e h'⟩
theorem dt_inT (hu : X.A.units + 64 < cLine) (hi : DE X E i ti wk) (ho : DE X E o to wo) (hb : behindInMarks .In o = false := by rfl) (k : KX X := by exact {}) : DT X E (.Compare i [.In] [o] pos) (tB (tNIn KOf.K ti to)) (wTest (wInT false wk wo)) :=
  ⟨pt_cmp (k.K ▸ pc_nin k.P k.w hu hi.p ho.p) hb, abs_test (abs_inT hi.a ho.a (by rfl))⟩
theorem dt_notInT (hu : X.A.units + 64 < cLine) (hi : DE X E i ti wk) (ho : DE X E o to wo) (hb : behindInMarks .NotIn o = false := by rfl) (k : KX X := by exact {}) : DT X E (.Compare i [.NotIn] [o] pos) (tB (tNNotIn KOf.K ti to)) (wTest (wInT true wk wo)) :=
  ⟨pt_cmp (k.K ▸ pc_nnotin k.P k.w hu hi.p ho.p) hb, abs_test (abs_inT hi.a ho.a (by rfl))⟩
/-- d[k] = v -/
def wPutT (wv wo wk : WE) : WS := fun c Φ l => wv ⟨c, l⟩ fun x => wo ⟨c, l⟩ fun d => wk ⟨c, l⟩ fun f => ∃ q j ks xs, d = .raw (.ref q) ∧ At l q j (.dT ks xs) ∧ KeyD f ∧ ks.length < 100000 ∧
  (f ∉ ks → Φ.nx (upG l j (.dT (ks ++ [f]) (xs ++ [x])))) ∧ ∀ i, ks[i]? = some f → Φ.nx (upG l j (.dT ks (xs.set i x)))
theorem ds_putT (hu : X.A.units + 64 < cLine) (hv : DE X E value tv wv) (ho : DE X E o to wo) (hi : DE X E i ti wk) (hs : swapsWith value (some (.Subscript o i pos')) pos.line X.env = pure false := by rfl) (k : KX X := by exact {}) :
    DS X E (.Assign [.Subscript o i pos'] value pos) (sNPut KOf.K to ti tv) (wPutT wv wo wk) := by
  refine ⟨k.K ▸ ps_nput k.P k.w hu ho.p hi.p hv.p hs, fun δ M0 H0 c Φ D ok σ H l R h => ?_⟩
  obtain ⟨M, m, n, Re⟩ := R.ex
  refine hv.a δ M σ H ⟨c, l⟩ Re _ _ h fun v H1 x e1 r1 h1 => ?_
  have Re1 := Re.ext e1
  refine ho.a δ M σ H1 ⟨c, l⟩ Re1 _ _ h1 fun u H2 d e2 r2 h2 => ?_
  have Re2 := Re1.ext e2
  refine hi.a δ M σ H2 ⟨c, l⟩ Re2 _ _ h2 fun y H3 f e3 r3 h3 => ?_
  have Re3 := Re2.ext e3
  obtain ⟨q, j, ks, xs, rfl, ha, hk, hl, h4, h5⟩ := h3
  cases rep_ref r2
  obtain ⟨hm, nd, ps, nks, vs, ⟨es, hq, dx⟩, ek, rk, rv⟩ := Re3.at' ha
  obtain ⟨key, b, e4, na⟩ := hk.at r3
  obtain ⟨kk, ekk, hdp⟩ := hk.k
  rw [e4] at ekk
  cases ekk
  refine ⟨q, es, key, b, rfl, dx.nd' hq ek rk, na, fun r hr => ?_⟩
  have kp : ∀ z, Kept (Bn δ M) H3 (upd H3 q z) := fun z => Kept.put (.inr hm)
  have e123 := (e1.trans e2).trans e3
  have rx := r1.keep (e2.trans e3).kept
  have lk : nks.length = ks.length := (keysOf_len ek).symm
  by_cases hmem : f ∈ ks
  · obtain ⟨i0, hi0⟩ := List.getElem?_of_mem hmem
    obtain ⟨nn, g1, g2⟩ := keysOf_at ek hi0
    rw [e4] at g2
    cases g2
    have hlv : i0 < vs.length := by
      have h1 := dx.evs.length
      have h2 := congrArg List.length dx.eks
      rw [List.length_map] at h1 h2
      have h3 := (List.getElem?_eq_some_iff.mp g1).1
      omega
    exact ok.nx _ _ _ ((R.ext e123).putG (o := .dT ks (xs.set i0 x)) ha m n Re3 ⟨ps, nks, vs.set i0 v, ⟨_, upd_same, dx.set g1 (List.getElem?_eq_getElem hlv) hr⟩, ek, rk.keep (kp _), (rv.set rx i0).keep (kp _)⟩) (h5 i0 hi0)
  · have hn : key ∉ nks := fun z => hmem ((keysOf_mem ek e4).mpr z)
    have hz : es.length < sizeLine := by
      have h2 := congrArg List.length dx.eks
      rw [List.length_map] at h2
      have := sz_lt hl
      omega
    have hb : y = .ref b := na.e
    refine ok.nx _ _ _ ((R.ext e123).putG (o := .dT (ks ++ [f]) (xs ++ [x])) ha m n Re3 ⟨ps ++ [b], nks ++ [key], vs ++ [v], ⟨_, upd_same, dx.app hn hr hdp hz⟩, keysOf_app ek (keysOf_of e4 rfl), ?_, (rv.app (.cons rx .nil)).keep (kp _)⟩) (h4 hmem)
    rw [List.map_append]
    exact (rk.app (.cons (by rw [← hb]; exact r3) .nil)).keep (kp _)
/-- {} -/
def wNewT : Env → (OC → Prop) → Prop := fun _ Φ => Φ (.dT [] [])
theorem dct_nil {p : Addr} (h : (p == sysModules) = false) : DctX p [] [] [] [] := ⟨rfl, rfl, .nil, List.nodup_nil, h, Nat.zero_le _, fun _ z => nomatch z⟩
theorem do_newT (k : KX X := by exact {}) : DO1 X E (.Dict [] [] pos) tNNew wNewT :=
  ⟨pe_nnew k.P k.w, fun δ M σ H ρ R Φ Q h kk p hp hsm => kk p _ (.dT [] []) hp (Ext.new hp) ⟨[], [], [], ⟨[], upd_same, dct_nil hsm⟩, rfl, .nil, .nil⟩ h⟩
/-- {k: v} -/
def wDisp1T (wk wv : WE) : Env → (OC → Prop) → Prop := fun ρ Φ => wk ρ fun f => KeyD f ∧ wv ρ fun x => Φ (.dT [f] [x])
theorem do_disp1T {kx v : Expr} {tk tv : TE} {wk wv : WE} (hu : X.A.units + 64 < cLine) (hk : DE X E kx tk wk) (hv : DE X E v tv wv) (k : KX X := by exact {}) : DO1 X E (.Dict [some kx] [v] pos) (tNDisp1 KOf.K tk tv) (wDisp1T wk wv) := by
  refine ⟨k.K ▸ pe_ndisp1 k.P k.w hu hk.p hv.p, fun δ M σ H ρ R Φ Q h kk p hp hsm => ?_⟩
  have R0 : RE δ (p :: M) (upd H p (dNO p [])) E σ ρ := R.wide hp (Ext.new hp) (by rw [upd_same]; exact fun z => nomatch z)
  refine hk.a δ (p :: M) σ _ ρ R0 _ _ h fun y H1 f e1 r1 h1 => ?_
  obtain ⟨hK, h1⟩ := h1
  refine hv.a δ (p :: M) σ H1 ρ (R0.ext e1) _ _ h1 fun v H2 x e2 r2 h2 => ?_
  have ndl : δ ≠ some p := fun z => by
    obtain ⟨ns, q, _⟩ := R.okd p z
    rw [hp] at q; cases q
  have e12 := e1.trans e2
  have hq : H2 p = some (dNO p []) := e12.1 _ _ upd_same ndl
  have r1' := r1.keep e2.kept
  obtain ⟨key, b, e4, na⟩ := hK.at r1'
  obtain ⟨kk', ekk, hdp⟩ := hK.k
  rw [e4] at ekk
  cases ekk
  refine ⟨hq, key, b, na, fun r hr => ?_⟩
  have hb : y = .ref b := na.e
  have kp : Kept (Bn δ (p :: M)) H2 (upd H2 p (dNO p [(key, b, r)])) := Kept.put (.inr List.mem_cons_self)
  refine kk p _ (.dT [f] [x]) hp ⟨?_, ?_⟩ ⟨[b], [key], [v], ⟨[(key, b, r)], upd_same, ⟨rfl, rfl, .cons hr .nil, by simp, hsm, by show 1 ≤ sizeLine; decide, fun n hn => by rw [List.mem_singleton.mp hn]; exact hdp⟩⟩, keysOf_of e4 rfl, ?_, ?_⟩ h2
  · exact (((Ext.new (δ := δ) hp).trans e12).1.putNew hp)
  · exact fun a ha dd => by
      obtain ⟨ns, e, l⟩ := ((Ext.new (δ := δ) (o := dNO p []) hp).trans e12).2 a ha dd
      exact ⟨ns, by rw [upd_ne (fun z => ndl (by rw [← z]; exact ha))]; exact e, l⟩
  · exact (RepL.cons (by rw [← hb]; exact r1') .nil).keep kp
  · exact (RepL.cons r2 .nil).keep kp
end
end Dl

/-! Instances of one's own, defs that write into what they are handed, what is told at a def's end. -/
namespace Dl
open PySem L2 PyProof.Rows
variable [KOf]
theorem snoc_at {α : Type} {l : List α} {x y : α} {k : Nat} (h : (l ++ [x])[k]? = some y) : l[k]? = some y ∨ (k = l.length ∧ y = x) := by
  rcases Nat.lt_or_ge k l.length with q | q
  · rw [List.getElem?_append_left q] at h
    exact .inl h
  · rw [List.getElem?_append_right q] at h
    rcases Nat.eq_or_lt_of_le q with z | z
    · rw [← z, Nat.sub_self] at h
      exact .inr ⟨z.symm, (Option.some.inj h).symm⟩
    · rw [List.getElem?_eq_none (by simp; omega)] at h
      cases h
section
variable {δ : Option Addr} {M M0 : List Addr} {H H0 H1 : Hp} {E : XK} {σ : L2.St} {c : Ct} {l : Sl} {p : Addr} {o : OC}
/-- a new object, told of behind the slots -/
theorem RE.newGh (Re : RE δ M H E σ ⟨c, l⟩) (hp : H p = none) (e1 : Ext δ H H1) (ro : RepO (Bn δ (p :: M)) H1 p o) : RE δ (p :: M) H1 E σ ⟨c, l ++ [some (.gh p o)]⟩ := by
  have R2 := Re.wide hp e1 ro.there
  have ndl : δ ≠ some p := fun z => by
    obtain ⟨ns, q, _⟩ := Re.okd p z
    rw [hp] at q; cases q
  refine ⟨?_, fun k s z => ?_, fun j j' q s t z z' e e' => ?_, R2.okM, R2.okd, ?_⟩
  · show σ.length ≤ (l ++ [_]).length
    rw [List.length_append]
    exact Nat.le_trans R2.len (Nat.le_add_right _ _)
  · rcases snoc_at z with z | ⟨_, z⟩
    · exact R2.rep k s z
    · cases z
      exact ⟨.ref p, fun y => (nomatch y), .gh List.mem_cons_self ndl ro⟩
  · rcases snoc_at z with z | ⟨k1, z⟩ <;> rcases snoc_at z' with z' | ⟨k2, z'⟩
    · exact R2.one j j' q s t z z' e e'
    · cases z'
      cases e'
      exact absurd e (Re.adr_free hp z)
    · cases z
      cases e
      exact absurd e' (Re.adr_free hp z')
    · exact k1.trans k2.symm
  · obtain ⟨He, Me, a, mm, b, q⟩ := Re.en
    refine ⟨He, Me, a.trans e1, fun b hb => ⟨List.mem_cons_of_mem _ (mm b hb).1, (mm b hb).2⟩, fun j q t z e => ?_, q⟩
    rcases snoc_at z with z | ⟨_, z⟩
    · exact b j q t z e
    · cases z
      cases e
      exact a.none_of (H1 := H1) ndl hp
theorem RS.newGh (R : RS δ M0 H0 E c σ H l) (m : ∀ b, b ∈ M0 → b ∈ M) (n : ∀ b, b ∈ M → b ∈ M0 ∨ H0 b = none) (Re : RE δ M H E σ ⟨c, l⟩) (hp : H p = none) (e1 : Ext δ H H1) (ro : RepO (Bn δ (p :: M)) H1 p o) :
    RS δ M0 H0 E c σ H1 (l ++ [some (.gh p o)]) ∧ ¬ c.lk p ∧ (∀ b, b ∈ p :: M → b ∈ M0 ∨ H0 b = none) := by
  obtain ⟨ndl, nlk, h0p⟩ := R.fresh hp
  have hn : ∀ b, b ∈ p :: M → b ∈ M0 ∨ H0 b = none := fun b hb => by
    rcases List.mem_cons.mp hb with z | z
    · exact .inr (by rw [z]; exact h0p)
    · exact n b z
  refine ⟨⟨⟨p :: M, fun b hb => List.mem_cons_of_mem _ (m b hb), hn, Re.newGh hp e1 ro⟩, R.kd.ext e1, R.d0, fun j q t z e => ?_, R.wm, R.m0⟩, nlk, hn⟩
  rcases snoc_at z with z | ⟨_, z⟩
  · exact R.wr j q t z e
  · cases z
    cases e
    exact .inr h0p
end
section
variable {X : Cx} {E : XK} {e o value : Expr} {te to tv : TE} {w wo wv : WE} {pos pos' p : Pos}
/-! ### fields of an instance of one's own -/
def wFldG (C : Addr) (f : Str) (wo : WE) : WE := fun ρ Φ => wo ρ fun d => ∃ q j dx ns xs x, d = .raw (.ref q) ∧ At ρ.sl q j (.ins C dx ns xs) ∧ (ns.zip xs).lookup f = some x ∧ Φ x
theorem de_fldG {C : Addr} {f : Str} (K : PySem.W.Frag) (c : Cls K C) (nA : NoAttr K C f) (ho : DE X E o to wo) (hb : attributeBase o f X.env (eval o X.env) = eval o X.env := by rfl) (hK : X.K = K := by rfl) : DE X E (.Attribute o f pos) (tFld K to f) (wFldG C f wo) := by
  subst hK
  refine ⟨pe_fld ho.p hb, fun δ M σ H ρ R Φ Q h k => ?_⟩
  refine ho.a δ M σ H ρ R _ _ h fun v H1 d e1 r1 h1 => ?_
  obtain ⟨q, j, dx, ns, xs, x, rfl, ha, hx, h1⟩ := h1
  cases rep_ref r1
  obtain ⟨_, _, vs, hq, hl, rl⟩ := (R.ext e1).at' ha
  obtain ⟨u, hu, ru⟩ := rl.field hx
  exact ⟨q, _, dx, _, u, rfl, hq, c, nA, hu, k u H1 x e1 ru h1⟩
theorem insF {B : Addr → Prop} {H : Hp} {q C dx : Addr} {ns : List Str} {xs : List D} {vs : List V} {f : Str} {v : V} {d : D} (hl : ns.length = vs.length) (rl : RepL B (upd H q (.ins C dx (putF f v (ns.zip vs)))) vs xs) (rv : Rep B (upd H q (.ins C dx (putF f v (ns.zip vs)))) v d) (hf : f ∉ ns) :
    RepO B (upd H q (.ins C dx (putF f v (ns.zip vs)))) q (.ins C dx (ns ++ [f]) (xs ++ [d])) := by
  refine ⟨vs ++ [v], ?_, by rw [List.length_append, List.length_append, hl]; rfl, rl.app (.cons rv .nil)⟩
  rw [upd_same, putF_new (by rw [zip_fst hl]; exact hf), List.zip_append hl]
  rfl
/-- o.f = e, plain data -/
def wFldP (C : Addr) (f : Str) (wo wv : WE) : WS := fun c Φ l => wv ⟨c, l⟩ fun x => wo ⟨c, l⟩ fun d => ∃ q j dx ns xs, d = .raw (.ref q) ∧ At l q j (.ins C dx ns xs) ∧ (f ∉ ns ∧ ns.length < 1000) ∧ Φ.nx (upG l j (.ins C dx (ns ++ [f]) (xs ++ [x])))
theorem ds_fldP {C : Addr} {f : Str} (K : PySem.W.Frag) (cl : Cls K C) (nA : NoAttr K C f) (ho : DE X E o to wo) (hv : DE X E value tv wv) (hs : swapsWith value (some (.Attribute o f pos')) pos.line X.env = pure false := by rfl) (hK : X.K = K := by rfl) :
    DS X E (.Assign [.Attribute o f pos'] value pos) (sFld K to tv f) (wFldP C f wo wv) := by
  subst hK
  refine ⟨ps_fld ho.p hv.p hs, fun δ M0 H0 c Φ D ok σ H l R h => ?_⟩
  obtain ⟨M, m, n, Re⟩ := R.ex
  refine hv.a δ M σ H ⟨c, l⟩ Re _ _ h fun v H1 x e1 r1 h1 => ?_
  have Re1 := Re.ext e1
  refine ho.a δ M σ H1 ⟨c, l⟩ Re1 _ _ h1 fun u H2 d e2 r2 h2 => ?_
  have Re2 := Re1.ext e2
  obtain ⟨q, j, dx, ns, xs, rfl, ha, ⟨hf, hn⟩, h2⟩ := h2
  cases rep_ref r2
  obtain ⟨hm, nd, vs, hq, hl, rl⟩ := Re2.at' ha
  have kp : ∀ z, Kept (Bn δ M) H2 (upd H2 q z) := fun z => Kept.put (.inr hm)
  refine ⟨q, C, dx, _, rfl, hq, cl, nA, by rw [List.length_zip]; omega, ?_⟩
  exact ok.nx _ _ _ (((R.ext e1).ext e2).putG ha m n Re2 (insF hl (rl.keep (kp _)) ((r1.keep e2.kept).keep (kp _)) hf)) h2
/-- .. a new object -/
def wFldN (C : Addr) (f : Str) (wo : WE) (wn : Env → (OC → Prop) → Prop) : WS := fun c Φ l => wn ⟨c, l⟩ fun u => ∀ p, ¬ c.lk p → wo ⟨c, l ++ [some (.gh p u)]⟩ fun d => ∃ q j dx ns xs, d = .raw (.ref q) ∧ At (l ++ [some (.gh p u)]) q j (.ins C dx ns xs) ∧ (f ∉ ns ∧ ns.length < 1000) ∧
  Φ.nx (upG (l ++ [some (.gh p u)]) j (.ins C dx (ns ++ [f]) (xs ++ [.raw (.ref p)])))
theorem ds_fldN {C : Addr} {f : Str} {wn : Env → (OC → Prop) → Prop} (K : PySem.W.Frag) (cl : Cls K C) (nA : NoAttr K C f) (ho : DE X E o to wo) (hv : DO1 X E value tv wn) (hs : swapsWith value (some (.Attribute o f pos')) pos.line X.env = pure false := by rfl) (hK : X.K = K := by rfl) :
    DS X E (.Assign [.Attribute o f pos'] value pos) (sFld K to tv f) (wFldN C f wo wn) := by
  subst hK
  refine ⟨ps_fld ho.p hv.p hs, fun δ M0 H0 c Φ D ok σ H l R h => ?_⟩
  obtain ⟨M, m, n, Re⟩ := R.ex
  refine hv.a δ M σ H ⟨c, l⟩ Re _ _ h fun p H1 u hp e1 ro h1 => ?_
  obtain ⟨R1, nlk, n1⟩ := R.newGh m n Re hp e1 ro
  have Re1 := Re.newGh hp e1 ro
  refine ho.a δ (p :: M) σ H1 ⟨c, _⟩ Re1 _ _ (h1 p nlk) fun u2 H2 d e2 r2 h2 => ?_
  have Re2 := Re1.ext e2
  obtain ⟨q, j, dx, ns, xs, rfl, ha, ⟨hf, hn⟩, h2⟩ := h2
  cases rep_ref r2
  obtain ⟨hm, nd, vs, hq, hl, rl⟩ := Re2.at' ha
  have kp : ∀ z, Kept (Bn δ (p :: M)) H2 (upd H2 q z) := fun z => Kept.put (.inr hm)
  refine ⟨q, C, dx, _, rfl, hq, cl, nA, by rw [List.length_zip]; omega, ?_⟩
  exact ok.nx _ _ _ ((R1.ext e2).putG ha (fun b hb => List.mem_cons_of_mem _ (m b hb)) n1 Re2 (insF hl (rl.keep (kp _)) (.raw _) hf)) h2
theorem DF.o1 {t : TE} {w : Env → (List D → Prop) → Prop} (h : DF X E e t w) : DO1 X E e t (wO w) := ⟨h.p, h.a.o⟩
end

/-! ### objects of one's own as plain data -/
mutual
/-- d as d': places of the objects of one's own, as far as ok, replaced by what stands there -/
inductive Rsv (ok : Addr → Prop) (l : Sl) : D → D → Prop
  | same (d : D) : Rsv ok l d d
  | ref {q : Addr} {j : Nat} {o : OC} {d0 d : D} : At l q j o → ok q → o.frz = some d0 → Rsv ok l d0 d → Rsv ok l (.raw (.ref q)) d
  | lst {xs ys : List D} : RsvL ok l xs ys → Rsv ok l (.lst xs) (.lst ys)
  | tup {xs ys : List D} : RsvL ok l xs ys → Rsv ok l (.tup xs) (.tup ys)
  | obj {C : Addr} {ns : List Str} {xs ys : List D} : RsvL ok l xs ys → Rsv ok l (.obj C ns xs) (.obj C ns ys)
inductive RsvL (ok : Addr → Prop) (l : Sl) : List D → List D → Prop
  | nil : RsvL ok l [] []
  | cons {x y : D} {xs ys : List D} : Rsv ok l x y → RsvL ok l xs ys → RsvL ok l (x :: xs) (y :: ys)
end
section
variable {ok : Addr → Prop} {l : Sl} {B : Addr → Prop} {H : Hp}
mutual
theorem Rsv.rep (hat : ∀ q j o, At l q j o → ok q → RepO B H q o ∧ ¬ B q) : ∀ {d d' : D}, Rsv ok l d d' → ∀ {v : V}, Rep B H v d → Rep B H v d'
  | _, _, .same d, _, r => r
  | _, _, .ref a k f t, v, r => by
    cases rep_ref r
    obtain ⟨h1, h2⟩ := hat _ _ _ a k
    exact Rsv.rep hat t (h1.frz h2 f)
  | _, _, .lst rl, v, r => by
    cases r with
    | lst n s rr => exact .lst n s (RsvL.rep hat rl rr)
  | _, _, .tup rl, v, r => by
    cases r with
    | tup s rr => exact .tup s (RsvL.rep hat rl rr)
  | _, _, .obj rl, v, r => by
    cases r with
    | obj n s e rr => exact .obj n s e (RsvL.rep hat rl rr)
theorem RsvL.rep (hat : ∀ q j o, At l q j o → ok q → RepO B H q o ∧ ¬ B q) : ∀ {d d' : List D}, RsvL ok l d d' → ∀ {v : List V}, RepL B H v d → RepL B H v d'
  | _, _, .nil, _, r => r
  | _, _, .cons a t, v, r => by
    cases r with
    | cons r1 r2 => exact .cons (Rsv.rep hat a r1) (RsvL.rep hat t r2)
end
theorem RsvL.refl : ∀ (xs : List D), RsvL ok l xs xs
  | [] => .nil
  | x :: xs => .cons (.same x) (RsvL.refl xs)
end
section
variable {δ : Option Addr} {M M0 : List Addr} {H H0 : Hp} {E : XK} {σ : L2.St} {c : Ct} {l : Sl}
theorem At.slot {l : Sl} {q : Addr} {j : Nat} {o : OC} (h : At l q j o) : ∃ s : S, l[j]? = some (some s) ∧ s.adr = some q := h.elim (fun z => ⟨_, z, rfl⟩) fun z => ⟨_, z, rfl⟩
theorem RS.rsv (R : RS δ M0 H0 E c σ H l) : ∀ q j o, At l q j o → ¬ c.lk q → RepO (Bn δ M0) H q o ∧ ¬ Bn δ M0 q := fun q j o a k => by
  obtain ⟨M, m, n, Re⟩ := R.ex
  obtain ⟨hm, nd, ro⟩ := Re.at' a
  obtain ⟨s, hs, es⟩ := a.slot
  refine ⟨ro.less (bn_less m), fun z => z.elim nd fun z => ?_⟩
  exact R.m0 q z ((R.wr j q s hs es).resolve_left k)
end
section
variable {X : Cx} {E : XK} {e : Expr} {te : TE} {w : WE} {pos : Pos}
def wRetR (w : WE) : WS := fun c Φ l => w ⟨c, l⟩ fun d => ∃ d', Rsv (fun q => ¬ c.lk q) l d d' ∧ Φ.rt d'
theorem ds_retR (he : DE X E e te w) : DS X E (.Return (some e) pos) (tRet te) (wRetR w) :=
  ⟨ps_ret he.p, fun δ M0 H0 c Φ D ok σ H l R h => let ⟨M, m, n, Re⟩ := R.ex; he.a δ M σ H ⟨c, l⟩ Re _ _ h fun v H1 d e1 r1 ⟨d', q, h1⟩ => ok.rt v H1 d' (R.kd.ext e1) (q.rep (R.ext e1).rsv (r1.less (bn_less m))) h1⟩
/-- return of a new list -/
def wfRetF (w : Env → (List D → Prop) → Prop) : WF := fun c Φ l => w ⟨c, l⟩ Φ
theorem dsf_retF {w : Env → (List D → Prop) → Prop} (he : DF X E e te w) : DSF X E [.Return (some e) pos] (tRet te) (wfRetF w) := by
  refine ⟨pss_one (ps_ret he.p), fun δ M0 H0 c Φ D ok σ H l R h => ?_⟩
  obtain ⟨M, m, n, Re⟩ := R.ex
  refine he.a δ M σ H ⟨c, l⟩ Re _ _ h fun p us H1 ds hp e1 hq rl h1 => ?_
  refine ok p us H1 ds (.inr (R.fresh hp).h0) (R.kd.ext e1) hq (rl.less fun b z => ?_) h1
  rcases z with z | z
  · exact .inl (.inl z)
  · rcases List.mem_cons.mp z with z | z
    · exact .inl (.inr (by rw [z]; exact List.mem_cons_self))
    · exact .inl (.inr (List.mem_cons_of_mem _ (m b z)))
end
end Dl

/-! Defs that write into objects that they are handed. -/
namespace Dl
open PySem L2 PyProof.Rows
variable [KOf]
/-- ss: the arguments (objects of one's own by their places); os: what stands there; none is told -/
def spO (n : Nat) (P : List S → List (Addr × OC) → (List OC → Prop) → Prop) : L2.Sp := fun vs H Q _ => ∃ (δ : Option Addr) (M : List Addr) (ss : List S) (os : List (Addr × OC)) (Φ : List OC → Prop), vs.length = n ∧ Paired (RepS δ M H) vs ss ∧ noOwn ss = true ∧ (os.map (·.1)).Nodup ∧ (∀ x ∈ os, x.1 ∈ M ∧ δ ≠ some x.1 ∧ RepO (Bn δ M) H x.1 x.2) ∧ (∀ b, b ∈ M → ∃ o, H b = some o) ∧ (∀ a, δ = some a → DiceAt H a) ∧ P ss os Φ ∧
  ∀ H' us, KD δ (fun a => a ∈ os.map (·.1)) H H' → us.length = os.length → (∀ (k : Nat) (x : Addr × OC) (u : OC), os[k]? = some x → us[k]? = some u → RepO (Bn δ M) H' x.1 u) → Φ us → Q .non H'
def endO (n : Nat) (os : List (Addr × OC)) (Φ : List OC → Prop) : Sl → Prop := fun l => ∃ us : List OC, us.length = os.length ∧ (∀ (k : Nat) (x : Addr × OC) (u : OC), os[k]? = some x → us[k]? = some u → At l x.1 (n + k) u) ∧ Φ us
abbrev ghs (os : List (Addr × OC)) : Sl := os.map fun x => some (.gh x.1 x.2)
theorem startS_len {n : Nat} {ss : List S} (h : ss.length ≤ n) : (startS n ss).length = n := by
  unfold startS
  rw [List.length_append, List.length_map, List.length_replicate]
  omega
theorem startO_at {n : Nat} {ss : List S} {os : List (Addr × OC)} {i : Nat} {s : S} (hl : ss.length ≤ n) (h : (startS n ss ++ ghs os)[i]? = some (some s)) : ss[i]? = some s ∨ ∃ k x, i = n + k ∧ os[k]? = some x ∧ s = .gh x.1 x.2 := by
  rcases Nat.lt_or_ge i n with q | q
  · rw [List.getElem?_append_left (by rw [startS_len hl]; exact q)] at h
    exact .inl (start_at h)
  · rw [List.getElem?_append_right (by rw [startS_len hl]; exact q), startS_len hl, List.getElem?_map] at h
    cases e : os[i - n]? with
    | none => rw [e] at h; cases h
    | some x => rw [e] at h; cases h; exact .inr ⟨i - n, x, by omega, e, rfl⟩
theorem rs_startO {δ : Option Addr} {M : List Addr} {H : Hp} {N : List Str} {vs : List V} {ss : List S} {os : List (Addr × OC)} {E : XK} {lk : Addr → Prop} (hp : Paired (RepS δ M H) vs ss) (no : noOwn ss = true) (hn : ss.length ≤ N.length) (nd : (os.map (·.1)).Nodup)
    (ho : ∀ x ∈ os, x.1 ∈ M ∧ δ ≠ some x.1 ∧ RepO (Bn δ M) H x.1 x.2) (okM : ∀ b, b ∈ M → ∃ o, H b = some o) (okd : ∀ a, δ = some a → DiceAt H a) (hlk : ∀ a, lk a ↔ a ∈ os.map (·.1)) :
    RS δ M H E ⟨fun _ => False, lk⟩ (L2.start N vs) H (startS N.length ss ++ ghs os) := by
  have inO : ∀ {i : Nat} {s : S} {p : Addr}, (startS N.length ss ++ ghs os)[i]? = some (some s) → s.adr = some p → ∃ k x, i = N.length + k ∧ os[k]? = some x ∧ x.1 = p := fun z e => by
    rcases startO_at hn z with q | ⟨k, x, e1, e2, rfl⟩
    · rw [noOwn_at no q] at e; cases e
    · cases e; exact ⟨k, x, e1, e2, rfl⟩
  refine ⟨⟨M, fun _ h => h, fun _ h => .inl h, ⟨?_, fun i s h => ?_, fun i j p s t h h' e e' => ?_, okM, okd, ⟨fun _ => none, [], ⟨fun b o z => (nomatch z), fun a _ ⟨ns, z, _⟩ => (nomatch z)⟩, (fun b hb => nomatch hb), (fun _ _ _ _ _ => rfl), fun _ _ _ _ _ _ z => False.elim z⟩⟩⟩, KD.refl H, okd, fun i p s h e => ?_, fun b hb => ?_, fun b hb z => by
    obtain ⟨o, q⟩ := okM b hb
    rw [z] at q; cases q⟩
  · show (L2.start N vs).length ≤ (startS N.length ss ++ ghs os).length
    rw [List.length_append, startS_len hn]
    unfold L2.start
    rw [List.length_append, List.length_map, List.length_replicate, hp.length]
    omega
  · rcases startO_at hn h with q | ⟨k, x, e1, e2, rfl⟩
    · obtain ⟨v, h1, h2⟩ := paired_at hp q
      refine ⟨v, fun _ => ?_, h2⟩
      have hl : i < vs.length := (List.getElem?_eq_some_iff.mp h1).1
      unfold L2.start
      rw [List.getElem?_append_left (by rw [List.length_map]; exact hl), List.getElem?_map, h1]
      rfl
    · obtain ⟨a, b, c⟩ := ho x (List.mem_of_getElem? e2)
      exact ⟨.ref x.1, fun y => (nomatch y), .gh a b c⟩
  · obtain ⟨k, x, e1, e2, e3⟩ := inO h e
    obtain ⟨k', x', f1, f2, f3⟩ := inO h' e'
    have g1 : (os.map (·.1))[k]? = some p := by rw [List.getElem?_map, e2]; exact congrArg some e3
    have g2 : (os.map (·.1))[k']? = some p := by rw [List.getElem?_map, f2]; exact congrArg some f3
    have := (List.getElem?_inj (List.getElem?_eq_some_iff.mp g1).1 nd).mp (g1.trans g2.symm)
    omega
  · obtain ⟨k, x, e1, e2, e3⟩ := inO h e
    exact .inl ((hlk p).mpr (by rw [← e3]; exact List.mem_map.mpr ⟨x, List.mem_of_getElem? e2, rfl⟩))
  · obtain ⟨x, hx, rfl⟩ := List.mem_map.mp ((hlk b).mp hb)
    exact (ho x hx).1
section
variable {Pr : Program} {w : World} {K : PySem.W.Frag} {mg : Str → Option Value} {base : Heap} {x qual : Str} {st : Stmt} {f : Addr} {fd : FuncData} {N ps : List Str} {k n : Nat}
theorem fn_O {P : List S → List (Addr × OC) → (List OC → Prop) → Prop} (F : Fun K x qual st f fd) (Sc : FnScope N ps (defScope st)) (hn : ps.length = n) (hN : n ≤ N.length)
    (hbody : ∀ (cdv : Value) (A : Around) (outer : List PySem.Env) (s : Shared) (H : Hp) (Eo : XK), Room k (A.deeper (PyProof.Rows.envOfC qual (defScope st) s.heap.objs.size f cdv)) →
      ∃ t w', DSs ((cxOf CX0 Pr w K mg base N qual (defScope st) f cdv A outer s H Eo).nox) E0 (defBody st) t w' ∧ ∀ ss os Φ, ss.length = n → P ss os Φ → w' ⟨fun _ => False, fun a => a ∈ os.map (·.1)⟩ { nx := endO N.length os Φ, rt := fun _ => False } (startS N.length ss ++ ghs os)) : FnOk Pr w K mg base CX0 (k + 1) f fd ps (spO n P) := by
  refine F.ok Sc (fun vs H Q E h => ?_) (fun cdv A outer s H vs Q E hr h => ?_)
  · obtain ⟨δ, M, ss, os, Φ, h1, _⟩ := h
    rw [h1, hn]
  · obtain ⟨δ, M, ss, os, Φ, h1, h2, h3, h4, h5, h6, h7, h8, h9⟩ := h
    obtain ⟨t, w', hs, hw⟩ := hbody cdv A outer s H E hr
    have hl : ss.length = n := by rw [← h2.length, h1]
    refine ⟨t, hs.p, hs.a δ M H ⟨fun _ => False, fun a => a ∈ os.map (·.1)⟩ { nx := endO N.length os Φ, rt := fun _ => False } _ ⟨fun σ H' l R ⟨us, u1, u2, u3⟩ => h9 H' us R.kd u1 (fun k x u e1 e2 => ?_) u3, fun _ _ _ _ _ z => z.elim, fun _ _ _ _ h => h.elim, fun _ _ _ _ h => h.elim⟩ _ H _ (rs_startO h2 h3 (by rw [hl]; exact hN) h4 h5 h6 h7 fun _ => Iff.rfl) (hw ss os Φ hl h8)⟩
    obtain ⟨M', m, n', Re⟩ := R.ex
    exact (Re.at' (u2 k x u e1 e2)).2.2.less (bn_less m)
/-- an __init__ walked as statements: self an object of one's own -/
def endI (C dx x : Addr) (n : Nat) (Φ : List Str → List D → Prop) : Sl → Prop := fun l => ∃ ns rs ds, At l x n (.ins C dx ns rs) ∧ RsvL (fun q => ¬ q = x) l rs ds ∧ Φ ns ds
theorem fn_initO {C : Addr} {P : List S → (List Str → List D → Prop) → (XD → Prop) → Prop} (F : Fun K x qual st f fd) (Sc : FnScope N ps (defScope st)) (hn : ps.length = n + 1) (hN : n + 1 ≤ N.length)
    (hbody : ∀ (cdv : Value) (A : Around) (outer : List PySem.Env) (s : Shared) (H : Hp) (Eo : XK), Room k (A.deeper (PyProof.Rows.envOfC qual (defScope st) s.heap.objs.size f cdv)) →
      ∃ t w', DSs ((cxOf CX0 Pr w K mg base N qual (defScope st) f cdv A outer s H Eo).nox) E0 (defBody st) t w' ∧ ∀ x dx ss Φ Ψ, ss.length = n → P ss Φ Ψ → w' ⟨fun _ => False, fun a => a = x⟩ { nx := endI C dx x N.length Φ, rt := fun _ => False } (startS N.length (.d (.raw (.ref x)) :: ss) ++ [some (.gh x (.ins C dx [] []))])) : FnOk Pr w K mg base CX0 (k + 1) f fd ps (spInit C n P) := by
  refine F.ok Sc (fun vs H Q E h => ?_) (fun cdv A outer s H vs Q E hr h => ?_)
  · obtain ⟨δ, M, x, dx, rest, ss, Φ, Ψ, rfl, hl, _⟩ := h
    rw [hn, ← hl]
    rfl
  · obtain ⟨δ, M, x, dx, rest, ss, Φ, Ψ, rfl, hl, hx, xM, xd, hp, no, okM, okd, hP, hQ, hE⟩ := h
    obtain ⟨t, w', hs, hw⟩ := hbody cdv A outer s H E hr
    have hss : ss.length = n := by rw [← hp.length, hl]
    have R0 := rs_startO (N := N) (E := E0) (lk := fun a => a = x) (os := [(x, .ins C dx [] [])]) (ss := .d (.raw (.ref x)) :: ss) (vs := .ref x :: rest) (.cons (.d (.raw _)) hp) no (by show ss.length + 1 ≤ N.length; omega) (by simp) (fun y hy => by
      rw [List.mem_singleton.mp hy]
      exact ⟨xM, xd, [], hx, rfl, .nil⟩) okM okd (fun a => by simp)
    refine ⟨t, hs.p, hs.a δ M H ⟨fun _ => False, fun a => a = x⟩ { nx := endI C dx x N.length Φ, rt := fun _ => False } _ ⟨fun σ H' l R ⟨ns, rs, ds, u1, u2, u3⟩ => ?_, fun _ _ _ _ _ z => z.elim, fun _ _ _ _ h => h.elim, fun _ _ _ _ h => h.elim⟩ _ H _ R0 (hw x dx ss Φ Ψ hss hP)⟩
    obtain ⟨M', m, n', Re⟩ := R.ex
    obtain ⟨_, _, vs', g1, g2, g3⟩ := Re.at' u1
    exact hQ H' vs' ns ds R.kd.1 R.kd.2 g1 g2 (u2.rep R.rsv (g3.less (bn_less m))) u3
end
/-! ### the call of such a def -/
theorem upG_len : ∀ (l : Sl) (j : Nat) (o : OC), (upG l j o).length = l.length
  | [], _, _ => rfl
  | _ :: _, 0, _ => rfl
  | _ :: r, j + 1, o => congrArg (· + 1) (upG_len r j o)
theorem upG_at : ∀ {l : Sl} {j k : Nat} {o : OC} {s : S}, (upG l j o)[k]? = some (some s) → (k ≠ j ∧ l[k]? = some (some s)) ∨ (k = j ∧ ∃ s0, l[k]? = some (some s0) ∧ upS o (some s0) = some s)
  | [], _, _, _, _, h => by cases h
  | x :: r, 0, 0, o, s, h => by
    have h' : upS o x = some s := Option.some.inj h
    cases x with
    | none => cases h'
    | some s0 => exact .inr ⟨rfl, s0, rfl, h'⟩
  | x :: r, 0, k + 1, o, s, h => .inl ⟨by omega, h⟩
  | x :: r, j + 1, 0, o, s, h => .inl ⟨by omega, h⟩
  | x :: r, j + 1, k + 1, o, s, h => by
    have h' : (upG r j o)[k]? = some (some s) := h
    rcases upG_at h' with ⟨a, b⟩ | ⟨a, b⟩
    · exact .inl ⟨by omega, b⟩
    · exact .inr ⟨by omega, b⟩
def putL : Sl → List Nat → List OC → Sl
  | l, j :: js, u :: us => putL (upG l j u) js us
  | l, _, _ => l
theorem putL_len : ∀ (l : Sl) (js : List Nat) (us : List OC), (putL l js us).length = l.length
  | l, j :: js, u :: us => (putL_len (upG l j u) js us).trans (upG_len l j u)
  | l, [], _ => by unfold putL; rfl
  | l, _ :: _, [] => rfl
theorem putL_at {k : Nat} {s : S} : ∀ {js : List Nat} {us : List OC} {l : Sl}, js.Nodup → us.length = js.length → (putL l js us)[k]? = some (some s) → ∃ s0, l[k]? = some (some s0) ∧ ((k ∉ js ∧ s = s0) ∨ ∃ (i : Nat) (u : OC), js[i]? = some k ∧ us[i]? = some u ∧ upS u (some s0) = some s)
  | [], _, l, _, _, h => ⟨s, by unfold putL at h; exact h, .inl ⟨by simp, rfl⟩⟩
  | _ :: _, [], _, _, e, _ => by cases e
  | j :: js, u :: us, l, nd, e, h => by
    have h' : (putL (upG l j u) js us)[k]? = some (some s) := h
    obtain ⟨nj, nd'⟩ := List.nodup_cons.mp nd
    obtain ⟨s1, h1, h2⟩ := putL_at nd' (Nat.succ.inj e) h'
    rcases upG_at h1 with ⟨a, b⟩ | ⟨a, s0, b, c⟩
    · refine ⟨s1, b, ?_⟩
      rcases h2 with ⟨q, r⟩ | ⟨i, w, q, r, t⟩
      · exact .inl ⟨fun z => (List.mem_cons.mp z).elim a q, r⟩
      · exact .inr ⟨i + 1, w, q, r, t⟩
    · refine ⟨s0, b, ?_⟩
      rcases h2 with ⟨q, r⟩ | ⟨i, w, q, r, t⟩
      · exact .inr ⟨0, u, by rw [a]; rfl, rfl, by rw [r]; exact c⟩
      · exact absurd (List.mem_of_getElem? q) (by rw [a]; exact nj)
theorem upS_adr {u : OC} {s0 s : S} (h : upS u (some s0) = some s) : s.adr = s0.adr ∧ s.hid = s0.hid := by
  cases s0 <;> (cases h; exact ⟨rfl, rfl⟩)
section
variable {δ : Option Addr} {M M0 : List Addr} {H H0 H' : Hp} {E : XK} {σ : L2.St} {c : Ct} {l : Sl} {os : List (Addr × OC)} {js : List Nat} {us : List OC}
theorem RE.putL (Re : RE δ M H E σ ⟨c, l⟩) (nd : js.Nodup) (hl : js.length = os.length) (hu : us.length = os.length) (ha : ∀ (k : Nat) (x : Addr × OC) (i : Nat), os[k]? = some x → js[k]? = some i → At l x.1 i x.2)
    (kd : KD δ (fun a => a ∈ os.map (·.1)) H H') (hr : ∀ (k : Nat) (x : Addr × OC) (u : OC), os[k]? = some x → us[k]? = some u → RepO (Bn δ M) H' x.1 u) : RE δ M H' E σ ⟨c, putL l js us⟩ := by
  have hos : ∀ a, a ∈ os.map (·.1) → ∃ (i : Nat) (s : S), i ∈ js ∧ l[i]? = some (some s) ∧ s.adr = some a := fun a h => by
    obtain ⟨x, hx, rfl⟩ := List.mem_map.mp h
    obtain ⟨k, hk⟩ := List.getElem?_of_mem hx
    have hk' : k < js.length := by rw [hl]; exact (List.getElem?_eq_some_iff.mp hk).1
    obtain ⟨s, h1, h2⟩ := (ha k x _ hk (List.getElem?_eq_getElem hk')).slot
    exact ⟨_, s, List.getElem_mem hk', h1, h2⟩
  have hosM : ∀ a, a ∈ os.map (·.1) → a ∈ M := fun a h => by
    obtain ⟨i, s, _, h1, h2⟩ := hos a h
    obtain ⟨v, _, r⟩ := Re.rep i s h1
    exact (r.mem h2).1
  have kp : Kept (Bn δ M) H H' := kd.1.wide fun b z => z.elim .inl fun q => .inr (hosM b q)
  have hu' : us.length = js.length := hu.trans hl.symm
  refine ⟨?_, fun k s z => ?_, fun j j' p s t z z' e e' => ?_, fun b hb => ?_, fun a ha => kd.2 a ha (Re.okd a ha), ?_⟩
  · show σ.length ≤ (Dl.putL l js us).length
    rw [putL_len]
    exact Re.len
  · obtain ⟨s0, h0, h1⟩ := putL_at nd hu' z
    obtain ⟨v, g1, g2⟩ := Re.rep k s0 h0
    rcases h1 with ⟨nk, rfl⟩ | ⟨i, u, e1, e2, e3⟩
    · refine ⟨v, g1, ?_⟩
      have out : ∀ p, s.adr = some p → p ∉ os.map (·.1) := fun p e q => by
        obtain ⟨i, t, hi, h1, h2⟩ := hos p q
        exact nk (by rw [Re.one k i p s t h0 h1 e h2]; exact hi)
      cases g2 with
      | d r => exact .d (r.keep kp)
      | obj a b r => exact .obj a b (r.keep kp fun o e => kd.1 _ _ e fun z => z.elim b (out _ rfl))
      | gh a b r => exact .gh a b (r.keep kp fun o e => kd.1 _ _ e fun z => z.elim b (out _ rfl))
      | dice a b => exact .dice a (kd.2 _ a b)
    · obtain ⟨x, hx⟩ : ∃ x, os[i]? = some x := ⟨_, List.getElem?_eq_getElem (by rw [← hl]; exact (List.getElem?_eq_some_iff.mp e1).1)⟩
      have hat := ha i x k hx e1
      have hn := hr i x u hx e2
      refine ⟨v, fun y => g1 (by rw [← (upS_adr e3).2]; exact y), ?_⟩
      rcases hat with hat | hat
      · rw [h0] at hat
        cases hat
        cases e3
        cases g2 with
        | obj a b r => exact .obj a b hn
      · rw [h0] at hat
        cases hat
        cases e3
        cases g2 with
        | gh a b r => exact .gh a b hn
  · have old : ∀ {k : Nat} {t : S}, (Dl.putL l js us)[k]? = some (some t) → ∃ t0, l[k]? = some (some t0) ∧ t0.adr = t.adr := fun {k t} y => by
      obtain ⟨s0, h0, h1⟩ := putL_at nd hu' y
      rcases h1 with ⟨_, rfl⟩ | ⟨_, _, _, _, e3⟩
      · exact ⟨_, h0, rfl⟩
      · exact ⟨_, h0, (upS_adr e3).1.symm⟩
    obtain ⟨t0, a1, b1⟩ := old z
    obtain ⟨t1, a2, b2⟩ := old z'
    exact Re.one j j' p t0 t1 a1 a2 (b1.trans e) (b2.trans e')
  · by_cases q : δ = some b
    · obtain ⟨ns, z, _⟩ := kd.2 b q (Re.okd b q)
      exact ⟨_, z⟩
    · by_cases hb' : b ∈ os.map (·.1)
      · obtain ⟨x, hx, rfl⟩ := List.mem_map.mp hb'
        obtain ⟨k, hk⟩ := List.getElem?_of_mem hx
        have hk' : k < us.length := by rw [hu]; exact (List.getElem?_eq_some_iff.mp hk).1
        have := (hr k x _ hk (List.getElem?_eq_getElem hk')).there
        cases z : H' x.1 with
        | none => exact absurd z this
        | some o => exact ⟨o, rfl⟩
      · obtain ⟨o, z⟩ := Re.okM b hb
        exact ⟨o, kd.1 b o z fun y => y.elim q hb'⟩
  · obtain ⟨He, Me, a, mm, b, q⟩ := Re.en
    refine ⟨He, Me, ⟨fun b' o e nb => ?_, fun b' hb' dd => kd.2 b' hb' (a.2 b' hb' dd)⟩, mm, fun j p t z e => ?_, q⟩
    · refine kd.1 b' o (a.1 b' o e nb) fun z => z.elim nb fun z => ?_
      obtain ⟨i, s, _, h1, h2⟩ := hos b' z
      rw [b i b' s h1 h2] at e
      cases e
    · obtain ⟨s0, h0, h1⟩ := putL_at nd hu' z
      refine b j p s0 h0 ?_
      rcases h1 with ⟨_, rfl⟩ | ⟨_, _, _, _, e3⟩
      · exact e
      · rw [← (upS_adr e3).1]; exact e
theorem RS.putL (R : RS δ M0 H0 E c σ H l) (m : ∀ b, b ∈ M0 → b ∈ M) (n : ∀ b, b ∈ M → b ∈ M0 ∨ H0 b = none) (Re : RE δ M H E σ ⟨c, l⟩) (nd : js.Nodup) (hl : js.length = os.length) (hu : us.length = os.length) (ha : ∀ (k : Nat) (x : Addr × OC) (i : Nat), os[k]? = some x → js[k]? = some i → At l x.1 i x.2)
    (kd : KD δ (fun a => a ∈ os.map (·.1)) H H') (hr : ∀ (k : Nat) (x : Addr × OC) (u : OC), os[k]? = some x → us[k]? = some u → RepO (Bn δ M) H' x.1 u) : RS δ M0 H0 E c σ H' (putL l js us) := by
  refine ⟨⟨M, m, n, Re.putL nd hl hu ha kd hr⟩, ⟨fun b o e q => ?_, fun a ha q => kd.2 a ha (R.kd.2 a ha q)⟩, R.d0, fun j p t z e => ?_, R.wm, R.m0⟩
  · refine kd.1 b o (R.kd.1 b o e q) fun z => z.elim (fun y => q (.inl y)) fun z => ?_
    obtain ⟨x, hx, rfl⟩ := List.mem_map.mp z
    obtain ⟨k, hk⟩ := List.getElem?_of_mem hx
    have hk' : k < js.length := by rw [hl]; exact (List.getElem?_eq_some_iff.mp hk).1
    obtain ⟨s, h1, h2⟩ := (ha k x _ hk (List.getElem?_eq_getElem hk')).slot
    rcases R.wr _ _ s h1 h2 with y | y
    · exact q (.inr y)
    · rw [y] at e; cases e
  · obtain ⟨s0, h0, h1⟩ := putL_at nd (hu.trans hl.symm) z
    refine R.wr j p s0 h0 ?_
    rcases h1 with ⟨_, rfl⟩ | ⟨_, _, _, _, e3⟩
    · exact e
    · rw [← (upS_adr e3).1]; exact e
end
section
variable {X : Cx} {E : XK} {o e : Expr} {es : List Expr} {to : TE} {tl : TA} {wo : WE} {ws : WA} {pos apos epos : Pos} {m : Str} {C f k n : Nat} {fd : FuncData} {ps : List Str} {P : List S → List (Addr × OC) → (List OC → Prop) → Prop}
/-- o.m(..), o and some arguments objects of one's own -/
def wMethO (C : Addr) (m : Str) (P : List S → List (Addr × OC) → (List OC → Prop) → Prop) (wo : WE) (ws : WA) : WS := fun c Φ l => wo ⟨c, l⟩ fun d => ∃ q j dx ns xs, d = .raw (.ref q) ∧ At l q j (.ins C dx ns xs) ∧ (ns.zip xs).lookup m = none ∧ ws ⟨c, l⟩ fun ss =>
  ∃ (os : List (Addr × OC)) (js : List Nat), js.Nodup ∧ js.length = os.length ∧ (∀ (k : Nat) (x : Addr × OC) (i : Nat), os[k]? = some x → js[k]? = some i → At l x.1 i x.2) ∧ P (.d (.raw (.ref q)) :: ss) os fun us => Φ.nx (putL l js us)
theorem ds_methO {pl : Sem Bool} (K : PySem.W.Frag) (ho : DE X E o to wo) (cl : Cls K C) (hm : Meth K C m f) (F : FnOk X.prog X.w K X.mg X.base CX0 k f fd ps (spO n P)) (hr : Room k X.A) (hb : Binds K fd ps []) (ha : DA X E (e :: es) tl ws) (hn : (e :: es).length + 1 = n := by rfl)
    (hst : starEach (e :: es) X.env = (false, eval e X.env) :: starEach es X.env := by rfl) (hpl : (backTo pos (starEach es X.env)).any (·.1) = false := by rfl)
    (ht : eval (.Call (.Attribute o m apos) (e :: es) [] pos) X.env = (do
      let ov ← eval o X.env
      standAt apos.atName
      let (f, first) ← holding [ov] (getMethod ov m pl)
      callWith pos f first (backTo pos (starEach (e :: es) X.env)) (backToKw pos (keywordEach [] X.env))) := by rfl)
    (hs : swapsWith (.Call (.Attribute o m apos) (e :: es) [] pos) none epos.line X.env = pure false := by rfl) (hK : X.K = K := by rfl) :
    DS X E (.Expr (.Call (.Attribute o m apos) (e :: es) [] pos) epos) (tDrop (tMeth C m (spO n P) [] E0 to tl)) (wMethO C m P wo ws) := by
  subst hK
  refine ⟨ps_expr (pe_meth ho.p cl hm F hr hb .nil pass0 ha.p hst hpl ht) hs, fun δ M0 H0 c Φ D ok σ H l R h => ?_⟩
  obtain ⟨M, m1, n1, Re⟩ := R.ex
  refine ho.a δ M σ H ⟨c, l⟩ Re _ _ h fun v H1 d e1 r1 h1 => ?_
  obtain ⟨q, j, dx, ns, xs, rfl, hat, hx, h1⟩ := h1
  cases rep_ref r1
  have Re1 := Re.ext e1
  obtain ⟨_, _, vs, hq, hl, rl⟩ := Re1.at' hat
  refine ⟨q, dx, _, rfl, hq, rl.nofield hx, ?_⟩
  refine ha.a δ M σ H1 ⟨c, l⟩ Re1 _ _ h1 fun us H2 ss e2 r2 l2 n2 h2 => ?_
  obtain ⟨os, js, nd, hjl, hja, hP⟩ := h2
  have Re2 := Re1.ext e2
  have R2 := (R.ext e1).ext e2
  rw [List.append_nil]
  have ndo : (os.map (·.1)).Nodup := by
    refine List.pairwise_iff_getElem.mpr fun i j hi' hjl' hij e => ?_
    rw [List.length_map] at hi' hjl'
    obtain ⟨x, hx⟩ : ∃ x, os[i]? = some x := ⟨_, List.getElem?_eq_getElem (by omega)⟩
    obtain ⟨y, hy⟩ : ∃ y, os[j]? = some y := ⟨_, List.getElem?_eq_getElem hjl'⟩
    obtain ⟨a, ha⟩ : ∃ a, js[i]? = some a := ⟨_, List.getElem?_eq_getElem (by omega)⟩
    obtain ⟨b, hb⟩ : ∃ b, js[j]? = some b := ⟨_, List.getElem?_eq_getElem (by omega)⟩
    obtain ⟨s, g1, g2⟩ := (hja i x a hx ha).slot
    obtain ⟨t, g3, g4⟩ := (hja j y b hy hb).slot
    have e' : x.1 = y.1 := by
      rw [List.getElem_map, List.getElem_map] at e
      rw [List.getElem?_eq_getElem hi'] at hx
      rw [List.getElem?_eq_getElem hjl'] at hy
      rw [← Option.some.inj hx, ← Option.some.inj hy]
      exact e
    have hab := Re2.one a b x.1 s t g1 g3 g2 (by rw [e']; exact g4)
    subst hab
    have := (List.getElem?_inj (List.getElem?_eq_some_iff.mp ha).1 nd).mp (ha.trans hb.symm)
    omega
  refine ⟨δ, M, .d (.raw (.ref q)) :: ss, os, _, by rw [← hn, List.length_cons, Paired.length r2, l2], .cons (.d (.raw _)) r2, n2, ndo, fun x hx => ?_, Re2.okM, Re2.okd, hP, fun H3 us3 kd hu hro hΦ => ok.nx _ _ _ (R2.putL m1 n1 Re2 nd hjl hu hja kd hro) hΦ⟩
  obtain ⟨i, hi⟩ := List.getElem?_of_mem hx
  have hi' : i < js.length := by rw [hjl]; exact (List.getElem?_eq_some_iff.mp hi).1
  exact Re2.at' (hja i x _ hi (List.getElem?_eq_getElem hi'))
end
end Dl

/-! Calls that only look at objects of one's own; methods with arguments; lists of new lists; slots left out. -/
namespace Dl
open PySem L2 PyProof.Rows
variable [KOf]
mutual
/-- data that hold no list, no dict, no instance -/
def flatV : D → Bool
  | .non => true
  | .bl _ => true
  | .int _ => true
  | .str _ => true
  | .tup xs => flatVs xs
  | .raw _ => true
  | _ => false
def flatVs : List D → Bool
  | [] => true
  | x :: r => flatV x && flatVs r
end
theorem RepO.noTup {B : Addr → Prop} {H : Hp} {p : Addr} {xs : List V} : ∀ {o : OC}, RepO B H p o → H p ≠ some (.tup xs)
  | .lst _, ⟨_, h, _⟩ => by rw [h]; exact fun z => nomatch z
  | .dI _ _, ⟨_, h, _⟩ => by rw [h]; exact fun z => nomatch z
  | .dT _ _, ⟨_, _, _, ⟨_, h, _⟩, _⟩ => by rw [h]; exact fun z => nomatch z
  | .set _ _, h => by
    have h' : H p = _ := h
    rw [h']; exact fun z => nomatch z
  | .st _, ⟨_, _, h, _⟩ => by rw [h]; exact fun z => nomatch z
  | .ins _ _ _ _, ⟨_, h, _⟩ => by rw [h]; exact fun z => nomatch z
section
variable {B B' : Addr → Prop} {H : Hp}
mutual
theorem Rep.flatV (k : ∀ a xs, H a = some (.tup xs) → ¬ B a → ¬ B' a) : ∀ {v : V} {d : D}, Rep B H v d → Dl.flatV d = true → Rep B' H v d
  | _, _, .non, _ => .non
  | _, _, .bl b, _ => .bl b
  | _, _, .int i, _ => .int i
  | _, _, .str x, _ => .str x
  | _, _, .lst .., h => by simp [Dl.flatV] at h
  | _, _, .tup s r, h => .tup (s.elim (fun z => .inl ⟨k _ _ z.2 z.1, z.2⟩) .inr) (RepL.flatV k r (by simpa [Dl.flatV] using h))
  | _, _, .obj .., h => by simp [Dl.flatV] at h
  | _, _, .dcI .., h => by simp [Dl.flatV] at h
  | _, _, .dcT .., h => by simp [Dl.flatV] at h
  | _, _, .raw v, _ => .raw v
theorem RepL.flatV (k : ∀ a xs, H a = some (.tup xs) → ¬ B a → ¬ B' a) : ∀ {vs : List V} {ds : List D}, RepL B H vs ds → flatVs ds = true → RepL B' H vs ds
  | _, _, .nil, _ => .nil
  | _ :: _, d :: ds, .cons r t, h => by
    have h' : Dl.flatV d = true ∧ flatVs ds = true := by simpa [flatVs] using h
    exact .cons (Rep.flatV k r h'.1) (RepL.flatV k t h'.2)
end
end
inductive PairV (l : Sl) : List S → List S → Prop
  | nil : PairV l [] []
  | d {d d' : D} {ss ss' : List S} : Rsv (fun _ => True) l d d' → PairV l ss ss' → PairV l (.d d :: ss) (.d d' :: ss')
/-- the places that slots tell of -/
def adrs (l : Sl) : List Addr := l.filterMap fun s => s.bind S.adr
theorem adrs_of {l : Sl} {i : Nat} {s : S} {p : Addr} (h : l[i]? = some (some s)) (e : s.adr = some p) : p ∈ adrs l := List.mem_filterMap.mpr ⟨some s, List.mem_of_getElem? h, e⟩
theorem adrs_at {l : Sl} {p : Addr} (h : p ∈ adrs l) : ∃ (i : Nat) (s : S), l[i]? = some (some s) ∧ s.adr = some p := by
  obtain ⟨x, h1, h2⟩ := List.mem_filterMap.mp h
  obtain ⟨i, hi⟩ := List.getElem?_of_mem h1
  cases x with
  | none => cases h2
  | some s => exact ⟨i, s, hi, h2⟩
section
variable {δ : Option Addr} {M : List Addr} {H H1 : Hp} {E : XK} {σ : L2.St} {ρ : Env}
abbrev lessM (M : List Addr) (l : Sl) : List Addr := M.filter fun b => decide (b ∉ adrs l)
theorem lessM_bn (l : Sl) : ∀ b, Bn δ (lessM M l) b → Bn δ M b ∨ H b = none := fun b z => .inl (z.elim .inl fun q => .inr (List.mem_filter.mp q).1)
theorem RE.rsvAll (R : RE δ M H E σ ρ) : ∀ q j o, At ρ.sl q j o → True → RepO (Bn δ (lessM M ρ.sl)) H q o ∧ ¬ Bn δ (lessM M ρ.sl) q := fun q j o a _ => by
  obtain ⟨hm, nd, ro⟩ := R.at' a
  obtain ⟨s, hs, es⟩ := a.slot
  exact ⟨ro.less (lessM_bn _), fun z => z.elim nd fun z => (of_decide_eq_true (List.mem_filter.mp z).2) (adrs_of hs es)⟩
theorem RE.pairV (R : RE δ M H E σ ρ) : ∀ {vs : List V} {ss ss' : List S}, PairV ρ.sl ss ss' → Paired (RepS δ M H) vs ss → Paired (RepS δ (lessM M ρ.sl) H) vs ss' ∧ noOwn ss' = true
  | _, _, _, .nil, .nil => ⟨.nil, rfl⟩
  | _, _, _, .d q t, .cons (.d r) u => ⟨.cons (.d (q.rep R.rsvAll (r.less (lessM_bn _)))) (RE.pairV R t u).1, (RE.pairV R t u).2⟩
theorem PairV.len {l : Sl} : ∀ {ss ss' : List S}, PairV l ss ss' → ss.length = ss'.length
  | _, _, .nil => rfl
  | _, _, .d _ t => congrArg (· + 1) t.len
theorem RE.flatBack (R : RE δ M H E σ ρ) : ∀ a xs, H a = some (.tup xs) → ¬ Bn δ (lessM M ρ.sl) a → ¬ Bn δ M a := fun a xs h n z => by
  rcases z with z | z
  · exact n (.inl z)
  · by_cases q : a ∈ adrs ρ.sl
    · obtain ⟨i, s, hs, es⟩ := adrs_at q
      obtain ⟨v, _, r⟩ := R.rep i s hs
      cases r with
      | d => cases es
      | obj _ _ ro => cases es; exact ro.noTup h
      | gh _ _ ro => cases es; exact ro.noTup h
      | dice => cases es
    · exact n (.inr (List.mem_filter.mpr ⟨z, decide_eq_true q⟩))
end
section
variable {X : Cx} {E : XK} {e o : Expr} {es : List Expr} {te to : TE} {tl : TA} {w wo : WE} {ws : WA} {pos apos p : Pos} {x : Str} {k f n C : Nat} {fd : FuncData} {ps : List Str} {m : Str} {P : List S → (D → Prop) → Prop} {PF : List S → (List D → Prop) → Prop}
def wCallV (P : List S → (D → Prop) → Prop) (ws : WA) : WE := fun ρ Φ => ws ρ fun ss => ∃ ss', PairV ρ.sl ss ss' ∧ P ss' fun d => flatV d = true ∧ Φ d
theorem de_callV (F : FnOk X.prog X.w X.K X.mg X.base CX0 k f fd ps (spD n P)) (hr : Room k X.A) (hg : Gl X x) (hm : X.mg x = some (.ref f)) (hk : PySem.W.keepIn X.K (.ref f) = true) (hb : Binds X.K fd ps [])
    (ha : DA X E (e :: es) tl ws) (hn : (e :: es).length = n := by rfl) (hdb : (x == ("__debug__" : Str)) = false := by decide) (he : starEach (e :: es) X.env = (false, eval e X.env) :: starEach es X.env := by rfl) (hpl : (backTo pos (starEach es X.env)).any (·.1) = false := by rfl) :
    DE X E (.Call (.Name x p) (e :: es) [] pos) (tCall (spD n P) [] E0 tl) (wCallV P ws) := by
  refine ⟨pe_call F hr hg hm hk hb .nil pass0 ha.p hdb he hpl, fun δ M σ H ρ R Φ Q h kk => ?_⟩
  refine ha.a δ M σ H ρ R _ _ h fun vs H1 ss e1 r1 l1 n1 h1 => ?_
  obtain ⟨ss', pv, h1⟩ := h1
  have R1 := R.ext e1
  obtain ⟨p1, p2⟩ := R1.pairV pv r1
  show spD n P (vs ++ []) H1 Q E0
  rw [List.append_nil]
  exact ⟨δ, _, ss', _, (Paired.length r1).trans (l1.trans hn), p1, p2, fun b hb => R1.okM b (List.mem_filter.mp hb).1, R1.okd, h1, fun v H2 d e2 r2 h2 => kk v H2 d (e1.trans e2) (r2.flatV (R1.ext e2).flatBack h2.1) h2.2⟩
def wCallVF (P : List S → (List D → Prop) → Prop) (ws : WA) : Env → (List D → Prop) → Prop := fun ρ Φ => ws ρ fun ss => ∃ ss', PairV ρ.sl ss ss' ∧ P ss' fun d => flatVs d = true ∧ Φ d
theorem df_callV (F : FnOk X.prog X.w X.K X.mg X.base CX0 k f fd ps (spF n PF)) (hr : Room k X.A) (hg : Gl X x) (hm : X.mg x = some (.ref f)) (hk : PySem.W.keepIn X.K (.ref f) = true) (hb : Binds X.K fd ps [])
    (ha : DA X E (e :: es) tl ws) (hn : (e :: es).length = n := by rfl) (hdb : (x == ("__debug__" : Str)) = false := by decide) (he : starEach (e :: es) X.env = (false, eval e X.env) :: starEach es X.env := by rfl) (hpl : (backTo pos (starEach es X.env)).any (·.1) = false := by rfl) :
    DF X E (.Call (.Name x p) (e :: es) [] pos) (tCall (spF n PF) [] E0 tl) (wCallVF PF ws) := by
  refine ⟨pe_call F hr hg hm hk hb .nil pass0 ha.p hdb he hpl, fun δ M σ H ρ R Φ Q h kk => ?_⟩
  refine ha.a δ M σ H ρ R _ _ h fun vs H1 ss e1 r1 l1 n1 h1 => ?_
  obtain ⟨ss', pv, h1⟩ := h1
  have R1 := R.ext e1
  obtain ⟨p1, p2⟩ := R1.pairV pv r1
  show spF n PF (vs ++ []) H1 Q E0
  rw [List.append_nil]
  refine ⟨δ, _, ss', _, (Paired.length r1).trans (l1.trans hn), p1, p2, fun b hb => R1.okM b (List.mem_filter.mp hb).1, R1.okd, h1, fun q us H2 ds hq e2 hq2 rl h2 => ?_⟩
  refine kk q us H2 ds (e1.free R.okd hq) (e1.trans e2) hq2 (rl.flatV (fun a xs ha na z => ?_) h2.1) h2.2
  rcases z with z | z
  · exact na (.inl z)
  · rcases List.mem_cons.mp z with z | z
    · rw [z, hq2] at ha; cases ha
    · exact (R1.ext e2).flatBack a xs ha (fun y => na (y.elim .inl fun y => .inr (List.mem_cons_of_mem _ y))) (.inr z)
/-! ### methods of plain instances -/
def wMethF0 (C : Addr) (m : Str) (P : List S → (List D → Prop) → Prop) (w : WE) : Env → (List D → Prop) → Prop := fun ρ Φ => w ρ fun d => match d with
  | .obj C' ns xs => C' = C ∧ (ns.zip xs).lookup m = none ∧ P [.d (.obj C' ns xs)] Φ
  | _ => False
theorem df_meth0 {pl : Sem Bool} (he : DE X E o te w) (c : Cls X.K C) (hm : Meth X.K C m f) (F : FnOk X.prog X.w X.K X.mg X.base CX0 k f fd ps (spF 1 PF)) (hr : Room k X.A) (hb : Binds X.K fd ps [])
    (ht : eval (.Call (.Attribute o m apos) [] [] pos) X.env = (do
      let ov ← eval o X.env
      standAt apos.atName
      let (f, first) ← holding [ov] (getMethod ov m pl)
      callWith pos f first (backTo pos (starEach [] X.env)) (backToKw pos (keywordEach [] X.env))) := by rfl) :
    DF X E (.Call (.Attribute o m apos) [] [] pos) (tMeth C m (spF 1 PF) [] E0 te tNil) (wMethF0 C m PF w) := by
  refine ⟨pe_meth0 he.p c hm F hr hb .nil pass0 ht, fun δ M σ H ρ R Φ Q h kk => ?_⟩
  refine he.a δ M σ H ρ R _ _ h fun v H1 d e1 r1 h1 => ?_
  cases r1 <;> first | exact False.elim h1 | skip
  rename_i a C' dx ns vs ds n ho hl rl
  obtain ⟨rfl, hz, h1⟩ := h1
  have R1 := R.ext e1
  refine ⟨a, dx, _, rfl, ho, rl.nofield hz, ?_⟩
  exact ⟨δ, M, [.d (.obj C' ns ds)], Φ, rfl, .cons (.d (.obj n ho hl rl)) .nil, rfl, R1.okM, R1.okd, h1, fun q us H2 ds hq e2 hq2 rl h2 => kk q us H2 ds (e1.free R.okd hq) (e1.trans e2) hq2 rl h2⟩
def wMethF (C : Addr) (m : Str) (P : List S → (List D → Prop) → Prop) (w : WE) (ws : WA) : Env → (List D → Prop) → Prop := fun ρ Φ => w ρ fun d => match d with
  | .obj C' ns xs => C' = C ∧ (ns.zip xs).lookup m = none ∧ ws ρ fun ss => P (.d (.obj C' ns xs) :: ss) Φ
  | _ => False
theorem df_meth {pl : Sem Bool} (he : DE X E o te w) (c : Cls X.K C) (hm : Meth X.K C m f) (F : FnOk X.prog X.w X.K X.mg X.base CX0 k f fd ps (spF n PF)) (hr : Room k X.A) (hb : Binds X.K fd ps []) (ha : DA X E (e :: es) tl ws) (hn : (e :: es).length + 1 = n := by rfl)
    (hst : starEach (e :: es) X.env = (false, eval e X.env) :: starEach es X.env := by rfl) (hpl : (backTo pos (starEach es X.env)).any (·.1) = false := by rfl)
    (ht : eval (.Call (.Attribute o m apos) (e :: es) [] pos) X.env = (do
      let ov ← eval o X.env
      standAt apos.atName
      let (f, first) ← holding [ov] (getMethod ov m pl)
      callWith pos f first (backTo pos (starEach (e :: es) X.env)) (backToKw pos (keywordEach [] X.env))) := by rfl) :
    DF X E (.Call (.Attribute o m apos) (e :: es) [] pos) (tMeth C m (spF n PF) [] E0 te tl) (wMethF C m PF w ws) := by
  refine ⟨pe_meth he.p c hm F hr hb .nil pass0 ha.p hst hpl ht, fun δ M σ H ρ R Φ Q h kk => ?_⟩
  refine he.a δ M σ H ρ R _ _ h fun v H1 d e1 r1 h1 => ?_
  cases r1 <;> first | exact False.elim h1 | skip
  rename_i a C' dx ns vs ds n0 ho hl rl
  obtain ⟨rfl, hz, h1⟩ := h1
  have R1 := R.ext e1
  refine ⟨a, dx, _, rfl, ho, rl.nofield hz, ?_⟩
  refine ha.a δ M σ H1 ρ R1 _ _ h1 fun vs1 H2 ss e2 r2 l2 n2 h2 => ?_
  have R2 := R1.ext e2
  rw [List.append_nil]
  exact ⟨δ, M, .d (.obj C' ns ds) :: ss, Φ, by rw [← hn, List.length_cons, Paired.length r2, l2], .cons (.d ((Rep.obj n0 ho hl rl).keep e2.kept)) r2, n2, R2.okM, R2.okd, h2, fun q us H3 ds hq e3 hq2 rl h3 => kk q us H3 ds ((e1.trans e2).free R.okd hq) ((e1.trans e2).trans e3) hq2 rl h3⟩
def wMeth (C : Addr) (m : Str) (P : List S → (D → Prop) → Prop) (w : WE) (ws : WA) : WE := fun ρ Φ => w ρ fun d => match d with
  | .obj C' ns xs => C' = C ∧ (ns.zip xs).lookup m = none ∧ ws ρ fun ss => P (.d (.obj C' ns xs) :: ss) Φ
  | _ => False
theorem de_meth {pl : Sem Bool} (he : DE X E o te w) (c : Cls X.K C) (hm : Meth X.K C m f) (F : FnOk X.prog X.w X.K X.mg X.base CX0 k f fd ps (spD n P)) (hr : Room k X.A) (hb : Binds X.K fd ps []) (ha : DA X E (e :: es) tl ws) (hn : (e :: es).length + 1 = n := by rfl)
    (hst : starEach (e :: es) X.env = (false, eval e X.env) :: starEach es X.env := by rfl) (hpl : (backTo pos (starEach es X.env)).any (·.1) = false := by rfl)
    (ht : eval (.Call (.Attribute o m apos) (e :: es) [] pos) X.env = (do
      let ov ← eval o X.env
      standAt apos.atName
      let (f, first) ← holding [ov] (getMethod ov m pl)
      callWith pos f first (backTo pos (starEach (e :: es) X.env)) (backToKw pos (keywordEach [] X.env))) := by rfl) :
    DE X E (.Call (.Attribute o m apos) (e :: es) [] pos) (tMeth C m (spD n P) [] E0 te tl) (wMeth C m P w ws) := by
  refine ⟨pe_meth he.p c hm F hr hb .nil pass0 ha.p hst hpl ht, fun δ M σ H ρ R Φ Q h kk => ?_⟩
  refine he.a δ M σ H ρ R _ _ h fun v H1 d e1 r1 h1 => ?_
  cases r1 <;> first | exact False.elim h1 | skip
  rename_i a C' dx ns vs ds n0 ho hl rl
  obtain ⟨rfl, hz, h1⟩ := h1
  have R1 := R.ext e1
  refine ⟨a, dx, _, rfl, ho, rl.nofield hz, ?_⟩
  refine ha.a δ M σ H1 ρ R1 _ _ h1 fun vs1 H2 ss e2 r2 l2 n2 h2 => ?_
  have R2 := R1.ext e2
  rw [List.append_nil]
  exact ⟨δ, M, .d (.obj C' ns ds) :: ss, Φ, by rw [← hn, List.length_cons, Paired.length r2, l2], .cons (.d ((Rep.obj n0 ho hl rl).keep e2.kept)) r2, n2, R2.okM, R2.okd, h2, fun v H3 d e3 r3 h3 => kk v H3 d ((e1.trans e2).trans e3) r3 h3⟩
/-! ### xs[::-1] -/
def wRevG (wo : WE) : Env → (List D → Prop) → Prop := fun ρ Φ => wo ρ fun d => ∃ q j xs, d = .raw (.ref q) ∧ At ρ.sl q j (.lst xs) ∧ Φ xs.reverse
theorem RepL.reverse {B : Addr → Prop} {H : Hp} : ∀ {vs : List V} {ds : List D}, RepL B H vs ds → RepL B H vs.reverse ds.reverse
  | _, _, .nil => .nil
  | _, _, .cons r t => by
    rw [List.reverse_cons, List.reverse_cons]
    exact t.reverse.app (.cons r .nil)
theorem df_revG {kk : Nat} {p1 p2 p3 : Pos} (ho : DE X E o to wo) (hK : X.K = KOf.K := by rfl) : DF X E (.Subscript o (.Slice none none (some (.UnaryOp .USub (.Constant (.int 1) kk p1) p2)) p3) pos) (tRevL KOf.K to) (wRevG wo) := by
  refine ⟨hK ▸ pe_revL ho.p, fun δ M σ H ρ R Φ Q h k => ?_⟩
  refine ho.a δ M σ H ρ R _ _ h fun v H1 d e1 r1 h1 => ?_
  obtain ⟨q, j, xs, rfl, ha, h1⟩ := h1
  cases rep_ref r1
  obtain ⟨_, _, vs, hq, rl⟩ := (R.ext e1).at' ha
  exact ⟨q, vs, rfl, SqL.of hq, fun z hz => k z _ _ _ (e1.free R.okd hz) (e1.trans (Ext.new hz)) upd_same ((rl.reverse.less (bn_cons hz)).keep (Kept.new hz)) h1⟩
/-! ### a list of one's own emptied -/
def wClearG (wo : WE) : WS := fun c Φ l => wo ⟨c, l⟩ fun d => ∃ q j xs, d = .raw (.ref q) ∧ At l q j (.lst xs) ∧ Φ.nx (upG l j (.lst []))
theorem ds_clearG {cpos : Pos} (ho : DE X E o to wo) (hbase : attributeBase o "clear" X.env (eval o X.env) = eval o X.env := by rfl) (hline : (apos.endLine == cpos.line) = true := by rfl)
    (hs : swapsWith (.Call (.Attribute o "clear" apos) [] [] cpos) none pos.line X.env = pure false := by rfl) :
    DS X E (.Expr (.Call (.Attribute o "clear" apos) [] [] cpos) pos) (tDrop (tBM0 X.K "list" rClear to)) (wClearG wo) := by
  refine ⟨ps_expr (pe_bm0 PySem.F.plainAttrs_list PySem.F.slot_list_clear PySem.F.type_list_clear mt_clear ho.p hbase hline) hs, fun δ M0 H0 c Φ D ok σ H l R h => ?_⟩
  obtain ⟨M, m, n, Re⟩ := R.ex
  refine ho.a δ M σ H ⟨c, l⟩ Re _ _ h fun v H1 d e1 r1 h1 => ?_
  obtain ⟨q, j, xs, rfl, ha, h1⟩ := h1
  cases rep_ref r1
  have Re1 := Re.ext e1
  obtain ⟨hm, nd, vs, hq, rl⟩ := Re1.at' ha
  exact ⟨.inl ⟨rfl, vs, Or.inl (Or.inl hq)⟩, q, vs, rfl, rfl, hq, ok.nx σ _ _ ((R.ext e1).putG (o := .lst []) ha m n Re1 ⟨[], upd_same, .nil⟩) h1⟩
end
/-! ### slots behind the names left out -/
section
variable {X : Cx} {E : XK} {δ : Option Addr} {M M0 : List Addr} {H H0 : Hp} {σ : L2.St} {c : Ct} {l : Sl} {st : List Stmt} {t : TS} {w : WS}
theorem RE.cut (R : RE δ M H E σ ⟨c, l⟩) (n : Nat) (hn : σ.length ≤ n) : RE δ M H E σ ⟨c, l.take n⟩ := by
  have at' : ∀ {i : Nat} {s : S}, (l.take n)[i]? = some (some s) → l[i]? = some (some s) := fun {i s} h => by
    rcases Nat.lt_or_ge i n with q | q
    · rw [List.getElem?_take_of_lt q] at h; exact h
    · rw [List.getElem?_eq_none (by rw [List.length_take]; omega)] at h; cases h
  refine ⟨?_, fun i s h => R.rep i s (at' h), fun i j p s t h h' e e' => R.one i j p s t (at' h) (at' h') e e', R.okM, R.okd, let ⟨He, Me, a, m, b, q⟩ := R.en; ⟨He, Me, a, m, fun j p s z e => b j p s (at' z) e, q⟩⟩
  show σ.length ≤ (l.take n).length
  rw [List.length_take]
  exact Nat.le_min.mpr ⟨hn, R.len⟩
theorem RS.cut (R : RS δ M0 H0 E c σ H l) (n : Nat) (hn : σ.length ≤ n) : RS δ M0 H0 E c σ H (l.take n) := by
  obtain ⟨M, m, n', Re⟩ := R.ex
  refine ⟨⟨M, m, n', Re.cut n hn⟩, R.kd, R.d0, fun i p s h e => R.wr i p s ?_ e, R.wm, R.m0⟩
  rcases Nat.lt_or_ge i n with q | q
  · rw [List.getElem?_take_of_lt q] at h; exact h
  · rw [List.getElem?_eq_none (by rw [List.length_take]; omega)] at h; cases h
def wCut (n : Nat) (w : WS) : WS := fun c Φ l => w c Φ (l.take n)
theorem pss_len {s : List Stmt} {t : TS} (h : PSs X s t) : PSs X s (tLen X.N.length t) := ⟨fun pins s σ H D I q => h.run pins s σ H D I (q I.len)⟩
theorem dss_cut (n : Nat) (h : DSs X E st t w) (hn : X.N.length ≤ n := by decide) : DSs X E st (tLen X.N.length t) (wCut n w) :=
  ⟨pss_len h.p, fun δ M0 H0 c Φ D ok σ H l R hw hl => h.a δ M0 H0 c Φ D ok σ H _ (R.cut n (by rw [hl]; exact hn)) hw⟩
end
/-! ### a list of new objects -/
section
variable {δ : Option Addr} {M M' M0 : List Addr} {H H0 H1 : Hp} {E : XK} {σ : L2.St} {c : Ct} {l : Sl} {p : Addr} {o : OC} {gs : Sl}
theorem RS.setObj (R : RS δ M0 H0 E c σ H l) (m : ∀ b, b ∈ M0 → b ∈ M) (n : ∀ b, b ∈ M → b ∈ M0 ∨ H0 b = none) (Re : RE δ M H E σ ⟨c, l⟩) (hp : H p = none) (e1 : Ext δ H H1) (ro : RepO (Bn δ (p :: M)) H1 p o) {i : Nat} (hi : i < σ.length) :
    RS δ M0 H0 E c (σ.set i (some (.ref p))) H1 (setS l i (.obj p o)) ∧ ¬ c.lk p := by
  obtain ⟨ndl, nlk, h0p⟩ := R.fresh hp
  have R2 := Re.wide hp e1 ro.there
  have R3 := R2.setAny i hi (.obj List.mem_cons_self ndl ro) (fun q e j t hj z y => by
    cases e
    exact Re.adr_free hp z y) (by
    obtain ⟨He, Me, a, mm, b, q⟩ := Re.en
    refine ⟨He, Me, a.trans e1, fun b hb => ⟨List.mem_cons_of_mem _ (mm b hb).1, (mm b hb).2⟩, fun j q t z e => ?_, q⟩
    rcases setS_at z with ⟨_, _, rfl⟩ | ⟨_, z⟩
    · cases e
      exact a.none_of (H1 := H1) ndl hp
    · exact b j q t z e)
  refine ⟨⟨⟨p :: M, fun b hb => List.mem_cons_of_mem _ (m b hb), fun b hb => ?_, R3⟩, R.kd.ext e1, R.d0, fun j q t z e => ?_, R.wm, R.m0⟩, nlk⟩
  · rcases List.mem_cons.mp hb with z | z
    · exact .inr (by rw [z]; exact h0p)
    · exact n b z
  · rcases setS_at z with ⟨_, _, rfl⟩ | ⟨_, z⟩
    · cases e
      exact .inr h0p
    · exact R.wr j q t z e
theorem RS.grow (R : RS δ M0 H0 E c σ H l) (m : ∀ b, b ∈ M0 → b ∈ M) (n : ∀ b, b ∈ M → b ∈ M0 ∨ H0 b = none) (e1 : Ext δ H H1) (mm : ∀ b, b ∈ M → b ∈ M') (nn : ∀ b, b ∈ M' → b ∈ M ∨ H b = none) (hg : ∀ (i : Nat) (s : S) (a : Addr), gs[i]? = some (some s) → s.adr = some a → H a = none) (Re : RE δ M' H1 E σ ⟨c, l ++ gs⟩) :
    RS δ M0 H0 E c σ H1 (l ++ gs) ∧ (∀ b, b ∈ M0 → b ∈ M') ∧ (∀ b, b ∈ M' → b ∈ M0 ∨ H0 b = none) := by
  have hn : ∀ b, b ∈ M' → b ∈ M0 ∨ H0 b = none := fun b hb => (nn b hb).elim (n b) fun z => .inr (R.fresh z).h0
  refine ⟨⟨⟨M', fun b hb => mm b (m b hb), hn, Re⟩, R.kd.ext e1, R.d0, fun i q s z e => ?_, R.wm, R.m0⟩, fun b hb => mm b (m b hb), hn⟩
  rcases Nat.lt_or_ge i l.length with y | y
  · rw [List.getElem?_append_left y] at z
    exact R.wr i q s z e
  · rw [List.getElem?_append_right y] at z
    exact .inr (R.fresh (hg _ s q z e)).h0
end
def AbsOs (E : XK) (t : TA) (w : Env → (List OC → Prop) → Prop) : Prop := ∀ (δ : Option Addr) (M : List Addr) (σ : L2.St) (H : Hp) (ρ : Env), RE δ M H E σ ρ → ∀ (Φ : List OC → Prop) (Q : List V → Hp → Prop), w ρ Φ →
  (∀ (ps : List Addr) H' (os : List OC) (M' : List Addr), (∀ p ∈ ps, H p = none) → Ext δ H H' → (∀ b, b ∈ M' ↔ b ∈ ps ∨ b ∈ M) → RE δ M' H' E σ ⟨ρ.c, ρ.sl ++ ghs (ps.zip os)⟩ → ps.length = os.length → Φ os → Q (ps.map V.ref) H') → t σ H Q
structure DOs (X : Cx) (E : XK) (es : List Expr) (t : TA) (w : Env → (List OC → Prop) → Prop) : Prop where
  p : PA X es t
  a : AbsOs E t w
section
variable {X : Cx} {E : XK} {e : Expr} {es : List Expr} {te : TE} {tl : TA} {wn : Env → (OC → Prop) → Prop} {ws : Env → (List OC → Prop) → Prop} {pos : Pos}
def wNilO : Env → (List OC → Prop) → Prop := fun _ Φ => Φ []
def wConsO (wn : Env → (OC → Prop) → Prop) (ws : Env → (List OC → Prop) → Prop) : Env → (List OC → Prop) → Prop := fun ρ Φ => wn ρ fun o => ∀ p, ws ⟨ρ.c, ρ.sl ++ [some (.gh p o)]⟩ fun os => Φ (o :: os)
theorem dos_nil : DOs X E [] tNil wNilO := ⟨pa_nil, fun δ M σ H ρ R Φ Q h k => k [] H [] M (fun _ z => nomatch z) (Ext.refl H) (fun b => by simp) (by
  show RE δ M H E σ ⟨ρ.c, ρ.sl ++ []⟩
  rw [List.append_nil]
  exact R) rfl h⟩
theorem dos_cons (h1 : DO1 X E e te wn) (h2 : DOs X E es tl ws) (hs : starEach (e :: es) X.env = (false, eval e X.env) :: starEach es X.env := by rfl) : DOs X E (e :: es) (tCons te tl) (wConsO wn ws) := by
  obtain ⟨pa, aa⟩ := h1
  obtain ⟨pb, ab⟩ := h2
  refine ⟨pa_cons pa pb hs, fun δ M σ H ρ R Φ Q h k => ?_⟩
  refine aa δ M σ H ρ R _ _ h fun p H1 o hp e1 ro h1 => ?_
  refine ab δ (p :: M) σ H1 ⟨ρ.c, ρ.sl ++ [some (.gh p o)]⟩ (R.newGh hp e1 ro) _ _ (h1 p) fun ps H2 os M' hps e2 hM Re hl h2 => ?_
  refine k (p :: ps) H2 (o :: os) M' (fun q hq => ?_) (e1.trans e2) (fun b => ?_) ?_ (congrArg (· + 1) hl) h2
  · rcases List.mem_cons.mp hq with z | z
    · rw [z]; exact hp
    · exact e1.free R.okd (hps q z)
  · rw [hM b, List.mem_cons, List.mem_cons]
    constructor
    · rintro (a | a | a)
      · exact .inl (.inr a)
      · exact .inl (.inl a)
      · exact .inr a
    · rintro ((a | a) | a)
      · exact .inr (.inl a)
      · exact .inl a
      · exact .inr (.inr a)
  · have e : ρ.sl ++ [some (.gh p o)] ++ ghs (ps.zip os) = ρ.sl ++ ghs ((p :: ps).zip (o :: os)) := by
      rw [List.append_assoc]
      rfl
    rw [← e]
    exact Re
abbrev refs (ps : List Addr) : List D := ps.map fun a => .raw (.ref a)
theorem refs_rep {B : Addr → Prop} {H : Hp} : ∀ ps : List Addr, RepL B H (ps.map V.ref) (refs ps)
  | [] => .nil
  | _ :: r => .cons (.raw _) (refs_rep r)
/-- x = [.., ..], all of it new -/
def wOwnOs (ws : Env → (List OC → Prop) → Prop) (i : Nat) : WS := fun c Φ l => ws ⟨c, l⟩ fun os => os.length ≤ 100000 ∧ ∀ (ps : List Addr) (p : Addr), ps.length = os.length → ¬ c.lk p → Φ.nx (setS (l ++ ghs (ps.zip os)) i (.obj p (.lst (refs ps))))
theorem ds_ownOs {i : Nat} {x : Str} {pos' p2 : Pos} (hN : X.N.Nodup) (hi : X.N[i]? = some x) (hx : Loc X.env.scope x) (he : DOs X E es tl ws) (hs : swapsWith (.List es p2) (some (.Name x pos')) pos.line X.env = pure false := by rfl) (hf : X.fn x = true ∨ X.env.scope.names.lookup x = some .local := by first | exact .inl rfl | exact .inr rfl | assumption) :
    DS X E (.Assign [.Name x pos'] (.List es p2) pos) (tLen X.N.length (tAsg (tLst tl) (gName i))) (wOwnOs ws i) := by
  refine ⟨ps_len (ps_set hN hi hx (pe_lst he.p) hs hf), fun δ M0 H0 c Φ D ok σ H l R h hl => ?_⟩
  obtain ⟨M, m, n, Re⟩ := R.ex
  refine he.a δ M σ H ⟨c, l⟩ Re _ _ h fun ps H1 os M' hps e1 hM Re1 hpl h1 => ?_
  obtain ⟨R1, m1, n1⟩ := R.grow m n e1 (fun b hb => (hM b).mpr (.inr hb)) (fun b hb => ((hM b).mp hb).elim (fun z => .inr (hps b z)) .inl) (fun i s a z ea => by
    rw [List.getElem?_map] at z
    cases q : (ps.zip os)[i]? with
    | none => rw [q] at z; cases z
    | some y =>
      rw [q] at z
      cases z
      cases ea
      exact hps _ (List.of_mem_zip (List.mem_of_getElem? q)).1) Re1
  refine ⟨by rw [List.length_map, hpl]; exact sz_of h1.1, fun p hp => ?_⟩
  have hi' : i < σ.length := by rw [hl]; exact lt_of_at hi
  obtain ⟨R2, nlk⟩ := R1.setObj m1 n1 Re1 hp (Ext.new hp) (o := .lst (refs ps)) ⟨ps.map V.ref, upd_same, refs_rep ps⟩ hi'
  exact ok.nx _ _ _ R2 (h1.2 ps p hpl nlk)
end
end Dl

/-! The map of a gate: mathematics. -/
namespace Gh
open PySem L2 Dl
variable [KOf]
/-! ### how many states there can be -/
def enumL : List Nat → List (List Int)
  | [] => [[]]
  | n :: r => (List.range n).flatMap fun (i : Nat) => (enumL r).map fun l => (i : Int) :: l
theorem flat_len {α β : Type} {f : α → List β} {k : Nat} : ∀ {l : List α}, (∀ x ∈ l, (f x).length = k) → (l.flatMap f).length = l.length * k
  | [], _ => by simp
  | x :: l, h => by
    rw [List.flatMap_cons, List.length_append, h x List.mem_cons_self, flat_len fun y hy => h y (List.mem_cons_of_mem _ hy), List.length_cons, Nat.succ_mul, Nat.add_comm]
theorem enumL_len : ∀ ns : List Nat, (enumL ns).length = prodN ns
  | [] => rfl
  | n :: r => by
    show ((List.range n).flatMap _).length = n * prodN r
    rw [flat_len (k := prodN r) fun x _ => by rw [List.length_map, enumL_len r], List.length_range]
theorem enumL_mem : ∀ {ns : List Nat} {l : List Int}, l.length = ns.length → (∀ (i : Nat) (x : Int) (n : Nat), l[i]? = some x → ns[i]? = some n → 0 ≤ x ∧ x < n) → l ∈ enumL ns
  | [], [], _, _ => by simp [enumL]
  | [], _ :: _, h, _ => by cases h
  | _ :: _, [], h, _ => by cases h
  | n :: r, x :: l, h, k => by
    obtain ⟨h0, h1⟩ := k 0 x n rfl rfl
    refine List.mem_flatMap.mpr ⟨x.toNat, List.mem_range.mpr (by omega), List.mem_map.mpr ⟨l, enumL_mem (Nat.succ.inj h) (fun i y m e f => k (i + 1) y m e f), ?_⟩⟩
    rw [Int.toNat_of_nonneg h0]
theorem nodup_sub {α : Type} [DecidableEq α] : ∀ {l L : List α}, l.Nodup → (∀ x ∈ l, x ∈ L) → l.length ≤ L.length
  | [], _, _, _ => Nat.zero_le _
  | x :: l, L, nd, h => by
    obtain ⟨n1, n2⟩ := List.nodup_cons.mp nd
    have hx := h x List.mem_cons_self
    have := nodup_sub (L := L.erase x) n2 fun y hy => (List.mem_erase_of_ne fun e => n1 (by rw [← e]; exact hy)).mpr (h y (List.mem_cons_of_mem _ hy))
    rw [List.length_erase_of_mem hx] at this
    have : 0 < L.length := List.length_pos_of_mem hx
    rw [List.length_cons]
    omega
theorem stt_count {g : Gt} {l : List Stt} (nd : l.Nodup) (ok : ∀ s ∈ l, OkStt g s) : l.length ≤ szG g := by
  have e : ((enumL (g.bs.map fun b => (b.2 + 1).toNat)).flatMap fun b => (enumL (g.hs.map fun h => h.2.length)).map fun p => (⟨b, p⟩ : Stt)).length = szG g := by
    rw [flat_len (k := prodN (g.hs.map fun h => h.2.length)) fun x _ => by rw [List.length_map, enumL_len], enumL_len]
    rfl
  rw [← e]
  refine nodup_sub nd fun s hs => ?_
  have o := ok s hs
  refine List.mem_flatMap.mpr ⟨s.b, enumL_mem (by rw [List.length_map]; exact o.lb) (fun i x n e1 e2 => ?_), List.mem_map.mpr ⟨s.p, enumL_mem (by rw [List.length_map]; exact o.lp) (fun i x n e1 e2 => ?_), rfl⟩⟩
  · obtain ⟨b, hb, rfl⟩ := map_at e2
    have := o.bx i x b e1 hb
    omega
  · obtain ⟨b, hb, rfl⟩ := map_at e2
    exact o.pl i x b e1 hb
/-! ### all states, breadth first -/
abbrev Root := Option (Nat × Nat)
structure MM where
  st : List Stt
  rt : List Root
  rows : List (List Nat)
abbrev Hop := List Stt × List Root × List Nat
def hopM (g : Gt) (a : Nat) (x : Hop) (h : Nat) : Hop :=
  if doneM g (x.1.getD a (begM g)) h ∈ x.1 then (x.1, x.2.1, x.2.2 ++ [x.1.idxOf (doneM g (x.1.getD a (begM g)) h)]) else (x.1 ++ [doneM g (x.1.getD a (begM g)) h], x.2.1 ++ [some (a, h)], x.2.2 ++ [x.1.length])
def hopsM (g : Gt) (a : Nat) (x : Hop) : Nat → Hop
  | 0 => x
  | n + 1 => hopM g a (hopsM g a x n) n
def rowM (g : Gt) (m : MM) : MM := ⟨(hopsM g m.rows.length (m.st, m.rt, []) g.hs.length).1, (hopsM g m.rows.length (m.st, m.rt, []) g.hs.length).2.1, m.rows ++ [(hopsM g m.rows.length (m.st, m.rt, []) g.hs.length).2.2]⟩
def mapF (g : Gt) : Nat → MM → MM
  | 0, m => m
  | k + 1, m => if m.rows.length < m.st.length then mapF g k (rowM g m) else m
def map0 (g : Gt) : MM := ⟨[begM g], [none], []⟩
def mapM (g : Gt) : MM := mapF g 5001 (map0 g)
structure WfS (g : Gt) (st : List Stt) (rt : List Root) : Prop where
  nd : st.Nodup
  ok : ∀ s ∈ st, OkStt g s
  s0 : st[0]? = some (begM g)
  lr : rt.length = st.length
  r0 : rt[0]? = some none
  rs : ∀ i, 0 < i → i < st.length → ∃ (a h : Nat) (s : Stt), rt[i]? = some (some (a, h)) ∧ a < i ∧ h < g.hs.length ∧ st[a]? = some s ∧ st[i]? = some (doneM g s h)
def RowOk (g : Gt) (st : List Stt) (a : Nat) (row : List Nat) : Prop := ∀ (h k : Nat), row[h]? = some k → ∃ s, st[a]? = some s ∧ st[k]? = some (doneM g s h)
structure Wf (g : Gt) (m : MM) : Prop where
  s : WfS g m.st m.rt
  rl : m.rows.length ≤ m.st.length
  rw : ∀ (a : Nat) (row : List Nat), m.rows[a]? = some row → row.length = g.hs.length ∧ RowOk g m.st a row
theorem app_at {α : Type} {l e : List α} {i : Nat} {x : α} (h : l[i]? = some x) : (l ++ e)[i]? = some x := by
  rw [List.getElem?_append_left (List.getElem?_eq_some_iff.mp h).1]; exact h
theorem RowOk.app {g : Gt} {st e : List Stt} {a : Nat} {row : List Nat} (r : RowOk g st a row) : RowOk g (st ++ e) a row := fun h k z => let ⟨s, h1, h2⟩ := r h k z; ⟨s, app_at h1, app_at h2⟩
section
variable {g : Gt} (og : OkGate g) (sz : szG g ≤ 5000)
include og
theorem WfS.begin : WfS g [begM g] [none] := ⟨by simp, fun s hs => by rw [List.mem_singleton.mp hs]; exact begM_ok og, rfl, rfl, rfl, fun i h1 h2 => by simp at h2; omega⟩
theorem WfS.room {st : List Stt} {rt : List Root} (w : WfS g st rt) {s : Stt} (os : OkStt g s) (hs : s ∉ st) (sz : szG g ≤ 5000) : st.length < 5000 := by
  have := stt_count (g := g) (l := st ++ [s]) (List.nodup_append.mpr ⟨w.nd, by simp, fun a ha b hb e => by rw [List.mem_singleton.mp hb] at e; rw [e] at ha; exact hs ha⟩) fun t ht => (List.mem_append.mp ht).elim (w.ok t) fun z => by rw [List.mem_singleton.mp z]; exact os
  rw [List.length_append] at this
  simp at this
  omega
omit og in
theorem WfS.le {st : List Stt} {rt : List Root} (w : WfS g st rt) (sz : szG g ≤ 5000) : st.length ≤ 5000 := Nat.le_trans (stt_count w.nd w.ok) sz
/-- one hop -/
theorem hop_wf {a h : Nat} {x : Hop} {s : Stt} (w : WfS g x.1 x.2.1) (ha : x.1[a]? = some s) (hh : h < g.hs.length) : WfS g (hopM g a x h).1 (hopM g a x h).2.1 ∧ (∃ e, (hopM g a x h).1 = x.1 ++ e) ∧ ∃ k, (hopM g a x h).2.2 = x.2.2 ++ [k] ∧ (hopM g a x h).1[k]? = some (doneM g s h) := by
  have e : x.1.getD a (begM g) = s := by rw [List.getD_eq_getElem?_getD, ha]; rfl
  unfold hopM
  rw [e]
  have os : OkStt g (doneM g s h) := doneM_ok og (w.ok s (List.mem_of_getElem? ha))
  by_cases hm : doneM g s h ∈ x.1
  · rw [if_pos hm]
    refine ⟨w, ⟨[], (List.append_nil _).symm⟩, _, rfl, ?_⟩
    have hl := List.idxOf_lt_length_of_mem hm
    show x.1[x.1.idxOf (doneM g s h)]? = _
    rw [List.getElem?_eq_getElem hl, List.getElem_idxOf]
  · rw [if_neg hm]
    have hal : a < x.1.length := (List.getElem?_eq_some_iff.mp ha).1
    refine ⟨⟨List.nodup_append.mpr ⟨w.nd, by simp, fun c hc b hb e => by rw [List.mem_singleton.mp hb] at e; rw [e] at hc; exact hm hc⟩, fun t ht => (List.mem_append.mp ht).elim (w.ok t) fun z => by rw [List.mem_singleton.mp z]; exact os, app_at w.s0, by
      show (x.2.1 ++ [_]).length = (x.1 ++ [_]).length
      rw [List.length_append, List.length_append, w.lr]; rfl, app_at w.r0, fun i i0 il => ?_⟩, ⟨_, rfl⟩, x.1.length, rfl, ?_⟩
    · rcases Nat.lt_or_ge i x.1.length with q | q
      · obtain ⟨a', h', s', h1, h2, h3, h4, h5⟩ := w.rs i i0 q
        exact ⟨a', h', s', app_at h1, h2, h3, app_at h4, app_at h5⟩
      · have il' : i < (x.1 ++ [doneM g s h]).length := il
        rw [List.length_append] at il'
        have ei : i = x.1.length := by simp at il'; omega
        refine ⟨a, h, s, ?_, by omega, hh, app_at ha, ?_⟩
        · show (x.2.1 ++ [some (a, h)])[i]? = _
          rw [ei, ← w.lr, List.getElem?_append_right (Nat.le_refl _), Nat.sub_self]
          rfl
        · show (x.1 ++ [_])[i]? = _
          rw [ei, List.getElem?_append_right (Nat.le_refl _), Nat.sub_self]
          rfl
    · show (x.1 ++ [_])[x.1.length]? = _
      rw [List.getElem?_append_right (Nat.le_refl _), Nat.sub_self]
      rfl
theorem hops_wf {a : Nat} {x : Hop} {s : Stt} (w : WfS g x.1 x.2.1) (ha : x.1[a]? = some s) (hx : x.2.2 = []) : ∀ n, n ≤ g.hs.length → WfS g (hopsM g a x n).1 (hopsM g a x n).2.1 ∧ (∃ e, (hopsM g a x n).1 = x.1 ++ e) ∧ (hopsM g a x n).2.2.length = n ∧ RowOk g (hopsM g a x n).1 a (hopsM g a x n).2.2
  | 0, _ => ⟨w, ⟨[], (List.append_nil _).symm⟩, by show x.2.2.length = 0; rw [hx]; rfl, fun h k z => by
    have z' : x.2.2[h]? = some k := z
    rw [hx] at z'
    cases z'⟩
  | n + 1, hn => by
    obtain ⟨w1, ⟨e, he⟩, hl, hr⟩ := hops_wf w ha hx n (by omega)
    have ha1 : (hopsM g a x n).1[a]? = some s := by rw [he]; exact app_at ha
    obtain ⟨w2, ⟨e2, he2⟩, k, hk, hk2⟩ := hop_wf og w1 ha1 (show n < g.hs.length by omega)
    refine ⟨w2, ⟨e ++ e2, ?_⟩, ?_, fun h j z => ?_⟩
    · show (hopM g a (hopsM g a x n) n).1 = _
      rw [he2, he, List.append_assoc]
    · show (hopM g a (hopsM g a x n) n).2.2.length = n + 1
      rw [hk, List.length_append, hl]; rfl
    · have z' : (hopM g a (hopsM g a x n) n).2.2[h]? = some j := z
      rw [hk] at z'
      rcases snoc_at z' with q | ⟨q, q2⟩
      · obtain ⟨t, t1, t2⟩ := hr h j q
        refine ⟨t, ?_, ?_⟩
        · show (hopM g a (hopsM g a x n) n).1[a]? = _
          rw [he2]; exact app_at t1
        · show (hopM g a (hopsM g a x n) n).1[j]? = _
          rw [he2]; exact app_at t2
      · subst q2
        rw [hl] at q
        subst q
        refine ⟨s, ?_, hk2⟩
        show (hopM g a (hopsM g a x h) h).1[a]? = _
        rw [he2]; exact app_at ha1
theorem row_wf {m : MM} (w : Wf g m) (hl : m.rows.length < m.st.length) : Wf g (rowM g m) := by
  obtain ⟨s, hs⟩ : ∃ s, m.st[m.rows.length]? = some s := ⟨_, List.getElem?_eq_getElem hl⟩
  obtain ⟨w1, ⟨e, he⟩, h1, h2⟩ := hops_wf og (x := (m.st, m.rt, [])) w.s hs rfl g.hs.length (Nat.le_refl _)
  refine ⟨w1, ?_, fun a row z => ?_⟩
  · show (m.rows ++ [_]).length ≤ (hopsM g m.rows.length (m.st, m.rt, []) g.hs.length).1.length
    rw [he, List.length_append, List.length_append]
    have : m.rows.length < m.st.length := hl
    simp
    omega
  · have z' : (m.rows ++ [_])[a]? = some row := z
    rcases snoc_at z' with q | ⟨q, q2⟩
    · obtain ⟨r1, r2⟩ := w.rw a row q
      refine ⟨r1, ?_⟩
      show RowOk g (hopsM g m.rows.length (m.st, m.rt, []) g.hs.length).1 a row
      rw [he]
      exact r2.app
    · subst q2
      subst q
      exact ⟨h1, h2⟩
theorem map0_wf : Wf g (map0 g) := ⟨WfS.begin og, Nat.zero_le _, fun a row z => by cases z⟩
omit og in
theorem mapF_stop {k : Nat} {m : MM} (h : ¬ m.rows.length < m.st.length) : mapF g k m = m := by
  cases k with
  | zero => rfl
  | succ k => unfold mapF; rw [if_neg h]
omit og in
theorem mapF_go {k : Nat} {m : MM} (h : m.rows.length < m.st.length) : mapF g (k + 1) m = mapF g k (rowM g m) := by
  show (if m.rows.length < m.st.length then mapF g k (rowM g m) else m) = _
  rw [if_pos h]
omit og in
theorem rowM_len (m : MM) : (rowM g m).rows.length = m.rows.length + 1 := by
  show (m.rows ++ [_]).length = _
  rw [List.length_append]; rfl
theorem mapF_wf (sz : szG g ≤ 5000) : ∀ {k : Nat} {m : MM}, Wf g m → 5000 < k + m.rows.length → Wf g (mapF g k m) ∧ (mapF g k m).rows.length = (mapF g k m).st.length
  | 0, m, w, h => by
    have := w.s.le sz
    exact absurd w.rl (by omega)
  | k + 1, m, w, h => by
    by_cases q : m.rows.length < m.st.length
    · rw [mapF_go q]
      exact mapF_wf sz (row_wf og w q) (by rw [rowM_len]; omega)
    · rw [mapF_stop q]
      exact ⟨w, Nat.le_antisymm w.rl (by omega)⟩
theorem mapM_wf (sz : szG g ≤ 5000) : Wf g (mapM g) ∧ (mapM g).rows.length = (mapM g).st.length := mapF_wf og sz (map0_wf og) (by show 5000 < 5001 + 0; decide)
end
/-! ### the weaving to a state -/
def wayF (rt : List Root) : Nat → Nat → List Nat
  | 0, _ => []
  | k + 1, n => match rt[n]? with
    | some (some (a, h)) => wayF rt k a ++ [h]
    | _ => []
def wayM (rt : List Root) (n : Nat) : List Nat := wayF rt (n + 1) n
theorem wayF_root {rt : List Root} {k n a h : Nat} (e : rt[n]? = some (some (a, h))) : wayF rt (k + 1) n = wayF rt k a ++ [h] := by
  show (match rt[n]? with | some (some (a, h)) => wayF rt k a ++ [h] | _ => []) = _
  rw [e]
theorem wayF_none {rt : List Root} {k n : Nat} (e : rt[n]? = some none) : wayF rt k n = [] := by
  cases k with
  | zero => rfl
  | succ k =>
    show (match rt[n]? with | some (some (a, h)) => wayF rt k a ++ [h] | _ => []) = _
    rw [e]
section
variable {g : Gt} {st : List Stt} {rt : List Root} (w : WfS g st rt)
include w
theorem wayF_fuel : ∀ {k n : Nat}, n < st.length → n < k → wayF rt k n = wayM rt n
  | 0, n, _, h => absurd h (Nat.not_lt_zero _)
  | k + 1, n, hn, h => by
    rcases Nat.eq_zero_or_pos n with rfl | h0
    · unfold wayM
      rw [wayF_none w.r0, wayF_none w.r0]
    · obtain ⟨a, hd, s, e, ha, _⟩ := w.rs n h0 hn
      unfold wayM
      rw [wayF_root e, wayF_root e, wayF_fuel (by omega) (by omega)]
      congr 1
      exact (wayF_fuel (k := n) (by omega) ha).symm
theorem wayM_root {n a h : Nat} (hn : n < st.length) (e : rt[n]? = some (some (a, h))) : wayM rt n = wayM rt a ++ [h] := by
  have h0 : 0 < n := by
    rcases Nat.eq_zero_or_pos n with rfl | z
    · rw [w.r0] at e; cases e
    · exact z
  obtain ⟨a', h', s, e', ha, _⟩ := w.rs n h0 hn
  rw [e] at e'
  cases e'
  unfold wayM
  rw [wayF_root e, wayF_fuel w (by omega) ha]
  rfl
theorem wayM_zero : wayM rt 0 = [] := wayF_none w.r0
theorem wayM_len : ∀ n, n < st.length → (wayM rt n).length ≤ n := fun n => by
  induction n using Nat.strongRecOn with
  | ind n ih =>
    intro hn
    rcases Nat.eq_zero_or_pos n with rfl | h0
    · rw [wayM_zero w]; exact Nat.le_refl 0
    · obtain ⟨a, h, s, e, ha, _⟩ := w.rs n h0 hn
      rw [wayM_root w hn e, List.length_append]
      have := ih a ha (by omega)
      simp
      omega
theorem wayM_good : ∀ n, n < st.length → ∀ h ∈ wayM rt n, h < g.hs.length := fun n => by
  induction n using Nat.strongRecOn with
  | ind n ih =>
    intro hn
    rcases Nat.eq_zero_or_pos n with rfl | h0
    · rw [wayM_zero w]; exact fun _ z => nomatch z
    · obtain ⟨a, h, s, e, ha, hh, _⟩ := w.rs n h0 hn
      rw [wayM_root w hn e]
      intro x hx
      rcases List.mem_append.mp hx with z | z
      · exact ih a ha (by omega) x z
      · rw [List.mem_singleton.mp z]; exact hh
abbrev natI (l : List Nat) : List Int := l.map fun (k : Nat) => (k : Int)
theorem wayM_comes : ∀ n, n < st.length → st[n]? = some (stAt g (natI (wayM rt n)) (wayM rt n).length) := fun n => by
  induction n using Nat.strongRecOn with
  | ind n ih =>
    intro hn
    rcases Nat.eq_zero_or_pos n with rfl | h0
    · rw [wayM_zero w]
      exact w.s0
    · obtain ⟨a, h, s, e, ha, hh, hs, ht⟩ := w.rs n h0 hn
      have hc := ih a ha (by omega)
      rw [hs] at hc
      have hc' := Option.some.inj hc
      rw [wayM_root w hn e, ht, List.length_append]
      show some _ = some (doneM g (stAt g (natI (wayM rt a ++ [h])) (wayM rt a).length) (((natI (wayM rt a ++ [h]))[(wayM rt a).length]?).getD 0).toNat)
      have e1 : natI (wayM rt a ++ [h]) = natI (wayM rt a) ++ [(h : Int)] := by
        show (wayM rt a ++ [h]).map _ = _
        rw [List.map_append]
        rfl
      have e2 : (natI (wayM rt a) ++ [(h : Int)])[(wayM rt a).length]? = some (h : Int) := by
        rw [List.getElem?_append_right (by rw [List.length_map]; exact Nat.le_refl _), List.length_map, Nat.sub_self]
        rfl
      have e3 : stAt g (natI (wayM rt a) ++ [(h : Int)]) (wayM rt a).length = stAt g (natI (wayM rt a)) (wayM rt a).length := stAt_congr _ fun i hi => by
        rw [List.getElem?_append_left (by rw [List.length_map]; exact hi)]
      rw [e1, e2, e3, ← hc']
      rfl
end
/-! ### as data -/
def dRoot : Root → D
  | none => .non
  | some (a, h) => .tup [.int (a : Nat), .int (h : Nat)]
def dNat (k : Nat) : D := .int (k : Int)
def dNats (l : List Nat) : D := .lst (l.map dNat)
def dSts (st : List Stt) : D := .lst (st.map dStt)
def mFld : List Str := ["found", "sources", "behind"]
def dMap (C : Addr) (m : MM) : D := .obj C ["found", "sources", "behind"] [.lst (m.st.map dStt), .lst (m.rt.map dRoot), .lst (m.rows.map dNats)]
theorem ints_inj : ∀ {a b : List Int}, a.map D.int = b.map D.int → a = b
  | [], [], _ => rfl
  | [], _ :: _, h => by cases h
  | _ :: _, [], h => by cases h
  | x :: a, y :: b, h => by
    injection h with h1 h2
    injection h1 with h1
    rw [h1, ints_inj h2]
theorem dStt_inj {a b : Stt} (h : dStt a = dStt b) : a = b := by
  cases a
  cases b
  unfold dStt dInts at h
  injection h with h
  injection h with h1 h2
  injection h1 with h1
  injection h2 with h2
  injection h2 with h2
  have h1 := ints_inj h1
  have h2 := ints_inj h2
  dsimp only at h1 h2
  rw [h1, h2]
theorem dStt_mem {s : Stt} {st : List Stt} : dStt s ∈ st.map dStt ↔ s ∈ st := by
  constructor
  · intro h
    obtain ⟨t, ht, e⟩ := List.mem_map.mp h
    rw [← dStt_inj e]
    exact ht
  · exact fun h => List.mem_map.mpr ⟨s, h, rfl⟩
theorem keysOf_ints : ∀ l : List Int, keysOf (l.map D.int) = some (l.map NestedKey.num)
  | [] => by simp [keysOf]
  | x :: l => by
    show keysOf (D.int x :: l.map D.int) = _
    exact keysOf_of (by simp [Dl.keyOf]) (keysOf_ints l)
theorem depth_nums : ∀ l : List Int, NestedKey.depthAll (l.map NestedKey.num) ≤ 1
  | [] => by simp [NestedKey.depthAll]
  | x :: l => by
    have := depth_nums l
    simp only [List.map_cons, NestedKey.depthAll, NestedKey.depth]
    omega
theorem keyD_stt (s : Stt) : KeyD (dStt s) := by
  refine ⟨[dInts s.b, dInts s.p], [.tup (s.b.map .num), .tup (s.p.map .num)], rfl, ?_, ?_⟩
  · exact keysOf_of (by unfold dInts Dl.keyOf; rw [keysOf_ints]; rfl) (keysOf_of (by unfold dInts Dl.keyOf; rw [keysOf_ints]; rfl) (by simp [keysOf]))
  · have h1 := depth_nums s.b
    have h2 := depth_nums s.p
    simp only [NestedKey.depth, NestedKey.depthAll]
    omega
theorem idx_at {st : List Stt} {s : Stt} (h : s ∈ st) : (st.map dStt)[st.idxOf s]? = some (dStt s) := by
  have hl := List.idxOf_lt_length_of_mem h
  rw [List.getElem?_map, List.getElem?_eq_getElem hl, List.getElem_idxOf]
  rfl
theorem nats_at {n i : Nat} (h : i < n) : ((List.range n).map dNat)[i]? = some (.int i) := by
  rw [List.getElem?_map, List.getElem?_range h]
  rfl
end Gh

namespace Dl
open PySem L2 PyProof.Rows
variable [KOf]
def wIsNotN : WR := fun d f Φ => match f with
  | .non => (match d with
    | .non => Φ (.bl false)
    | .raw _ => False
    | _ => Φ (.bl true))
  | _ => False
theorem ar_notN : AbsR (fun x y H Q => y = .non ∧ Q (.bl (!decide (x = .non))) H) wIsNotN := by
  intro δ M H fr x y d f rx ry Φ Q h k
  cases ry <;> first | exact False.elim h | skip
  cases rx <;> first | exact False.elim h | exact ⟨rfl, k _ H _ (Ext.refl H) (.bl _) h⟩
end Dl
/-! The promises. -/
namespace Gh
open PySem L2 Dl
variable [KOf]
def P_init (ss : List S) (Φ : List Str → List D → Prop) (Ψ : XD → Prop) : Prop := ∃ g, ss = [.d (dBoxes g.bs), .d (.lst (g.hs.map dHand))] ∧ OkGate g ∧ Φ ["pairs", "programs", "knocks", "insides"] [.tup (g.bs.map dBox), dProgs g, .tup (g.hs.map fun h => .int h.1), .tup (g.hs.map fun h => .int (inAt h))]
def P_made (C : Addr) (ss : List S) (Φ : D → Prop) : Prop := ∃ g, ss = [.d (dGate g)] ∧ OkGate g ∧ Φ (dObj C g)
def PP_done (C aN : Addr) (ss : List S) (Φ : D → Prop) (Ψ : XD → Prop) : Prop := ∃ (g : Gt) (s : Stt) (h : Int), ss = [.d (dObj C g), .d (dStt s), .d (.int h)] ∧ OkGate g ∧ OkStt g s ∧ h.natAbs ≤ 1000000000 ∧
  ((0 ≤ h ∧ h < g.hs.length) → Φ (dStt (doneM g s h.toNat))) ∧ (¬ (0 ≤ h ∧ h < g.hs.length) → Ψ ⟨.ref aN, none⟩)
def PP_done0 (C : Addr) (ss : List S) (Φ : D → Prop) : Prop := ∃ (g : Gt) (s : Stt) (i : Nat), ss = [.d (dObj C g), .d (dStt s), .d (.int i)] ∧ OkGate g ∧ OkStt g s ∧ i < g.hs.length ∧ Φ (dStt (doneM g s i))
theorem done_calm {C aN : Addr} {vs : List V} {H : Hp} {Q : VK} {E : XK} (z : spD 3 (PP_done0 C) vs H Q E) : spD 3 (fun ss Φ => PP_done C aN ss Φ fun _ => False) vs H Q E := by
  obtain ⟨δ, M, ss, Φ, h1, h2, h3, h4, h5, ⟨g, s, i, rfl, og, os, hi, hQ⟩, h7⟩ := z
  have h4' := og.h4
  exact ⟨δ, M, _, Φ, h1, h2, h3, h4, h5, ⟨g, s, (i : Int), rfl, og, os, by omega, fun _ => by rw [Int.toNat_natCast]; exact hQ, fun z => absurd ⟨by omega, by omega⟩ z⟩, h7⟩
def PP_check_hand (C aN : Addr) (ss : List S) (Φ : D → Prop) (Ψ : XD → Prop) : Prop := ∃ (g : Gt) (h : Int), ss = [.d (dObj C g), .d (.int h)] ∧ OkGate g ∧ h.natAbs ≤ 1000000000 ∧ ((0 ≤ h ∧ h < g.hs.length) → Φ .non) ∧ (¬ (0 ≤ h ∧ h < g.hs.length) → Ψ ⟨.ref aN, none⟩)
def spDice (K : PySem.W.Frag) : Sp := fun vs H Q _ => ∃ (a : Addr) (ns : List Int) (k : Int), vs = [.ref a, .int k] ∧ SqL K H a (ns.map V.int) ∧ ns.length ≤ 63 ∧
  ∀ (p : Addr) (H' : Hp) (ms : List Int), H p = none → Same H H' → H' p = some (.lst (ms.map V.int)) → 2 ≤ ms.length → Q (.ref p) H'
def spLaw (K : PySem.W.Frag) : Sp := fun vs H Q _ => ∃ (a : Addr) (ns : List Int), vs = [.ref a] ∧ SqL K H a (ns.map V.int) ∧ ns.length ≤ 63 ∧ ∀ H', Q (.bl true) H'
theorem rs_dice {p : Addr} {H : Hp} {σ : L2.St} {n : Nat} (hl : σ.length = n + 2) (h1 : σ[1]? = some (some (.ref p))) (hd : DiceAt H p) : RS (some p) [] H E0 ⟨fun _ => False, fun _ => False⟩ σ H (none :: some .dice :: List.replicate n none) := by
  have no : ∀ {i : Nat} {q : Addr} {s : S}, (none :: some S.dice :: List.replicate n (none : Option S))[i]? = some (some s) → s.adr ≠ some q := fun {i q s} z e => by
    rcases i with _ | _ | i
    · cases z
    · cases z; cases e
    · have z' : (List.replicate n (none : Option S))[i]? = some (some s) := z
      have := List.eq_of_mem_replicate (List.mem_of_getElem? z')
      cases this
  refine ⟨⟨[], fun _ h => h, fun _ h => .inl h, ⟨?_, fun i s z => ?_, fun i j q s t z _ e => absurd e (no z), fun b hb => (nomatch hb), fun a ha => by cases ha; exact hd, ⟨H, [], Ext.refl H, (fun b hb => nomatch hb), (fun i q s z e => absurd e (no z)), fun _ _ _ _ _ _ z => False.elim z⟩⟩⟩, KD.refl H, fun a ha => by cases ha; exact hd, fun i q s z e => absurd e (no z), fun _ z => False.elim z, fun b hb => nomatch hb⟩
  · rw [hl]
    show n + 2 ≤ (List.replicate n (none : Option S)).length + 1 + 1
    rw [List.length_replicate]
    exact Nat.le_refl _
  · rcases i with _ | _ | i
    · cases z
    · cases z
      exact ⟨_, fun _ => h1, .dice rfl hd⟩
    · have z' : (List.replicate n (none : Option S))[i]? = some (some s) := z
      have := List.eq_of_mem_replicate (List.mem_of_getElem? z')
      cases this
/-! ### of the map -/
def dNumb (st : List Stt) : List D × List D := (st.map dStt, (List.range st.length).map dNat)
theorem dNumb_l1 (st : List Stt) : (dNumb st).1.length = st.length := List.length_map _
theorem dNumb_l2 (st : List Stt) : (dNumb st).2.length = st.length := by unfold dNumb; rw [List.length_map, List.length_range]
theorem dNumb_1 (st : List Stt) (s : Stt) : (dNumb (st ++ [s])).1 = (dNumb st).1 ++ [dStt s] := by unfold dNumb; rw [List.map_append]; rfl
theorem dNumb_2 (st : List Stt) (s : Stt) : (dNumb (st ++ [s])).2 = (dNumb st).2 ++ [.int (st.length : Nat)] := by
  show (List.range (st ++ [s]).length).map dNat = (List.range st.length).map dNat ++ [.int (st.length : Nat)]
  rw [List.length_append, List.length_singleton, List.range_succ, List.map_append]
  rfl
theorem snoc_last {α : Type} {l : List α} {x : α} {n : Nat} (h : l.length = n) : (l ++ [x])[n]? = some x := by
  rw [← h, List.getElem?_append_right (Nat.le_refl _), Nat.sub_self]
  rfl
/-- look_behind: the map so far and the numbers; one row more -/
def PP_Map_look_behind (C cM : Addr) (ss : List S) (os : List (Addr × OC)) (Φ : List OC → Prop) : Prop := ∃ (g : Gt) (m : MM) (x p1 p2 p3 pn dx : Addr),
  ss = [.d (.raw (.ref x)), .d (dObj C g), .d (.raw (.ref pn))] ∧ OkGate g ∧ szG g ≤ 5000 ∧ Wf g m ∧ m.rows.length < m.st.length ∧
  os = [(x, .ins cM dx mFld [.raw (.ref p1), .raw (.ref p2), .raw (.ref p3)]), (p1, .lst (m.st.map dStt)), (p2, .lst (m.rt.map dRoot)), (p3, .lst (m.rows.map dNats)), (pn, .dT (dNumb m.st).1 (dNumb m.st).2)] ∧
  Φ [.ins cM dx mFld [.raw (.ref p1), .raw (.ref p2), .raw (.ref p3)], .lst ((rowM g m).st.map dStt), .lst ((rowM g m).rt.map dRoot), .lst ((rowM g m).rows.map dNats), .dT (dNumb (rowM g m).st).1 (dNumb (rowM g m).st).2]
def PP_Map_init (C : Addr) (ss : List S) (Φ : List Str → List D → Prop) (_ : XD → Prop) : Prop := ∃ g, ss = [.d (dObj C g)] ∧ OkGate g ∧ szG g ≤ 5000 ∧ Φ mFld [.lst ((mapM g).st.map dStt), .lst ((mapM g).rt.map dRoot), .lst ((mapM g).rows.map dNats)]
def PP_Map_states (cM : Addr) (ss : List S) (Φ : List D → Prop) : Prop := ∃ m, ss = [.d (dMap cM m)] ∧ Φ (m.st.map dStt)
def PP_Map_steps (cM : Addr) (ss : List S) (Φ : List D → Prop) : Prop := ∃ (m : MM) (i : Nat) (r : List Nat), ss = [.d (dMap cM m), .d (.int i)] ∧ m.rows[i]? = some r ∧ Φ (r.map dNat)
def PP_way_to (ss : List S) (Φ : List D → Prop) : Prop := ∃ (g : Gt) (st : List Stt) (rt : List Root) (i : Nat), ss = [.d (.lst (rt.map dRoot)), .d (.int i)] ∧ WfS g st rt ∧ szG g ≤ 5000 ∧ i < st.length ∧ Φ ((wayM rt i).map dNat)
def PP_Map_weaving_to (cM : Addr) (ss : List S) (Φ : List D → Prop) : Prop := ∃ (g : Gt) (m : MM) (i : Nat), ss = [.d (dMap cM m), .d (.int i)] ∧ WfS g m.st m.rt ∧ szG g ≤ 5000 ∧ i < m.st.length ∧ Φ ((wayM m.rt i).map dNat)
def P_map (ss : List S) (Φ : D → Prop) : Prop := ∃ g, ss = [.d (dGate g)] ∧ OkGate g ∧ szG g ≤ 5000 ∧ Φ (.tup [.lst ((mapM g).st.map dStt), .lst ((mapM g).rows.map dNats), .lst ((mapM g).rt.map dRoot)])
def P_weaving (ss : List S) (Φ : D → Prop) : Prop := ∃ (g : Gt) (st : List Stt) (rt : List Root) (i : Nat), ss = [.d (.lst (rt.map dRoot)), .d (.int i)] ∧ WfS g st rt ∧ szG g ≤ 5000 ∧ i < st.length ∧ Φ (.lst ((wayM rt i).map dNat))
end Gh
namespace Gh
open PySem L2 Dl
variable [KOf]
/-! ### states as data: alike, equal -/
theorem lvI (n : Nat) (l : List Int) (h : l.length < 100000) : Lv (n + 2) (dInts l) := ⟨by rw [List.length_map]; exact h, fun x hx => by
  obtain ⟨i, _, rfl⟩ := List.mem_map.mp hx
  exact trivial⟩
theorem lvS {g : Gt} (og : OkGate g) {s : Stt} (os : OkStt g s) (n : Nat) : Lv (n + 3) (dStt s) := by
  have h4 := og.h4
  have b12 := og.bs.2.1
  have lb := os.lb
  have lp := os.lp
  refine ⟨by show 2 < 100000; omega, fun x hx => ?_⟩
  rcases List.mem_cons.mp hx with rfl | hx
  · exact lvI n _ (by omega)
  · rw [List.mem_singleton.mp hx]
    exact lvI n _ (by omega)
theorem lvSts {g : Gt} (og : OkGate g) {st : List Stt} (ok : ∀ s ∈ st, OkStt g s) (hl : st.length < 100000) (n : Nat) : Lv (n + 4) (.lst (st.map dStt)) := ⟨by rw [List.length_map]; exact hl, fun x hx => by
  obtain ⟨s, hs, rfl⟩ := List.mem_map.mp hx
  exact lvS og (ok s hs) n⟩
theorem lvNats (n : Nat) (l : List Nat) (h : l.length < 100000) : Lv (n + 2) (.lst (l.map dNat)) := ⟨by rw [List.length_map]; exact h, fun x hx => by
  obtain ⟨i, _, rfl⟩ := List.mem_map.mp hx
  exact trivial⟩
theorem eqv_ints : ∀ l : List Int, PyData.eqvAll (D.pys (l.map .int)) (D.pys (l.map .int)) = true
  | [] => by simp [D.pys, PyData.eqvAll]
  | x :: r => by simp [D.pys, D.py, PyData.eqvAll, PyData.eqv, eqv_ints r]
theorem stt_plain (s : Stt) : (dStt s).plain = true := by simp [dStt, dInts, D.plain, D.plains, ints_plain]
theorem stt_shaped (s : Stt) : SeqAt.shaped (dStt s).py = true := by
  simp [SeqAt.shaped, dStt, dInts, D.py, D.pys, PyData.canLay0, PyData.canLayAll0, PyData.depth, PyData.depthAll, ints_lay, ints_depth]
theorem stt_eqv (s : Stt) : PyData.eqv (dStt s).py (dStt s).py = true := by
  simp [dStt, dInts, D.py, D.pys, PyData.eqv, PyData.eqvAll, eqv_ints]
theorem ne_stt {s : Stt} {Φ : D → Prop} (h : Φ (.bl false)) : wNeU (dStt s) (dStt s) Φ := by
  have e : eqS (dStt s) (dStt s) = none := rfl
  unfold wNeU
  rw [e]
  refine ⟨⟨stt_plain s, stt_plain s, stt_shaped s, stt_shaped s⟩, ?_⟩
  rw [stt_eqv]
  exact h
theorem stt_flat (s : Stt) : Dl.flatV (dStt s) = true := by
  have e : ∀ l : List Int, flatVs (l.map D.int) = true := fun l => by
    induction l with
    | nil => simp [flatVs]
    | cons x r ih => simp [flatVs, Dl.flatV, ih]
  simp [dStt, dInts, Dl.flatV, flatVs, e]
theorem statesD_flat (g : Gt) (ws : List Int) (n : Nat) : flatVs (statesD g ws n) = true := by
  unfold statesD
  generalize List.range (n + 1) = l
  induction l with
  | nil => simp [flatVs]
  | cons x r ih => simp [flatVs, stt_flat, ih]
theorem natI_good {g : Gt} {st : List Stt} {rt : List Root} (w : WfS g st rt) {i : Nat} (hi : i < st.length) : Good g (natI (wayM rt i)) := fun z hz => by
  obtain ⟨k, hk, rfl⟩ := List.mem_map.mp hz
  have := wayM_good w i hi k hk
  exact ⟨by omega, by omega⟩
theorem natI_dInts (l : List Nat) : (natI l).map D.int = l.map dNat := by
  rw [List.map_map]
  rfl
end Gh

/-! Constants of the module, as data: what a head tells. -/
namespace Dl
open PySem L2 PyProof.Rows
mutual
def wrB (K : PySem.W.Frag) : D → Value → Bool
  | .int i, .int j _ => decide (i = j)
  | .str s, .str z _ => decide (s = z)
  | .non, .none => true
  | .tup ds, .ref a => (match K.lookup a with
    | some ⟨.type t, _, .seq its _, _⟩ => decide (t = "tuple") && (decide (its.size ≤ 1000) && wrBs K ds its.toList)
    | _ => false)
  | _, _ => false
def wrBs (K : PySem.W.Frag) : List D → List Value → Bool
  | [], [] => true
  | d :: ds, v :: vs => wrB K d v && wrBs K ds vs
  | _, _ => false
end
def gB (x : Str) (d : D) (K : PySem.W.Frag) : Bool := match PySem.W.nsIn K mainGlobals x with
  | some (some u) => wrB K d u
  | _ => false
variable [KOf]
mutual
theorem wrB_ok : ∀ {d : D} {u : Value}, wrB KOf.K d u = true → ∃ v, RelV v u ∧ ∀ (B : Addr → Prop) (H : Hp), Rep B H v d := by
  intro d u h
  cases d with
  | int i =>
    cases u with
    | int j t =>
      have e : i = j := of_decide_eq_true (by simpa [wrB] using h)
      subst e
      exact ⟨.int i, ⟨t, rfl⟩, fun _ _ => .int i⟩
    | _ => simp [wrB] at h
  | str s =>
    cases u with
    | str z t =>
      have e : s = z := of_decide_eq_true (by simpa [wrB] using h)
      subst e
      exact ⟨.str s, ⟨t, rfl⟩, fun _ _ => .str s⟩
    | _ => simp [wrB] at h
  | non =>
    cases u with
    | none => exact ⟨.non, rfl, fun _ _ => .non⟩
    | _ => simp [wrB] at h
  | tup ds =>
    cases u with
    | ref a =>
      unfold wrB at h
      split at h
      · rename_i t dd its n sl e
        simp only [Bool.and_eq_true, decide_eq_true_eq] at h
        obtain ⟨h1, h2, h3⟩ := h
        subst h1
        obtain ⟨vs, r1, r2⟩ := wrBs_ok h3
        exact ⟨.ref a, rfl, fun B H => .tup (.inr ⟨_, its, n, e, rfl, rfl, Nat.le_trans h2 (by decide), r1⟩) (r2 B H)⟩
      · cases h
    | _ => simp [wrB] at h
  | _ => simp [wrB] at h
theorem wrBs_ok : ∀ {ds : List D} {us : List Value}, wrBs KOf.K ds us = true → ∃ vs, Vals vs us ∧ ∀ (B : Addr → Prop) (H : Hp), RepL B H vs ds := by
  intro ds us h
  cases ds with
  | nil =>
    cases us with
    | nil => exact ⟨[], .nil, fun _ _ => .nil⟩
    | cons => simp [wrBs] at h
  | cons d ds =>
    cases us with
    | nil => simp [wrBs] at h
    | cons u us =>
      unfold wrBs at h
      obtain ⟨h1, h2⟩ := Bool.and_eq_true_iff.mp h
      obtain ⟨v, a1, a2⟩ := wrB_ok h1
      obtain ⟨vs, b1, b2⟩ := wrBs_ok h2
      exact ⟨v :: vs, .cons a1 b1, fun B H => .cons (a2 B H) (b2 B H)⟩
end
theorem gB_ok {h : Heap} {mg : Str → Option Value} {x : Str} {d : D} (X : KOf.K.In h) (G : h.Ns mainGlobals mg) (c : gB x d KOf.K = true) : GlD mg x d := by
  unfold gB at c
  split at c
  · rename_i u e
    obtain ⟨v, h1, h2⟩ := wrB_ok c
    exact ⟨v, u, PySem.W.mg_of X G e, h1, h2⟩
  · cases c
end Dl

/-! What may not be. -/
namespace Gh
open PySem L2 Dl
variable [KOf]
/-- two are within -/
def twoAt (g : Gt) (s : Stt) : Bool := decide (2 ≤ (handsD isIn g s g.hs.length).length)
def dWay (rt : List Root) : Option Nat → D
  | none => .non
  | some i => .lst ((wayM rt i).map dNat)
def PP_two_within (C : Addr) (ss : List S) (Φ : D → Prop) : Prop := ∃ g, ss = [.d (dObj C g)] ∧ OkGate g ∧ szG g ≤ 5000 ∧ Φ (dWay (mapM g).rt ((mapM g).st.findIdx? (twoAt g)))
theorem find_none {α : Type} {p : α → Bool} : ∀ {l : List α}, (∀ (j : Nat) (x : α), l[j]? = some x → p x = false) → l.findIdx? p = none := fun {l} h => List.findIdx?_eq_none_iff.mpr fun x hx => by
  obtain ⟨j, hj⟩ := List.getElem?_of_mem hx
  exact h j x hj
theorem find_some {α : Type} {p : α → Bool} {l : List α} {i : Nat} {x : α} (h1 : l[i]? = some x) (h2 : p x = true) (h3 : ∀ (j : Nat) (y : α), j < i → l[j]? = some y → p y = false) : l.findIdx? p = some i := by
  refine List.findIdx?_eq_some_iff_getElem.mpr ⟨(List.getElem?_eq_some_iff.mp h1).1, ?_, fun j hj => ?_⟩
  · rw [(List.getElem?_eq_some_iff.mp h1).2]; exact h2
  · have hl : j < l.length := Nat.lt_trans hj (List.getElem?_eq_some_iff.mp h1).1
    have := h3 j l[j] hj (List.getElem?_eq_getElem hl)
    simp [this]
theorem find_at {α : Type} {p : α → Bool} {l : List α} {i : Nat} (h : l.findIdx? p = some i) : ∃ x, l[i]? = some x ∧ p x = true ∧ ∀ (j : Nat) (y : α), j < i → l[j]? = some y → p y = false := by
  obtain ⟨hl, h1, h2⟩ := List.findIdx?_eq_some_iff_getElem.mp h
  refine ⟨l[i], List.getElem?_eq_getElem hl, h1, fun j y hj hy => ?_⟩
  have := h2 j hj
  rw [(List.getElem?_eq_some_iff.mp hy).2] at this
  simpa using this
/-- lists of ints: equal to the empty one? -/
theorem eqv_nil (l : List Int) : PyData.eqv (D.lst (l.map .int)).py (D.lst []).py = decide (l = []) := by
  cases l with
  | nil => simp [D.py, D.pys, PyData.eqv, PyData.eqvAll]
  | cons x r => simp [D.py, D.pys, PyData.eqv, PyData.eqvAll]
theorem intsL_plain (l : List Int) : (D.lst (l.map .int)).plain = true := by simp [D.plain, ints_plain]
theorem intsL_shaped (l : List Int) : SeqAt.shaped (D.lst (l.map .int)).py = true := by
  simp only [SeqAt.shaped, D.py, PyData.canLay0, PyData.depth, ints_lay, ints_depth, Bool.true_and]
  decide
theorem eq_nil {l : List Int} {Φ : D → Prop} (h : Φ (.bl (decide (l = [])))) : wEqU (.lst (l.map .int)) (.lst []) Φ := by
  have e : eqS (.lst (l.map .int)) (.lst []) = none := rfl
  unfold wEqU
  rw [e]
  refine ⟨⟨intsL_plain l, by simp [D.plain, D.plains], intsL_shaped l, intsL_shaped []⟩, ?_⟩
  rw [eqv_nil]
  exact h
theorem ne_nil {l : List Int} {Φ : D → Prop} (h : Φ (.bl (!decide (l = [])))) : wNeU (.lst (l.map .int)) (.lst []) Φ := by
  have e : eqS (.lst (l.map .int)) (.lst []) = none := rfl
  unfold wNeU
  rw [e]
  refine ⟨⟨intsL_plain l, by simp [D.plain, D.plains], intsL_shaped l, intsL_shaped []⟩, ?_⟩
  rw [eqv_nil]
  exact h
/-- the numbers of states with p -/
def numsI (p : Stt → Bool) (st : List Stt) (n : Nat) : List Int := ((List.range n).filter fun i => match st[i]? with
  | some s => p s
  | none => false).map fun (i : Nat) => (i : Int)
theorem numsI_yes {p : Stt → Bool} {st : List Stt} {i : Nat} {s : Stt} (h : st[i]? = some s) (e : p s = true) : (numsI p st i).map D.int ++ [.int (i : Int)] = (numsI p st (i + 1)).map D.int := by
  unfold numsI
  rw [List.range_succ, List.filter_append, List.map_append, List.map_append]
  simp [h, e]
theorem numsI_no {p : Stt → Bool} {st : List Stt} {i : Nat} {s : Stt} (h : st[i]? = some s) (e : p s = false) : (numsI p st i).map D.int = (numsI p st (i + 1)).map D.int := by
  unfold numsI
  rw [List.range_succ, List.filter_append, List.map_append, List.map_append]
  simp [h, e]
theorem numsI_len {p : Stt → Bool} {st : List Stt} {n : Nat} : (numsI p st n).length ≤ n := by
  unfold numsI
  rw [List.length_map]
  exact Nat.le_trans (List.length_filter_le _ _) (by rw [List.length_range]; exact Nat.le_refl _)
theorem numsI_find {p : Stt → Bool} {st : List Stt} : (numsI p st st.length = [] ∧ st.findIdx? p = none) ∨ ∃ (i : Nat) (r : List Int), numsI p st st.length = (i : Int) :: r ∧ st.findIdx? p = some i := by
  cases e : st.findIdx? p with
  | none =>
    refine .inl ⟨?_, rfl⟩
    unfold numsI
    rw [List.map_eq_nil_iff, List.filter_eq_nil_iff]
    intro a ha
    have hl : a < st.length := List.mem_range.mp ha
    rw [List.getElem?_eq_getElem hl]
    have := List.findIdx?_eq_none_iff.mp e st[a] (List.getElem_mem hl)
    simp [this]
  | some i =>
    refine .inr ⟨i, ?_⟩
    obtain ⟨s, hs, hp, hn⟩ := find_at e
    have hl := (List.getElem?_eq_some_iff.mp hs).1
    have er : List.range st.length = List.range i ++ (i :: (List.range' (i + 1) (st.length - (i + 1)))) := by
      rw [List.range_eq_range', List.range_eq_range']
      obtain ⟨k, hk⟩ : ∃ k, st.length = i + (k + 1) := ⟨st.length - (i + 1), by omega⟩
      have e3 : i + (k + 1) - (i + 1) = k := by omega
      rw [hk, e3, ← List.range'_append_1, List.range'_succ]
      simp
    unfold numsI
    rw [er, List.filter_append, List.map_append]
    have z : (List.range i).filter (fun i => match st[i]? with | some s => p s | none => false) = [] := by
      rw [List.filter_eq_nil_iff]
      intro a ha
      have hl' : a < i := List.mem_range.mp ha
      rw [List.getElem?_eq_getElem (Nat.lt_trans hl' hl)]
      have := hn a st[a] hl' (List.getElem?_eq_getElem (Nat.lt_trans hl' hl))
      simp [this]
    rw [z]
    refine ⟨((List.range' (i + 1) (st.length - (i + 1))).filter (fun i => match st[i]? with | some s => p s | none => false)).map fun (i : Nat) => (i : Int), ?_⟩
    rw [List.filter_cons]
    have : (match st[i]? with | some s => p s | none => false) = true := by rw [hs]; exact hp
    rw [if_pos this]
    exact ⟨rfl, rfl⟩
end Gh

/-! Lists of new empty lists; list(range(n)); a list of one's own as a test. -/
namespace Dl
open PySem L2 PyProof.Rows
variable [KOf]
section
variable {δ : Option Addr} {M M0 : List Addr} {H H0 H1 : Hp} {E : XK} {σ : L2.St} {c : Ct} {l : Sl} {os : List (Addr × OC)}
theorem bn_more {ps : List Addr} (h : ∀ p ∈ ps, H p = none) : ∀ b, Bn δ (ps ++ M) b → Bn δ M b ∨ H b = none := fun b z => by
  rcases z with z | z
  · exact .inl (.inl z)
  · rcases List.mem_append.mp z with z | z
    · exact .inr (h b z)
    · exact .inl (.inr z)
theorem RepS.wideL {ps : List Addr} (h : ∀ p ∈ ps, H p = none) {v : V} {s : S} (r : RepS δ M H v s) : RepS δ (ps ++ M) H v s := by
  cases r with
  | d r => exact .d (r.less (bn_more h))
  | obj m n r => exact .obj (List.mem_append_right _ m) n (r.less (bn_more h))
  | gh m n r => exact .gh (List.mem_append_right _ m) n (r.less (bn_more h))
  | dice h q => exact .dice h q
theorem ghs_at {i : Nat} {s : S} (h : (l ++ ghs os)[i]? = some (some s)) : l[i]? = some (some s) ∨ ∃ k x, i = l.length + k ∧ os[k]? = some x ∧ s = .gh x.1 x.2 := by
  rcases Nat.lt_or_ge i l.length with q | q
  · rw [List.getElem?_append_left q] at h
    exact .inl h
  · rw [List.getElem?_append_right q, List.getElem?_map] at h
    cases e : os[i - l.length]? with
    | none => rw [e] at h; cases h
    | some x => rw [e] at h; cases h; exact .inr ⟨i - l.length, x, by omega, e, rfl⟩
/-- new objects, told of behind the slots -/
theorem RE.newGhs (Re : RE δ M H E σ ⟨c, l⟩) (nd : (os.map (·.1)).Nodup) (hp : ∀ x ∈ os, H x.1 = none) (e1 : Ext δ H H1) (ro : ∀ x ∈ os, RepO (Bn δ (os.map (·.1) ++ M)) H1 x.1 x.2) : RE δ (os.map (·.1) ++ M) H1 E σ ⟨c, l ++ ghs os⟩ := by
  have Re1 := Re.ext e1
  have hps : ∀ p ∈ os.map (·.1), H p = none := fun p h => by
    obtain ⟨x, hx, rfl⟩ := List.mem_map.mp h
    exact hp x hx
  have ndl : ∀ x ∈ os, δ ≠ some x.1 := fun x hx z => by
    obtain ⟨ns, q, _⟩ := Re.okd x.1 z
    rw [hp x hx] at q; cases q
  refine ⟨?_, fun k s z => ?_, fun j j' q s t z z' e e' => ?_, fun b hb => ?_, Re1.okd, ?_⟩
  · show σ.length ≤ (l ++ ghs os).length
    rw [List.length_append]
    exact Nat.le_trans Re.len (Nat.le_add_right _ _)
  · rcases ghs_at z with z | ⟨k, x, e, hx, rfl⟩
    · obtain ⟨v, g1, g2⟩ := Re.rep k s z
      exact ⟨v, g1, (g2.wideL hps).ext e1⟩
    · have hm := List.mem_of_getElem? hx
      exact ⟨.ref x.1, fun y => (nomatch y), .gh (List.mem_append_left _ (List.mem_map.mpr ⟨x, hm, rfl⟩)) (ndl x hm) (ro x hm)⟩
  · rcases ghs_at z with z | ⟨k, x, ek, hx, rfl⟩ <;> rcases ghs_at z' with z' | ⟨k', x', ek', hx', rfl⟩
    · exact Re.one j j' q s t z z' e e'
    · cases e'
      exact absurd e (Re.adr_free (hp x' (List.mem_of_getElem? hx')) z)
    · cases e
      exact absurd e' (Re.adr_free (hp x (List.mem_of_getElem? hx)) z')
    · cases e
      have e2 : x'.1 = x.1 := Option.some.inj e'
      have g1 : (os.map (·.1))[k]? = some x.1 := by rw [List.getElem?_map, hx]; rfl
      have g2 : (os.map (·.1))[k']? = some x.1 := by rw [List.getElem?_map, hx']; exact congrArg some e2
      have := (List.getElem?_inj (List.getElem?_eq_some_iff.mp g1).1 nd).mp (g1.trans g2.symm)
      omega
  · rcases List.mem_append.mp hb with z | z
    · obtain ⟨x, hx, rfl⟩ := List.mem_map.mp z
      have := (ro x hx).there
      cases q : H1 x.1 with
      | none => exact absurd q this
      | some o => exact ⟨o, rfl⟩
    · exact Re1.okM b z
  · obtain ⟨He, Me, a, mm, b, q⟩ := Re.en
    refine ⟨He, Me, a.trans e1, fun b hb => ⟨List.mem_append_right _ (mm b hb).1, (mm b hb).2⟩, fun j q t z e => ?_, q⟩
    rcases ghs_at z with z | ⟨k, x, ek, hx, rfl⟩
    · exact b j q t z e
    · cases e
      exact a.none_of (H1 := H1) (ndl x (List.mem_of_getElem? hx)) (hp x (List.mem_of_getElem? hx))
end
section
variable {X : Cx} {E : XK} {e o tg iter : Expr} {te to : TE} {w wo : WE} {pos p lp : Pos} {wi : TI} {ww : WI} {g : TG} {wg : WG} {scope : Scope} {own : List (Str × Nat)}
abbrev emps (ps : List Addr) : List (Addr × OC) := ps.map fun p => (p, .lst [])
/-- x = [[] for y in e] -/
def wOwnLL (ww : WI) (wg : WG) (vs : List Nat) (i : Nat) : WS := fun c Φ l => ww ⟨c, l⟩ fun xs => xs.length ≤ 100000 ∧ (∀ (k : Nat) (x : D), xs[k]? = some x → wg x (wipeS l vs) fun _ => True) ∧ ∀ (ps : List Addr) (p : Addr), ps.length = xs.length → ¬ c.lk p → (∀ q ∈ ps, ¬ c.lk q) → Φ.nx (setS (l ++ ghs (emps ps)) i (.obj p (.lst (refs ps))))
theorem abs_ownLL {n i : Nat} {vs : List Nat} (hn : i < n) (hi : AbsI E wi ww) (hg : AbsG vs g wg) : AbsS E (tLen n (tAsg (tLc wi g tYes (tLst tNil) vs) (gName i))) (wOwnLL ww wg vs i) := fun δ M0 H0 c Φ D ok σ H l R h hl => by
  obtain ⟨M, m, mn, Re⟩ := R.ex
  refine hi δ M σ H ⟨c, l⟩ Re _ _ h fun J H1 xs e1 io h1 Dd hD => ?_
  obtain ⟨hz, hgo, h2⟩ := h1
  have Re1 := Re.ext e1
  have R1 := R.ext e1
  have ndl : δ ≠ some Dd := fun z => by
    obtain ⟨ns, q, _⟩ := Re1.okd Dd z
    rw [hD] at q; cases q
  have hB : ∀ b, Bn δ (Dd :: M) b → Bn δ M b ∨ H1 b = none := bn_cons hD
  refine ⟨fun i k H' => k = xs.length - i ∧ i ≤ xs.length ∧ ∃ ps : List Addr, H' Dd = some (.lst (ps.map V.ref)) ∧ ps.length = i ∧ ps.Nodup ∧ (∀ q ∈ ps, H1 q = none ∧ q ≠ Dd ∧ H' q = some (.lst [])) ∧ Ext δ H1 H', ⟨xs.length, by simp, Nat.zero_le _, [], upd_same, rfl, List.nodup_nil, (fun _ z => nomatch z), Ext.new hD⟩, ?_⟩
  rintro i k H' ⟨rfl, hle, ps, hu, hpl, nd, hps, ex⟩
  have kp : Kept (Bn δ (Dd :: M)) H1 H' := ex.kept
  by_cases hlt : i < xs.length
  · refine .inr ⟨io.go _ hB H' i kp hlt, fun H2 => ∃ ps : List Addr, H2 Dd = some (.lst (ps.map V.ref)) ∧ ps.length = i + 1 ∧ ps.Nodup ∧ (∀ q ∈ ps, H1 q = none ∧ q ≠ Dd ∧ H2 q = some (.lst [])) ∧ Ext δ H1 H2, fun H2 q => ⟨xs.length - (i + 1), by omega, rfl, hlt, q⟩, fun v H2 y => ?_⟩
    have RB : RE δ (Dd :: M) H' E0 (wipe σ vs) ⟨⟨fun _ => False, c.lk⟩, wipeS l vs⟩ := Re1.block hD ex hu
    have hN : ∀ b, Bn δ (Dd :: M) b → H' b ≠ none := fun b z => by
      rcases z with z | z
      · obtain ⟨ns, q, _⟩ := RB.okd b z
        rw [q]; exact fun y => nomatch y
      · obtain ⟨o, q⟩ := RB.okM b z
        rw [q]; exact fun y => nomatch y
    obtain ⟨k2, r2⟩ := io.yld _ hB H' i xs[i] v H2 kp hN (List.getElem?_eq_getElem hlt) y
    have e2 : Ext δ H' H2 := k2.ext0
    have RB2 := RB.ext e2
    refine hg E0 δ (Dd :: M) (wipe σ vs) H2 _ _ v _ RB2 r2 _ _ (hgo i _ (List.getElem?_eq_getElem hlt)) fun σ3 l3 R3 o3 n3 _ => ?_
    refine ⟨(wipe_off o3).trans (wipe_off (off_wipe (vs := vs) (a := σ))), ?_⟩
    refine ⟨Nat.zero_le _, fun q hq => ?_⟩
    have hu2 : H2 Dd = some (.lst (ps.map V.ref)) := k2 _ _ hu id
    have nqD : q ≠ Dd := fun z => by rw [z, hu2] at hq; cases hq
    have e12 : Ext δ H1 H2 := ex.trans e2
    have hq1 : H1 q = none := e12.free Re1.okd hq
    have nq : q ∉ ps := fun z => by
      have := k2 _ _ (hps q z).2.2 id
      rw [hq] at this; cases this
    refine ⟨ps.map V.ref, by rw [upd_ne (Ne.symm nqD)]; exact hu2, by rw [List.length_map, hpl]; exact sz_lt (by omega), ps ++ [q], ?_, by rw [List.length_append, hpl]; rfl, ?_, fun r hr => ?_, ?_⟩
    · rw [upd_same, List.map_append]; rfl
    · exact List.nodup_append.mpr ⟨nd, by simp, fun a ha b hb e => by rw [List.mem_singleton.mp hb] at e; rw [e] at ha; exact nq ha⟩
    · rcases List.mem_append.mp hr with z | z
      · obtain ⟨a1, a2, a3⟩ := hps r z
        refine ⟨a1, a2, ?_⟩
        rw [upd_ne a2, upd_ne (fun y => nq (by rw [← y]; exact z))]
        exact k2 _ _ a3 id
      · rw [List.mem_singleton.mp z]
        exact ⟨hq1, nqD, by rw [upd_ne nqD]; exact upd_same⟩
    · exact (e12.trans (Ext.new hq)).mut hD
  · have ei : i = xs.length := by omega
    subst ei
    refine .inl ⟨io.stop _ hB H' _ kp (Nat.le_refl _), ?_⟩
    have hpD : Dd ∉ ps := fun z => (hps Dd z).2.1 rfl
    have em : (emps ps).map (·.1) = ps := by
      show (ps.map _).map _ = ps
      rw [List.map_map]
      show ps.map id = ps
      exact List.map_id ps
    have em2 : (emps ps ++ [(Dd, OC.lst (refs ps))]).map (·.1) = ps ++ [Dd] := by rw [List.map_append, em]; rfl
    have inE : ∀ x ∈ emps ps, x.1 ∈ ps ∧ x.2 = .lst [] := fun x hx => by
      obtain ⟨q, hq, rfl⟩ := List.mem_map.mp hx
      exact ⟨hq, rfl⟩
    have Rg := Re1.newGhs (os := emps ps ++ [(Dd, .lst (refs ps))]) (H1 := H') (by
      rw [em2]
      exact List.nodup_append.mpr ⟨nd, by simp, fun a ha b hb e => by rw [List.mem_singleton.mp hb] at e; rw [e] at ha; exact hpD ha⟩) (fun x hx => by
      rcases List.mem_append.mp hx with z | z
      · exact (hps _ (inE x z).1).1
      · rw [List.mem_singleton.mp z]; exact hD) ex (fun x hx => by
      rcases List.mem_append.mp hx with z | z
      · obtain ⟨a, b⟩ := inE x z
        rw [b]
        exact ⟨[], (hps _ a).2.2, .nil⟩
      · rw [List.mem_singleton.mp z]
        exact ⟨_, hu, refs_rep ps⟩)
    have eg : l ++ ghs (emps ps ++ [(Dd, OC.lst (refs ps))]) = (l ++ ghs (emps ps)) ++ [some (.gh Dd (.lst (refs ps)))] := by
      show l ++ (emps ps ++ _).map _ = _
      rw [List.map_append, List.append_assoc]
      rfl
    rw [eg] at Rg
    have hlσ : σ.length ≤ (l ++ ghs (emps ps)).length := by rw [List.length_append]; exact Nat.le_trans Re.len (Nat.le_add_right _ _)
    have Rc := Rg.cut _ hlσ
    have et : ((l ++ ghs (emps ps)) ++ [some (S.gh Dd (.lst (refs ps)))]).take (l ++ ghs (emps ps)).length = l ++ ghs (emps ps) := List.take_left
    rw [et] at Rc
    have hM : ∀ b, b ∈ (emps ps ++ [(Dd, OC.lst (refs ps))]).map (·.1) ++ M ↔ (b ∈ ps ∨ b = Dd) ∨ b ∈ M := fun b => by
      rw [em2, List.mem_append, List.mem_append, List.mem_singleton]
    have z2 : ((l ++ ghs (emps ps)) ++ [some (S.gh Dd (.lst (refs ps)))])[(l ++ ghs (emps ps)).length]? = some (some (S.gh Dd (.lst (refs ps)))) := by
      rw [List.getElem?_append_right (Nat.le_refl _), Nat.sub_self]; rfl
    have up : ∀ {j : Nat} {t : S}, (l ++ ghs (emps ps))[j]? = some (some t) → ((l ++ ghs (emps ps)) ++ [some (S.gh Dd (.lst (refs ps)))])[j]? = some (some t) := fun {j t} z => by
      rw [List.getElem?_append_left (List.getElem?_eq_some_iff.mp z).1]; exact z
    have R3 := Rc.setAny i (by rw [hl]; exact hn) (v := .ref Dd) (s := .obj Dd (.lst (refs ps))) (.obj ((hM Dd).mpr (.inl (.inr rfl))) ndl ⟨_, hu, refs_rep ps⟩) (fun q e j t hj z y => by
      cases e
      have hjl := (List.getElem?_eq_some_iff.mp z).1
      have := Rg.one j _ Dd t _ (up z) z2 y rfl
      omega) (by
      obtain ⟨He, Me, a, mm, b, q⟩ := Rg.en
      refine ⟨He, Me, a, mm, fun j q t z e => ?_, q⟩
      rcases setS_at z with ⟨_, _, rfl⟩ | ⟨_, z⟩
      · cases e
        exact b _ Dd _ z2 rfl
      · exact b j q t (up z) e)
    obtain ⟨_, nlk, h0⟩ := R1.fresh hD
    refine ok.nx _ H' _ ⟨⟨_, fun b hb => (hM b).mpr (.inr (m b hb)), fun b hb => ?_, R3⟩, R1.kd.ext ex, R.d0, fun j q t z e => ?_, R.wm, R.m0⟩ (h2 ps Dd hpl nlk fun q hq => (R1.fresh (hps q hq).1).lk)
    · rcases (hM b).mp hb with (z | z) | z
      · exact .inr (R1.fresh (hps b z).1).h0
      · rw [z]; exact .inr h0
      · exact mn b z
    · rcases setS_at z with ⟨_, _, rfl⟩ | ⟨_, z⟩
      · cases e
        exact .inr h0
      · rcases ghs_at z with z | ⟨k, x, ek, hx, rfl⟩
        · exact R.wr j q t z e
        · cases e
          exact .inr (R1.fresh (hps _ (inE x (List.mem_of_getElem? hx)).1).1).h0
theorem ds_ownLL {i : Nat} {y : Str} {py spos : Pos} (hc : X.calm = true) (hN : X.N.Nodup) (hy : X.N[i]? = some y) (hyl : X.env.scope.names.lookup y = some .local) (hsw : swapsWith (.ListComp (.List [] lp) [⟨tg, iter, [], 0⟩] scope pos) (some (.Name y py)) spos.line X.env = pure true)
    (hi : DI X E tg iter wi ww) (ok : BlkOk X.N X.env.scope scope own)
    (hg : ∀ (s : Shared) (H : Hp) (C : Addr) (cl : List (Str × Addr)) (fp : List Addr), DG (X.blk s H scope (compEnvC scope cl C X.env) fp) (own.map (·.2)) tg g wg) (hs : ∀ x, foldedSetIterable iter X.env x = pure x := by intro _; rfl) :
    DS X E (.Assign [.Name y py] (.ListComp (.List [] lp) [⟨tg, iter, [], 0⟩] scope pos) spos) (tLen X.N.length (tAsg (tLc wi g tYes (tLst tNil) (own.map (·.2))) (gName i))) (wOwnLL ww wg (own.map (·.2)) i) :=
  ⟨ps_len (ps_setLc hc hN hy hyl hsw hi.p ok (fun s H C cl fp => (hg s H C cl fp).p) (fun _ _ _ _ _ => pts_nil) (fun _ _ _ _ _ => pe_lst pa_nil) hs), abs_ownLL (lt_of_at hy) hi.a (hg X.s_0 X.H_0 X.env.locals [] []).a⟩
/-- list(range(n)) -/
def wLR (w : WE) : Env → (List D → Prop) → Prop := fun ρ Φ => w ρ fun d => match d with
  | .int j => (0 ≤ j ∧ j < 100000) ∧ Φ (rangeD 0 j.toNat)
  | _ => False
theorem df_listRange1 {p2 pos2 : Pos} (hc : X.calm = true) (hg : Gl X "list") (hm : X.mg "list" = none) (hg2 : Gl X "range") (hm2 : X.mg "range" = none) (he : DE X E e te w)
    (na : starEach [e] X.env = (false, eval e X.env) :: starEach [] X.env := by rfl) (na2 : starEach [.Call (.Name "range" p2) [e] [] pos2] X.env = (false, eval (.Call (.Name "range" p2) [e] [] pos2) X.env) :: starEach [] X.env := by rfl) :
    DF X E (.Call (.Name "list" p) [.Call (.Name "range" p2) [e] [] pos2] [] pos) (tLstRg (tRg1 te)) (wLR w) := by
  refine ⟨pe_listRg hc hg hm (prg_1 hg2 hm2 he.p na) na2, fun δ M σ H ρ R Φ Q h k => ?_⟩
  refine he.a δ M σ H ρ R _ _ h fun v H1 d e1 r1 h1 => ?_
  cases r1 <;> first | exact False.elim h1 | skip
  rename_i j
  obtain ⟨⟨h2, h3⟩, h1⟩ := h1
  refine ⟨j, rfl, RgOk.of_le (by omega) (by omega) (by omega) (by omega), fun q hq => k q _ _ _ (e1.free R.okd hq) (e1.trans (Ext.new hq)) upd_same ?_ h1⟩
  have ej : (j - 0).toNat = j.toNat := by rw [Int.sub_zero]
  unfold rgV
  rw [ej]
  exact repL_range 0 _
/-- a list of one's own as a test -/
def wTruG (wo : WE) : WT := fun ρ Φ => wo ρ fun d => ∃ q j xs, d = .raw (.ref q) ∧ At ρ.sl q j (.lst xs) ∧ Φ (!xs.isEmpty)
theorem RepL.empty {B : Addr → Prop} {H : Hp} {vs : List V} {ds : List D} (r : RepL B H vs ds) : vs.isEmpty = ds.isEmpty := by cases r <;> rfl
theorem dt_truG (ho : DE X E o to wo) (hK : X.K = KOf.K := by rfl) (he : ∀ whole, isTrue o X.env whole = (do let v ← whole; standAt o.pos; holding [v] (truthy v)) := by intro _; rfl) : DT X E o (fun σ H Q => to σ H fun x H' => ∃ k, TruV KOf.K x H' k ∧ Q k H') (wTruG wo) := by
  refine ⟨hK ▸ pt_truth ho.p he, fun δ M σ H ρ R Φ Q h k => ?_⟩
  refine ho.a δ M σ H ρ R _ _ h fun v H1 d e1 r1 h1 => ?_
  obtain ⟨q, j, xs, rfl, ha, h1⟩ := h1
  cases rep_ref r1
  obtain ⟨_, _, vs, hq, rl⟩ := (R.ext e1).at' ha
  exact ⟨!vs.isEmpty, .inl ⟨vs, SqL.of hq, rfl⟩, by rw [rl.empty]; exact k _ H1 e1 h1⟩
/-- .. plain data -/
def wTruD (w : WE) : WT := fun ρ Φ => w ρ fun d => match d with
  | .lst xs => Φ (!xs.isEmpty)
  | .tup xs => Φ (!xs.isEmpty)
  | .int i => Φ (i != 0)
  | .bl b => Φ b
  | .non => Φ false
  | _ => False
theorem dt_truD (he : DE X E e te w) (hK : X.K = KOf.K := by rfl) (ht : ∀ whole, isTrue e X.env whole = (do let v ← whole; standAt e.pos; holding [v] (truthy v)) := by intro _; rfl) : DT X E e (fun σ H Q => te σ H fun x H' => ∃ k, TruV KOf.K x H' k ∧ Q k H') (wTruD w) := by
  refine ⟨hK ▸ pt_truth he.p ht, fun δ M σ H ρ R Φ Q h k => ?_⟩
  refine he.a δ M σ H ρ R _ _ h fun v H1 d e1 r1 h1 => ?_
  cases r1 <;> first | exact False.elim h1 | skip
  · exact ⟨false, rfl, k _ H1 e1 h1⟩
  · exact ⟨_, rfl, k _ H1 e1 h1⟩
  · exact ⟨_, rfl, k _ H1 e1 h1⟩
  · rename_i n s rl
    exact ⟨_, .inl ⟨_, SqL.of s, rfl⟩, by rw [rl.empty]; exact k _ H1 e1 h1⟩
  · rename_i s rl
    exact ⟨_, .inr (.inl ⟨_, s.sq, rfl⟩), by rw [rl.empty]; exact k _ H1 e1 h1⟩
end
end Dl

/-! Ways through numbered nodes. -/
namespace Gh
open PySem L2 Dl
variable [KOf]
/-- m is behind n -/
def nx (beh : List (List Nat)) (n m : Nat) : Prop := ∃ row, beh[n]? = some row ∧ m ∈ row
inductive Lead (beh : List (List Nat)) (gs : List Bool) : Nat → Prop
  | goal {n : Nat} : gs[n]? = some true → Lead beh gs n
  | step {n m : Nat} : nx beh n m → Lead beh gs m → Lead beh gs n
structure GrOk (beh : List (List Nat)) : Prop where
  n5 : beh.length ≤ 5000
  r4 : ∀ row ∈ beh, row.length ≤ 4 ∧ ∀ k ∈ row, k < beh.length
def PP_turned (ss : List S) (Φ : D → Prop) : Prop := ∃ beh : List (List Nat), ss = [.d (.lst (beh.map dNats))] ∧ GrOk beh ∧ ∀ ah : List (List Nat), ah.length = beh.length → (∀ n m, nx ah n m ↔ nx beh m n) → Φ (.lst (ah.map dNats))
def PP_leading_to (ss : List S) (Φ : D → Prop) : Prop := ∃ (beh : List (List Nat)) (gs : List Bool), ss = [.d (.lst (beh.map dNats)), .d (.lst (gs.map .bl))] ∧ GrOk beh ∧ gs.length = beh.length ∧ ∀ L : List Bool, L.length = beh.length → (∀ n, L[n]? = some true ↔ Lead beh gs n) → Φ (.lst (L.map .bl))
/-! lists of lists of one's own -/
def osL (ps : List Addr) (xss : List (List Nat)) : List (Addr × OC) := (ps.zip xss).map fun x => (x.1, .lst (x.2.map dNat))
theorem osL_emps (ps : List Addr) : emps ps = osL ps (List.replicate ps.length []) := by
  unfold osL
  induction ps with
  | nil => rfl
  | cons p r ih =>
    show _ :: emps r = _
    rw [ih]
    rfl
theorem osL_at {ps : List Addr} {xss : List (List Nat)} {k : Nat} {p : Addr} {xs : List Nat} (h1 : ps[k]? = some p) (h2 : xss[k]? = some xs) : (osL ps xss)[k]? = some (p, .lst (xs.map dNat)) := by
  unfold osL
  rw [List.getElem?_map, List.getElem?_zip_eq_some (z := (p, xs)) |>.mpr ⟨h1, h2⟩]
  rfl
theorem gh_at {pre : Sl} {ps : List Addr} {xss : List (List Nat)} {k : Nat} {p : Addr} {xs : List Nat} (h1 : ps[k]? = some p) (h2 : xss[k]? = some xs) : (pre ++ ghs (osL ps xss))[pre.length + k]? = some (some (.gh p (.lst (xs.map dNat)))) := by
  rw [List.getElem?_append_right (Nat.le_add_right _ _), Nat.add_sub_cancel_left, List.getElem?_map, osL_at h1 h2]
  rfl
theorem upG_pre (o : OC) : ∀ (pre t : Sl) (k : Nat), upG (pre ++ t) (pre.length + k) o = pre ++ upG t k o
  | [], t, k => by rw [List.nil_append, List.length_nil, Nat.zero_add]; rfl
  | x :: pre, t, k => by
    have e : (x :: pre).length + k = (pre.length + k) + 1 := by rw [List.length_cons]; omega
    rw [e]
    show x :: upG (pre ++ t) (pre.length + k) o = x :: (pre ++ upG t k o)
    rw [upG_pre o pre t k]
theorem upG_osL {ys : List Nat} : ∀ {ps : List Addr} {xss : List (List Nat)} {k : Nat}, upG (ghs (osL ps xss)) k (.lst (ys.map dNat)) = ghs (osL ps (xss.set k ys))
  | [], _, _ => rfl
  | _ :: _, [], _ => rfl
  | p :: ps, xs :: xss, 0 => rfl
  | p :: ps, xs :: xss, k + 1 => by
    show _ :: upG (ghs (osL ps xss)) k _ = _ :: ghs (osL ps (xss.set k ys))
    rw [upG_osL]
theorem rsvL_idx {ok : Addr → Prop} {l : Sl} : ∀ {xs ys : List D}, xs.length = ys.length → (∀ (k : Nat) (x y : D), xs[k]? = some x → ys[k]? = some y → Rsv ok l x y) → RsvL ok l xs ys
  | [], [], _, _ => .nil
  | [], _ :: _, h, _ => by cases h
  | _ :: _, [], h, _ => by cases h
  | x :: xs, y :: ys, h, r => .cons (r 0 x y rfl rfl) (rsvL_idx (Nat.succ.inj h) fun k a b e f => r (k + 1) a b e f)
theorem rsv_LL {ok : Addr → Prop} {pre : Sl} {ps : List Addr} {xss : List (List Nat)} {p : Addr} {j : Nat} (hl : ps.length = xss.length) (hk : ∀ q, ok q) (ha : At (pre ++ ghs (osL ps xss)) p j (.lst (refs ps))) : Rsv ok (pre ++ ghs (osL ps xss)) (.raw (.ref p)) (.lst (xss.map dNats)) := by
  refine .ref ha (hk _) rfl (.lst (rsvL_idx (by rw [List.length_map, List.length_map, hl]) fun k x y e f => ?_))
  obtain ⟨q, hq, rfl⟩ := map_at e
  obtain ⟨xs, hx, rfl⟩ := map_at f
  exact .ref (.inr (gh_at hq hx)) (hk _) rfl (.same _)
/-! what turned does -/
def TurnI (beh xss : List (List Nat)) (i k : Nat) : Prop := xss.length = beh.length ∧ (∀ n m, nx xss n m ↔ ∃ row, beh[m]? = some row ∧ ((m < i ∧ n ∈ row) ∨ (m = i ∧ n ∈ row.take k))) ∧ ∀ row ∈ xss, row.length ≤ 4 * i + k
theorem turn0 {beh : List (List Nat)} : TurnI beh (List.replicate beh.length []) 0 0 := by
  refine ⟨List.length_replicate, fun n m => ⟨fun ⟨row, h1, h2⟩ => ?_, fun ⟨row, h1, h2⟩ => ?_⟩, fun row h => ?_⟩
  · rw [List.eq_of_mem_replicate (List.mem_of_getElem? h1)] at h2
    cases h2
  · rcases h2 with ⟨h2, _⟩ | ⟨_, h2⟩
    · exact absurd h2 (Nat.not_lt_zero _)
    · rw [List.take_zero] at h2; cases h2
  · rw [List.eq_of_mem_replicate h]
    exact Nat.zero_le _
theorem turn_step {beh xss : List (List Nat)} {i k o : Nat} {row xs : List Nat} (t : TurnI beh xss i k) (hr : beh[i]? = some row) (ho : row[k]? = some o) (hx : xss[o]? = some xs) : TurnI beh (xss.set o (xs ++ [i])) i (k + 1) := by
  obtain ⟨t1, t2, t3⟩ := t
  have hol : o < xss.length := (List.getElem?_eq_some_iff.mp hx).1
  have tk : row.take (k + 1) = row.take k ++ [o] := by rw [List.take_add_one, ho]; rfl
  refine ⟨by rw [List.length_set]; exact t1, fun n m => ?_, fun r h => ?_⟩
  · by_cases hn : o = n
    · subst hn
      constructor
      · rintro ⟨r, h1, h2⟩
        rw [List.getElem?_set_self hol] at h1
        cases h1
        rcases List.mem_append.mp h2 with z | z
        · obtain ⟨r', a, b⟩ := (t2 o m).mp ⟨xs, hx, z⟩
          refine ⟨r', a, b.imp id fun ⟨c, d⟩ => ⟨c, ?_⟩⟩
          subst c
          rw [hr] at a
          cases a
          rw [tk]
          exact List.mem_append_left _ d
        · rw [List.mem_singleton.mp z]
          exact ⟨row, hr, .inr ⟨rfl, by rw [tk]; exact List.mem_append_right _ (List.mem_singleton.mpr rfl)⟩⟩
      · rintro ⟨r', a, b⟩
        refine ⟨xs ++ [i], List.getElem?_set_self hol, ?_⟩
        rcases b with ⟨b1, b2⟩ | ⟨b1, b2⟩
        · obtain ⟨r2, c1, c2⟩ := (t2 o m).mpr ⟨r', a, .inl ⟨b1, b2⟩⟩
          rw [hx] at c1
          cases c1
          exact List.mem_append_left _ c2
        · rw [b1]
          exact List.mem_append_right _ (List.mem_singleton.mpr rfl)
    · have e : ∀ m, nx (xss.set o (xs ++ [i])) n m ↔ nx xss n m := fun m => by
        unfold nx
        rw [List.getElem?_set_ne hn]
      rw [e m, t2 n m]
      constructor
      · rintro ⟨r', a, b⟩
        refine ⟨r', a, b.imp id fun ⟨c, d⟩ => ⟨c, ?_⟩⟩
        subst c
        rw [hr] at a
        cases a
        rw [tk]
        exact List.mem_append_left _ d
      · rintro ⟨r', a, b⟩
        refine ⟨r', a, b.imp id fun ⟨c, d⟩ => ⟨c, ?_⟩⟩
        subst c
        rw [hr] at a
        cases a
        rw [tk] at d
        rcases List.mem_append.mp d with z | z
        · exact z
        · exact absurd (List.mem_singleton.mp z).symm hn
  · rcases List.mem_or_eq_of_mem_set h with z | z
    · have := t3 r z
      omega
    · rw [z, List.length_append, List.length_singleton]
      have := t3 xs (List.mem_of_getElem? hx)
      omega
theorem turn_next {beh xss : List (List Nat)} {i : Nat} {row : List Nat} (t : TurnI beh xss i row.length) (hr : beh[i]? = some row) (h4 : row.length ≤ 4) : TurnI beh xss (i + 1) 0 := by
  obtain ⟨t1, t2, t3⟩ := t
  refine ⟨t1, fun n m => ?_, fun r h => by have := t3 r h; omega⟩
  rw [t2 n m]
  constructor
  · rintro ⟨r', a, b⟩
    refine ⟨r', a, .inl ?_⟩
    rcases b with ⟨b1, b2⟩ | ⟨b1, b2⟩
    · exact ⟨by omega, b2⟩
    · subst b1
      rw [hr] at a
      cases a
      rw [List.take_length] at b2
      exact ⟨by omega, b2⟩
  · rintro ⟨r', a, b⟩
    rcases b with ⟨b1, b2⟩ | ⟨b1, b2⟩
    · refine ⟨r', a, ?_⟩
      by_cases e : m = i
      · subst e
        rw [hr] at a
        cases a
        exact .inr ⟨rfl, by rw [List.take_length]; exact b2⟩
      · exact .inl ⟨by omega, b2⟩
    · rw [List.take_zero] at b2
      cases b2
theorem turn_end {beh xss : List (List Nat)} (t : TurnI beh xss beh.length 0) : ∀ n m, nx xss n m ↔ nx beh m n := fun n m => by
  rw [t.2.1 n m]
  constructor
  · rintro ⟨r, a, b⟩
    rcases b with ⟨_, b⟩ | ⟨_, b⟩
    · exact ⟨r, a, b⟩
    · rw [List.take_zero] at b; cases b
  · rintro ⟨r, a, b⟩
    exact ⟨r, a, .inl ⟨(List.getElem?_eq_some_iff.mp a).1, b⟩⟩
/-! what leading_to does -/
structure LeadI (beh : List (List Nat)) (gs L : List Bool) (T : List Nat) (ex : Nat → Prop) : Prop where
  len : L.length = beh.length
  snd : ∀ n : Nat, L[n]? = some true → Lead beh gs n
  gl : ∀ n : Nat, gs[n]? = some true → L[n]? = some true
  td : ∀ n ∈ T, L[n]? = some true
  cl : ∀ n m : Nat, nx beh n m → L[m]? = some true → m ∈ T ∨ ex m ∨ L[n]? = some true
/-- how many are false -/
def falses (L : List Bool) : Nat := (L.filter (!·)).length
theorem falses_set : ∀ {L : List Bool} {i : Nat}, L[i]? = some false → falses (L.set i true) + 1 = falses L
  | [], _, h => by cases h
  | b :: L, 0, h => by
    cases h
    rfl
  | b :: L, i + 1, h => by
    have h' : L[i]? = some false := h
    have ih := falses_set h'
    unfold falses at ih ⊢
    rw [List.set_cons_succ, List.filter_cons, List.filter_cons]
    cases b <;> simp_all <;> omega
theorem lead_all {beh : List (List Nat)} {gs L : List Bool} (h : LeadI beh gs L [] fun _ => False) : ∀ n, L[n]? = some true ↔ Lead beh gs n := fun n => by
  refine ⟨h.snd n, fun z => ?_⟩
  induction z with
  | goal e => exact h.gl _ e
  | step e _ ih =>
    rcases h.cl _ _ e ih with q | q | q
    · cases q
    · exact q.elim
    · exact q
/-- one is marked: it leads to a marked one -/
theorem lead_mark {beh : List (List Nat)} {gs L : List Bool} {T : List Nat} {m o : Nat} (h : LeadI beh gs L T (· = m)) (hm : L[m]? = some true) (he : nx beh o m) (ho : L[o]? = some false) : LeadI beh gs (L.set o true) (T ++ [o]) (· = m) := by
  have hol : o < L.length := (List.getElem?_eq_some_iff.mp ho).1
  have up : ∀ n : Nat, L[n]? = some true → (L.set o true)[n]? = some true := fun n z => by
    by_cases q : o = n
    · subst q; exact List.getElem?_set_self hol
    · rw [List.getElem?_set_ne q]; exact z
  refine ⟨by rw [List.length_set]; exact h.len, fun n z => ?_, fun n z => up n (h.gl n z), fun n z => ?_, fun n k e z => ?_⟩
  · by_cases q : o = n
    · subst q
      exact .step he (h.snd m hm)
    · rw [List.getElem?_set_ne q] at z
      exact h.snd n z
  · rcases List.mem_append.mp z with q | q
    · exact up n (h.td n q)
    · rw [List.mem_singleton.mp q]
      exact List.getElem?_set_self hol
  · by_cases q : o = k
    · subst q
      exact .inl (List.mem_append_right _ (List.mem_singleton.mpr rfl))
    · rw [List.getElem?_set_ne q] at z
      rcases h.cl n k e z with r | r | r
      · exact .inl (List.mem_append_left _ r)
      · exact .inr (.inl r)
      · exact .inr (.inr (up n r))
theorem lead_pop {beh : List (List Nat)} {gs L : List Bool} {T : List Nat} {m : Nat} (h : LeadI beh gs L T fun _ => False) (hm : T[T.length - 1]? = some m) : LeadI beh gs L T.dropLast (· = m) ∧ L[m]? = some true := by
  have hT : T = T.dropLast ++ [m] := by
    have hl : T.length - 1 < T.length := (List.getElem?_eq_some_iff.mp hm).1
    refine List.ext_getElem? fun i => ?_
    rw [List.dropLast_eq_take]
    rcases Nat.lt_or_ge i (T.length - 1) with q | q
    · rw [List.getElem?_append_left (by rw [List.length_take]; omega), List.getElem?_take_of_lt q]
    · rw [List.getElem?_append_right (by rw [List.length_take]; omega), List.length_take]
      rcases Nat.eq_or_lt_of_le q with z | z
      · rw [← z, hm, Nat.min_eq_left (by omega), Nat.sub_self]
        rfl
      · rw [List.getElem?_eq_none (by omega), List.getElem?_eq_none (by simp; omega)]
  have tm : ∀ n, n ∈ T ↔ n ∈ T.dropLast ∨ n = m := fun n => by
    rw [hT]
    simp
  refine ⟨⟨h.len, h.snd, h.gl, fun n z => h.td n ((tm n).mpr (.inl z)), fun n k e z => ?_⟩, h.td m ((tm m).mpr (.inr rfl))⟩
  rcases h.cl n k e z with q | q | q
  · rcases (tm k).mp q with y | y
    · exact .inl y
    · exact .inr (.inl y)
  · exact q.elim
  · exact .inr (.inr q)
theorem lead_next {beh ah : List (List Nat)} {gs L : List Bool} {T : List Nat} {m : Nat} {row : List Nat} (h : LeadI beh gs L T (· = m)) (hr : ah[m]? = some row) (ha : ∀ n m, nx ah n m ↔ nx beh m n) (hd : ∀ o ∈ row, L[o]? = some true) : LeadI beh gs L T fun _ => False := by
  refine ⟨h.len, h.snd, h.gl, h.td, fun n k e z => ?_⟩
  rcases h.cl n k e z with q | q | q
  · exact .inl q
  · subst q
    obtain ⟨r, h1, h2⟩ := (ha k n).mpr e
    rw [hr] at h1
    cases h1
    exact .inr (.inr (hd n h2))
  · exact .inr (.inr q)
/-- the numbers of what is true -/
def truesN (gs : List Bool) (n : Nat) : List Nat := (List.range n).filter fun i => gs[i]? == some true
theorem truesN_yes {gs : List Bool} {i : Nat} (h : gs[i]? = some true) : truesN gs (i + 1) = truesN gs i ++ [i] := by
  unfold truesN
  rw [List.range_succ, List.filter_append]
  simp [h]
theorem truesN_no {gs : List Bool} {i : Nat} (h : gs[i]? = some false) : truesN gs (i + 1) = truesN gs i := by
  unfold truesN
  rw [List.range_succ, List.filter_append]
  simp [h]
theorem truesN_mem {gs : List Bool} {n i : Nat} : i ∈ truesN gs n ↔ i < n ∧ gs[i]? = some true := by
  unfold truesN
  rw [List.mem_filter, List.mem_range]
  simp
theorem truesN_len {gs : List Bool} {n : Nat} : (truesN gs n).length ≤ n := Nat.le_trans (List.length_filter_le _ _) (by rw [List.length_range]; exact Nat.le_refl _)
theorem lead_begin {beh : List (List Nat)} {gs : List Bool} (hl : gs.length = beh.length) : LeadI beh gs gs (truesN gs gs.length) fun _ => False :=
  ⟨hl, fun n z => .goal z, fun n z => z, fun n z => (truesN_mem.mp z).2, fun n m _ z => .inl (truesN_mem.mpr ⟨(List.getElem?_eq_some_iff.mp z).1, z⟩)⟩
theorem falses_le (L : List Bool) : falses L ≤ L.length := List.length_filter_le _ _
theorem falses_begin {gs : List Bool} : falses gs + (truesN gs gs.length).length ≤ gs.length := by
  have : ∀ n, n ≤ gs.length → ((gs.take n).filter (!·)).length + (truesN gs n).length ≤ n := fun n => by
    induction n with
    | zero => intro _; simp [truesN]
    | succ n ih =>
      intro hn
      have ih := ih (by omega)
      obtain ⟨b, hb⟩ : ∃ b, gs[n]? = some b := ⟨_, List.getElem?_eq_getElem (by omega)⟩
      rw [List.take_add_one, hb, List.filter_append, List.length_append]
      cases b with
      | true =>
        rw [truesN_yes hb, List.length_append]
        simp
        omega
      | false =>
        rw [truesN_no hb]
        simp
        omega
  have := this gs.length (Nat.le_refl _)
  rw [List.take_length] at this
  exact this
end Gh

/-! Shut out by nobody: mathematics. -/
namespace Gh
open PySem L2 Dl
variable [KOf]
/-- one hand's steps alone -/
def walkM (g : Gt) (h : Nat) : Nat → Stt → Stt
  | 0, s => s
  | k + 1, s => walkM g h k (doneM g s h)
theorem walkM_succ (g : Gt) (h : Nat) : ∀ (k : Nat) (s : Stt), walkM g h (k + 1) s = doneM g (walkM g h k s) h
  | 0, _ => rfl
  | k + 1, s => walkM_succ g h k (doneM g s h)
theorem walkM_add (g : Gt) (h : Nat) : ∀ (a b : Nat) (s : Stt), walkM g h (a + b) s = walkM g h a (walkM g h b s)
  | a, 0, _ => rfl
  | a, b + 1, s => walkM_add g h a b (doneM g s h)
theorem walkM_ok {g : Gt} (og : OkGate g) {h : Nat} : ∀ (k : Nat) {s : Stt}, OkStt g s → OkStt g (walkM g h k s)
  | 0, _, o => o
  | k + 1, _, o => walkM_ok og k (doneM_ok og o)
theorem set_same {l : List Int} {h : Nat} : ∃ x, l = l.set h x := ⟨l.getD h 0, by
  refine List.ext_getElem? fun i => ?_
  by_cases hi : h = i
  · subst hi
    rcases Nat.lt_or_ge h l.length with q | q
    · rw [List.getElem?_set_self q, List.getD_eq_getElem?_getD, List.getElem?_eq_getElem q]
      rfl
    · rw [List.getElem?_eq_none q, List.getElem?_eq_none (by rw [List.length_set]; exact q)]
  · rw [List.getElem?_set_ne hi]⟩
theorem doneM_p (g : Gt) (s : Stt) (h : Nat) : ∃ x, (doneM g s h).p = s.p.set h x := by
  unfold doneM
  split
  · split
    · rename_i st _
      cases st <;> exact ⟨_, rfl⟩
    · exact set_same
  · exact set_same
theorem walkM_p (g : Gt) (h : Nat) : ∀ (k : Nat) (s : Stt), ∃ x, (walkM g h k s).p = s.p.set h x ∨ (walkM g h k s).p = s.p
  | 0, s => ⟨0, .inr rfl⟩
  | k + 1, s => by
    obtain ⟨x, e⟩ := doneM_p g s h
    obtain ⟨y, f⟩ := walkM_p g h k (doneM g s h)
    rcases f with f | f
    · refine ⟨y, .inl ?_⟩
      show (walkM g h k (doneM g s h)).p = _
      rw [f, e, List.set_set]
    · refine ⟨x, .inl ?_⟩
      show (walkM g h k (doneM g s h)).p = _
      rw [f, e]
def Comes (g : Gt) (s : Stt) (h : Nat) : Prop := ∃ k, atB isIn g (walkM g h k s) h = true
theorem not_nodup {α : Type} [DecidableEq α] {l : List α} (h : ¬ l.Nodup) : ∃ (i j : Nat) (x : α), i < j ∧ l[i]? = some x ∧ l[j]? = some x := by
  refine Classical.byContradiction fun hn => h ?_
  refine List.pairwise_iff_getElem.mpr fun i j hi hj hij e => hn ⟨i, j, l[i], hij, List.getElem?_eq_getElem hi, by rw [List.getElem?_eq_getElem hj, e]⟩
theorem comes_few {g : Gt} (og : OkGate g) (sz : sz1 g) {s : Stt} (os : OkStt g s) {h : Nat} (hh : h < g.hs.length) (c : Comes g s h) : ∃ k, k < 2000 ∧ atB isIn g (walkM g h k s) h = true := by
  obtain ⟨hd, ehd⟩ : ∃ hd, g.hs[h]? = some hd := ⟨_, List.getElem?_eq_getElem hh⟩
  have hsz := sz hd (List.mem_of_getElem? ehd)
  let key : Nat → List Int × Int := fun k => ((walkM g h k s).b, (walkM g h k s).p.getD h 0)
  have hk : ¬ ((List.range 2001).map key).Nodup := fun nd => by
    have hl := nodup_sub (L := (enumL (g.bs.map fun b => (b.2 + 1).toNat)).flatMap fun b => (List.range hd.2.length).map fun (i : Nat) => (b, (i : Int))) nd fun x hx => by
      obtain ⟨k, _, rfl⟩ := List.mem_map.mp hx
      have o := walkM_ok og (h := h) k os
      refine List.mem_flatMap.mpr ⟨(walkM g h k s).b, enumL_mem (by rw [List.length_map]; exact o.lb) (fun i x n e1 e2 => ?_), ?_⟩
      · obtain ⟨b, hb, rfl⟩ := map_at e2
        have := o.bx i x b e1 hb
        omega
      · obtain ⟨y, ey⟩ : ∃ y, (walkM g h k s).p[h]? = some y := ⟨_, List.getElem?_eq_getElem (by rw [o.lp]; exact hh)⟩
        have := o.pl h y hd ey ehd
        refine List.mem_map.mpr ⟨y.toNat, List.mem_range.mpr (by omega), ?_⟩
        show _ = ((walkM g h k s).b, (walkM g h k s).p.getD h 0)
        rw [List.getD_eq_getElem?_getD, ey, Int.toNat_of_nonneg this.1]
        rfl
    rw [List.length_map, List.length_range, flat_len (k := hd.2.length) fun x _ => by rw [List.length_map, List.length_range], enumL_len] at hl
    have : prodN (g.bs.map fun b => (b.2 + 1).toNat) * hd.2.length ≤ 2000 := hsz
    omega
  obtain ⟨a, b, x, hab, ha, hb⟩ := not_nodup hk
  have hb1 : b < 2001 := by have := (List.getElem?_eq_some_iff.mp hb).1; rw [List.length_map, List.length_range] at this; exact this
  rw [List.getElem?_map, List.getElem?_range (by omega)] at ha hb
  have e : key a = key b := by
    have h1 : key a = x := Option.some.inj ha
    have h2 : key b = x := Option.some.inj hb
    rw [h1, h2]
  have ew : walkM g h a s = walkM g h b s := by
    have e1 : (walkM g h a s).b = (walkM g h b s).b := congrArg Prod.fst e
    have e2 : (walkM g h a s).p.getD h 0 = (walkM g h b s).p.getD h 0 := congrArg Prod.snd e
    have oa := walkM_ok og (h := h) a os
    have ob := walkM_ok og (h := h) b os
    have e3 : (walkM g h a s).p = (walkM g h b s).p := by
      obtain ⟨x, fx⟩ := walkM_p g h a s
      obtain ⟨y, fy⟩ := walkM_p g h b s
      refine List.ext_getElem? fun i => ?_
      by_cases hi : h = i
      · subst hi
        rw [List.getD_eq_getElem?_getD, List.getD_eq_getElem?_getD] at e2
        rw [List.getElem?_eq_getElem (by rw [oa.lp]; exact hh), List.getElem?_eq_getElem (by rw [ob.lp]; exact hh)] at e2 ⊢
        exact congrArg some e2
      · have z : ∀ k, ∀ w, ((walkM g h k s).p = s.p.set h w ∨ (walkM g h k s).p = s.p) → (walkM g h k s).p[i]? = s.p[i]? := fun k w q => by
          rcases q with q | q
          · rw [q, List.getElem?_set_ne hi]
          · rw [q]
        rw [z a x fx, z b y fy]
    cases q1 : walkM g h a s with
    | mk b1 p1 =>
      cases q2 : walkM g h b s with
      | mk b2 p2 =>
        rw [q1, q2] at e1 e3
        dsimp only at e1 e3
        rw [e1, e3]
  have back : ∀ n, ∃ m, m < b ∧ walkM g h n s = walkM g h m s := fun n => by
    induction n using Nat.strongRecOn with
    | ind n ih =>
      rcases Nat.lt_or_ge n b with q | q
      · exact ⟨n, q, rfl⟩
      · obtain ⟨m, h1, h2⟩ := ih (n - b + a) (by omega)
        refine ⟨m, h1, ?_⟩
        rw [← h2]
        have e1 : n = (n - b) + b := by omega
        have : walkM g h n s = walkM g h (n - b) (walkM g h b s) := by
          conv => lhs; rw [e1]
          exact walkM_add g h (n - b) b s
        rw [this, ← ew, ← walkM_add]
  obtain ⟨n, hn⟩ := c
  obtain ⟨m, h1, h2⟩ := back n
  exact ⟨m, by omega, by rw [← h2]; exact hn⟩
/-! the map, one hand's ways -/
def oneB (m : MM) (h : Nat) : List (List Nat) := m.rows.map fun r => [r.getD h 0]
def inB' (g : Gt) (m : MM) (h : Nat) : List Bool := m.st.map fun s => atB isIn g s h
theorem oneB_nx {g : Gt} {m : MM} (w : Wf g m) {h n k : Nat} (hh : h < g.hs.length) (e : nx (oneB m h) n k) : ∃ s, m.st[n]? = some s ∧ m.st[k]? = some (doneM g s h) := by
  obtain ⟨row, h1, h2⟩ := e
  obtain ⟨r, hr, rfl⟩ := map_at h1
  rw [List.mem_singleton.mp h2]
  obtain ⟨r1, r2⟩ := w.rw n r hr
  have hl : h < r.length := by rw [r1]; exact hh
  refine r2 h _ ?_
  rw [List.getD_eq_getElem?_getD, List.getElem?_eq_getElem hl]
  rfl
theorem oneB_gr {g : Gt} {m : MM} (og : OkGate g) (w : Wf g m) (hcl : m.rows.length = m.st.length) (h5 : m.st.length ≤ 5000) {h : Nat} (hh : h < g.hs.length) : GrOk (oneB m h) := by
  refine ⟨by unfold oneB; rw [List.length_map]; have := w.rl; omega, fun row hr => ?_⟩
  obtain ⟨n, hn⟩ := List.getElem?_of_mem hr
  obtain ⟨r, hr', rfl⟩ := List.mem_map.mp hr
  refine ⟨by simp, fun k hk => ?_⟩
  obtain ⟨s, _, h2⟩ := oneB_nx w hh ⟨_, hn, hk⟩
  have := (List.getElem?_eq_some_iff.mp h2).1
  unfold oneB
  rw [List.length_map, hcl]
  exact this
theorem lead_comes {g : Gt} {m : MM} (w : Wf g m) (hcl : m.rows.length = m.st.length) {h : Nat} (hh : h < g.hs.length) {n : Nat} {s : Stt} (hs : m.st[n]? = some s) : Lead (oneB m h) (inB' g m h) n ↔ Comes g s h := by
  constructor
  · intro l
    induction l generalizing s with
    | goal e =>
      unfold inB' at e
      rw [List.getElem?_map, hs] at e
      exact ⟨0, Option.some.inj e⟩
    | step e _ ih =>
      obtain ⟨t, h1, h2⟩ := oneB_nx w hh e
      rw [hs] at h1
      cases h1
      obtain ⟨k, hk⟩ := ih h2
      exact ⟨k + 1, hk⟩
  · rintro ⟨k, hk⟩
    induction k generalizing n s with
    | zero =>
      refine .goal ?_
      unfold inB'
      rw [List.getElem?_map, hs]
      exact congrArg some hk
    | succ k ih =>
      obtain ⟨r, hr⟩ : ∃ r, m.rows[n]? = some r := ⟨_, List.getElem?_eq_getElem (by rw [hcl]; exact (List.getElem?_eq_some_iff.mp hs).1)⟩
      obtain ⟨r1, r2⟩ := w.rw n r hr
      obtain ⟨k', hk'⟩ : ∃ k', r[h]? = some k' := ⟨_, List.getElem?_eq_getElem (by rw [r1]; exact hh)⟩
      obtain ⟨t, h1, h2⟩ := r2 h k' hk'
      rw [hs] at h1
      cases h1
      refine .step ⟨[r.getD h 0], by unfold oneB; rw [List.getElem?_map, hr]; rfl, ?_⟩ (ih h2 hk)
      rw [List.getD_eq_getElem?_getD, hk']
      exact List.mem_singleton.mpr rfl
/-! the first of what is bad, by state and hand -/
def FirstBad (bad : Nat → Nat → Prop) (N H : Nat) : Option (Nat × Nat) → Prop
  | none => ∀ n h, n < N → h < H → ¬ bad n h
  | some (n, h) => n < N ∧ h < H ∧ bad n h ∧ ∀ n' h', n' < N → h' < H → (n' < n ∨ n' = n ∧ h' < h) → ¬ bad n' h'
theorem FirstBad.uniq {bad : Nat → Nat → Prop} {N H : Nat} : ∀ {r r' : Option (Nat × Nat)}, FirstBad bad N H r → FirstBad bad N H r' → r = r'
  | none, none, _, _ => rfl
  | none, some (n, h), a, ⟨b1, b2, b3, _⟩ => absurd b3 (a n h b1 b2)
  | some (n, h), none, ⟨b1, b2, b3, _⟩, a => absurd b3 (a n h b1 b2)
  | some (n, h), some (n', h'), ⟨a1, a2, a3, a4⟩, ⟨b1, b2, b3, b4⟩ => by
    have h1 : ¬ (n < n' ∨ n = n' ∧ h < h') := fun z => b4 n h a1 a2 z a3
    have h2 : ¬ (n' < n ∨ n' = n ∧ h' < h) := fun z => a4 n' h' b1 b2 z b3
    have e1 : n = n' := by omega
    have e2 : h = h' := by omega
    rw [e1, e2]
def aloneB (g : Gt) (s : Stt) (i : Nat) : Bool := (List.range g.hs.length).all fun j => decide (j = i) || atB isOut g s j
def ShutBad (g : Gt) (n h : Nat) : Prop := ∃ s, (mapM g).st[n]? = some s ∧ aloneB g s h = true ∧ ¬ Comes g s h
def dShut (rt : List Root) : Option (Nat × Nat) → D
  | none => .non
  | some (n, h) => .tup [.lst ((wayM rt n).map dNat), .int (h : Nat)]
def PP_all_hands (C : Addr) (ss : List S) (Φ : List D → Prop) : Prop := ∃ g, ss = [.d (dObj C g)] ∧ g.hs.length ≤ 4 ∧ Φ ((List.range g.hs.length).map dNat)
def PP_is_alone (C : Addr) (ss : List S) (Φ : D → Prop) : Prop := ∃ (g : Gt) (s : Stt) (i : Nat), ss = [.d (dObj C g), .d (dStt s), .d (.int i)] ∧ OkGate g ∧ OkStt g s ∧ Φ (.bl (aloneB g s i))
def PP_where_within (C cM : Addr) (ss : List S) (Φ : List D → Prop) : Prop := ∃ (g : Gt) (m : MM) (i : Nat), ss = [.d (dObj C g), .d (dMap cM m), .d (.int i)] ∧ OkGate g ∧ (∀ s ∈ m.st, OkStt g s) ∧ m.st.length ≤ 5000 ∧ i < g.hs.length ∧ Φ ((inB' g m i).map .bl)
def PP_steps_of (cM : Addr) (ss : List S) (Φ : List D → Prop) : Prop := ∃ (g : Gt) (m : MM) (i : Nat), ss = [.d (dMap cM m), .d (.int i)] ∧ Wf g m ∧ m.rows.length = m.st.length ∧ m.st.length ≤ 5000 ∧ i < g.hs.length ∧ Φ ((oneB m i).map dNats)
def PP_shut (C : Addr) (ss : List S) (Φ : D → Prop) : Prop := ∃ g, ss = [.d (dObj C g)] ∧ OkGate g ∧ szG g ≤ 5000 ∧ ∀ r, FirstBad (ShutBad g) (mapM g).st.length g.hs.length r → Φ (dShut (mapM g).rt r)
def P_alone (ss : List S) (Φ : D → Prop) : Prop := ∃ (g : Gt) (s : Stt) (i : Nat), ss = [.d (dGate g), .d (dStt s), .d (.int i)] ∧ OkGate g ∧ sz1 g ∧ OkStt g s ∧ i < g.hs.length ∧ ∀ b : Bool, (b = true ↔ Comes g s i) → Φ (.bl b)
theorem handsD_flat (q : Hand → Int → Bool) (g : Gt) (s : Stt) (n : Nat) : (handsD q g s n).all flatD = true := by
  unfold handsD
  rw [List.all_map]
  exact List.all_eq_true.mpr fun _ _ => rfl
theorem handsD_any {q : Hand → Int → Bool} {g : Gt} {s : Stt} {n i : Nat} (hi : i < n) : ((handsD q g s n).any fun y => eqF y (.int (i : Int))) = atB q g s i := by
  unfold handsD
  rw [List.any_map]
  cases e : atB q g s i with
  | true =>
    refine List.any_eq_true.mpr ⟨i, List.mem_filter.mpr ⟨List.mem_range.mpr hi, e⟩, ?_⟩
    show ((i : Int) == (i : Int)) = true
    simp
  | false =>
    refine List.any_eq_false.mpr fun k hk => ?_
    obtain ⟨h1, h2⟩ := List.mem_filter.mp hk
    show ¬ ((k : Int) == (i : Int)) = true
    intro z
    have : k = i := by
      have z' : (k : Int) = (i : Int) := by simpa using z
      exact Int.ofNat_inj.mp z'
    rw [this, e] at h2
    cases h2
theorem rangeD_nats (n : Nat) : rangeD 0 n = (List.range n).map dNat := by
  unfold rangeD
  refine List.map_congr_left fun k _ => ?_
  show D.int (0 + (k : Int)) = .int (k : Int)
  rw [Int.zero_add]
end Gh
namespace Gh
open PySem L2 Dl
variable [KOf]
def UpTo (g : Gt) (n h : Nat) : Option (Nat × Nat) → Prop
  | none => ∀ n' h', h' < g.hs.length → (n' < n ∨ n' = n ∧ h' < h) → ¬ ShutBad g n' h'
  | some r => FirstBad (ShutBad g) (mapM g).st.length g.hs.length (some r)
def others (s : Stt) (h : Nat) : List Int := s.p.take h ++ s.p.drop (h + 1)
theorem others_mem {s : Stt} {h : Nat} {y : Int} : y ∈ others s h ↔ ∃ j, j ≠ h ∧ s.p[j]? = some y := by
  unfold others
  rw [List.mem_append]
  constructor
  · rintro (z | z)
    · obtain ⟨j, hj⟩ := List.getElem?_of_mem z
      have hl : j < h := by
        have := (List.getElem?_eq_some_iff.mp hj).1
        rw [List.length_take] at this
        omega
      rw [List.getElem?_take_of_lt hl] at hj
      exact ⟨j, by omega, hj⟩
    · obtain ⟨j, hj⟩ := List.getElem?_of_mem z
      rw [List.getElem?_drop] at hj
      exact ⟨h + 1 + j, by omega, hj⟩
  · rintro ⟨j, hn, hj⟩
    rcases Nat.lt_or_ge j h with q | q
    · refine .inl (List.mem_of_getElem? (i := j) ?_)
      rw [List.getElem?_take_of_lt q]
      exact hj
    · refine .inr (List.mem_of_getElem? (i := j - (h + 1)) ?_)
      rw [List.getElem?_drop]
      have e : h + 1 + (j - (h + 1)) = j := by omega
      rw [e]
      exact hj
theorem others_alone {g : Gt} {s : Stt} (os : OkStt g s) {h : Nat} : (others s h).filter (fun y => !decide (y = 0)) = [] ↔ aloneB g s h = true := by
  unfold aloneB
  rw [List.filter_eq_nil_iff, List.all_eq_true]
  constructor
  · intro H j hj
    have hj : j < g.hs.length := List.mem_range.mp hj
    by_cases e : j = h
    · rw [decide_eq_true e, Bool.true_or]
    · obtain ⟨y, hy⟩ : ∃ y, s.p[j]? = some y := ⟨_, List.getElem?_eq_getElem (by rw [os.lp]; exact hj)⟩
      obtain ⟨hd, ehd⟩ : ∃ hd, g.hs[j]? = some hd := ⟨_, List.getElem?_eq_getElem hj⟩
      have := H y (others_mem.mpr ⟨j, e, hy⟩)
      have y0 : y = 0 := by simpa using this
      rw [decide_eq_false e, Bool.false_or]
      unfold atB
      rw [ehd, hy]
      exact decide_eq_true y0
  · intro H y hy
    obtain ⟨j, e, hj⟩ := others_mem.mp hy
    have hl : j < g.hs.length := by
      have := (List.getElem?_eq_some_iff.mp hj).1
      rw [os.lp] at this
      exact this
    have := H j (List.mem_range.mpr hl)
    rw [decide_eq_false e, Bool.false_or] at this
    obtain ⟨hd, ehd⟩ : ∃ hd, g.hs[j]? = some hd := ⟨_, List.getElem?_eq_getElem hl⟩
    unfold atB at this
    rw [ehd, hj] at this
    have y0 : y = 0 := of_decide_eq_true this
    simp [y0]
theorem dShut_lv {g : Gt} {st : List Stt} {rt : List Root} (w : WfS g st rt) (h5 : st.length ≤ 5000) : ∀ {r : Option (Nat × Nat)}, (∀ n h, r = some (n, h) → n < st.length) → Lv 6 (dShut rt r)
  | none, _ => trivial
  | some (n, h), k => by
    have hn := k n h rfl
    have := wayM_len w n hn
    refine ⟨by show 2 < 100000; omega, fun x hx => ?_⟩
    rcases List.mem_cons.mp hx with rfl | hx
    · exact lvNats 3 _ (by omega)
    · rw [List.mem_singleton.mp hx]
      exact trivial
theorem filt_yes {p : Int → Bool} {l : List Int} {i : Nat} {x : Int} (h : l[i]? = some x) (e : p x = true) : ((l.take i).filter p).map D.int ++ [.int x] = ((l.take (i + 1)).filter p).map D.int := by
  rw [List.take_add_one, h, List.filter_append, List.map_append]
  simp [e]
theorem filt_no {p : Int → Bool} {l : List Int} {i : Nat} {x : Int} (h : l[i]? = some x) (e : p x = false) : ((l.take i).filter p).map D.int = ((l.take (i + 1)).filter p).map D.int := by
  rw [List.take_add_one, h, List.filter_append, List.map_append]
  simp [e]
end Gh

/-! Dicts keyed by ints; any; extend; comparisons of what objects of one's own hold. -/
namespace Dl
open PySem L2 PyProof.Rows
variable [KOf]
abbrev kvI (is : List Int) (vs : List V) : List (Key × V) := (is.map Sum.inl).zip vs
theorem valV_kvI : ∀ {is : List Int} {vs : List V} {k : Nat} {i : Int} {v : V}, is.Nodup → is.length = vs.length → is[k]? = some i → vs[k]? = some v → valV (kvI is vs) (.inl i) = some v
  | [], _, _, _, _, _, _, h, _ => by cases h
  | _ :: _, [], _, _, _, _, h, _, _ => by cases h
  | a :: is, b :: vs, 0, i, v, nd, hl, h1, h2 => by
    cases h1
    cases h2
    exact valV_pos rfl
  | a :: is, b :: vs, k + 1, i, v, nd, hl, h1, h2 => by
    obtain ⟨n1, n2⟩ := List.nodup_cons.mp nd
    have h1' : is[k]? = some i := h1
    have hn : ¬ (Sum.inl a : Key) = .inl i := fun z => by
      cases z
      exact n1 (List.mem_of_getElem? h1')
    show valV ((Sum.inl a, b) :: kvI is vs) (.inl i) = _
    rw [valV_neg hn]
    exact valV_kvI n2 (Nat.succ.inj hl) h1' h2
theorem valV_kvI_none : ∀ {is : List Int} {vs : List V} {i : Int}, i ∉ is → valV (kvI is vs) (.inl i) = none
  | [], _, _, _ => by rfl
  | _ :: _, [], _, _ => by rfl
  | a :: is, b :: vs, i, h => by
    have hn : ¬ (Sum.inl a : Key) = .inl i := fun z => by
      cases z
      exact h List.mem_cons_self
    show valV ((Sum.inl a, b) :: kvI is vs) (.inl i) = _
    rw [valV_neg hn]
    exact valV_kvI_none fun z => h (List.mem_cons_of_mem _ z)
theorem putK_kvI_new {is : List Int} {vs : List V} {i : Int} {v : V} (hl : is.length = vs.length) (h : i ∉ is) : putK (kvI is vs) (.inl i) v = kvI (is ++ [i]) (vs ++ [v]) := by
  rw [putK_new v (valV_kvI_none h)]
  show (is.map Sum.inl).zip vs ++ [(Sum.inl i, v)] = ((is ++ [i]).map Sum.inl).zip (vs ++ [v])
  rw [List.map_append, List.zip_append (by rw [List.length_map]; exact hl)]
  rfl
/-- what a dict of ints holds -/
def DvI (l : Sl) (d : D) (is : List Int) (xs : List D) : Prop := d = .dcI is xs ∨ ∃ q j, d = .raw (.ref q) ∧ At l q j (.dI is xs)
theorem DvI.of {δ : Option Addr} {M : List Addr} {H : Hp} {E : XK} {σ : L2.St} {ρ : Env} {v : V} {d : D} {is : List Int} {xs : List D} (h : DvI ρ.sl d is xs) (R : RE δ M H E σ ρ) (r : Rep (Bn δ M) H v d) :
    ∃ q vs, v = .ref q ∧ H q = some (.dK (kvI is vs)) ∧ is.length = vs.length ∧ is.Nodup ∧ RepL (Bn δ M) H vs xs := by
  rcases h with rfl | ⟨q, j, rfl, ha⟩
  · cases r with
    | dcI n h e nd r => exact ⟨_, _, rfl, h, e, nd, r⟩
  · cases rep_ref r
    obtain ⟨_, _, vs, h, e, nd, r⟩ := R.at' ha
    exact ⟨q, vs, rfl, h, e, nd, r⟩
section
variable {X : Cx} {E : XK} {e o i value : Expr} {te to ti tv : TE} {w wo wk wv : WE} {pos pos' p apos cpos epos : Pos}
/-- d[k] -/
def wGetI (wo wk : WE) : WE := fun ρ Φ => wo ρ fun d => wk ρ fun f => ∃ (is : List Int) (xs : List D) (i : Int) (k : Nat) (x : D), DvI ρ.sl d is xs ∧ f = .int i ∧ is[k]? = some i ∧ xs[k]? = some x ∧ Φ x
theorem de_getI (hu : X.A.units + 64 < cLine) (ho : DE X E o to wo) (hi : DE X E i ti wk) (hs : NoSl i := by exact fun _ _ => rfl) : DE X E (.Subscript o i pos) (tDGet to ti) (wGetI wo wk) := by
  refine ⟨pe_dget (by omega) ho.p hi.p hs, fun δ M σ H ρ R Φ Q h kk => ?_⟩
  refine ho.a δ M σ H ρ R _ _ h fun v H1 d e1 r1 h1 => ?_
  refine hi.a δ M σ H1 ρ (R.ext e1) _ _ h1 fun u H2 f e2 r2 h2 => ?_
  obtain ⟨is, xs, n, k, x, hd, rfl, h3, h4, h5⟩ := h2
  obtain ⟨q, vs, rfl, hq, hl, nd, rl⟩ := hd.of ((R.ext e1).ext e2) (r1.keep e2.kept)
  cases r2
  obtain ⟨y, hy, ry⟩ := rl.at h4
  have g := DGet.k (k := .inl n) hq
  rw [valV_kvI nd hl h3 hy] at g
  exact ⟨q, y, rfl, g, kk y H2 x (e1.trans e2) ry h5⟩
/-- k in d, k not in d -/
def wInI (neg : Bool) (wk wo : WE) : WE := fun ρ Φ => wk ρ fun f => wo ρ fun d => ∃ (is : List Int) (xs : List D) (i : Int), DvI ρ.sl d is xs ∧ f = .int i ∧ Φ (.bl (if neg then !decide (i ∈ is) else decide (i ∈ is)))
theorem kvI_isSome {is : List Int} {vs : List V} {i : Int} (nd : is.Nodup) (hl : is.length = vs.length) : (valV (kvI is vs) (.inl i)).isSome = decide (i ∈ is) := by
  by_cases h : i ∈ is
  · obtain ⟨k, hk⟩ := List.getElem?_of_mem h
    have hkl : k < vs.length := by rw [← hl]; exact (List.getElem?_eq_some_iff.mp hk).1
    rw [valV_kvI nd hl hk (List.getElem?_eq_getElem hkl), decide_eq_true h]
    rfl
  · rw [valV_kvI_none h, decide_eq_false h]
    rfl
theorem abs_inI (hi : AbsE E ti wk) (ho : AbsE E to wo) : AbsE E (tDIn ti to) (wInI false wk wo) := fun δ M σ H ρ R Φ Q h kk =>
  hi δ M σ H ρ R _ _ h fun u H1 f e1 r1 h1 => ho δ M σ H1 ρ (R.ext e1) _ _ h1 fun v H2 d e2 r2 h2 => by
    obtain ⟨is, xs, n, hd, rfl, h3⟩ := h2
    obtain ⟨q, vs, rfl, hq, hl, nd, rl⟩ := hd.of ((R.ext e1).ext e2) r2
    cases r1
    refine ⟨q, _, rfl, DGet.k (k := .inl n) hq, ?_⟩
    rw [kvI_isSome nd hl]
    exact kk _ H2 _ (e1.trans e2) (.bl _) h3
theorem abs_notInI (hi : AbsE E ti wk) (ho : AbsE E to wo) : AbsE E (tDNotIn ti to) (wInI true wk wo) := fun δ M σ H ρ R Φ Q h kk =>
  hi δ M σ H ρ R _ _ h fun u H1 f e1 r1 h1 => ho δ M σ H1 ρ (R.ext e1) _ _ h1 fun v H2 d e2 r2 h2 => by
    obtain ⟨is, xs, n, hd, rfl, h3⟩ := h2
    obtain ⟨q, vs, rfl, hq, hl, nd, rl⟩ := hd.of ((R.ext e1).ext e2) r2
    cases r1
    refine ⟨q, _, rfl, DGet.k (k := .inl n) hq, ?_⟩
    rw [kvI_isSome nd hl]
    exact kk _ H2 _ (e1.trans e2) (.bl _) h3
theorem de_inI (hu : X.A.units + 64 < cLine) (hi : DE X E i ti wk) (ho : DE X E o to wo) (hb : behindInMarks .In o = false := by rfl) : DE X E (.Compare i [.In] [o] pos) (tDIn ti to) (wInI false wk wo) := ⟨pe_cmp (pc_din (by omega) hi.p ho.p) hb, abs_inI hi.a ho.a⟩
theorem de_notInI (hu : X.A.units + 64 < cLine) (hi : DE X E i ti wk) (ho : DE X E o to wo) (hb : behindInMarks .NotIn o = false := by rfl) : DE X E (.Compare i [.NotIn] [o] pos) (tDNotIn ti to) (wInI true wk wo) := ⟨pe_cmp (pc_dnotin (by omega) hi.p ho.p) hb, abs_notInI hi.a ho.a⟩
theorem dt_inI (hu : X.A.units + 64 < cLine) (hi : DE X E i ti wk) (ho : DE X E o to wo) (hb : behindInMarks .In o = false := by rfl) : DT X E (.Compare i [.In] [o] pos) (tB (tDIn ti to)) (wTest (wInI false wk wo)) := ⟨pt_cmp (pc_din (by omega) hi.p ho.p) hb, abs_test (abs_inI hi.a ho.a)⟩
theorem dt_notInI (hu : X.A.units + 64 < cLine) (hi : DE X E i ti wk) (ho : DE X E o to wo) (hb : behindInMarks .NotIn o = false := by rfl) : DT X E (.Compare i [.NotIn] [o] pos) (tB (tDNotIn ti to)) (wTest (wInI true wk wo)) := ⟨pt_cmp (pc_dnotin (by omega) hi.p ho.p) hb, abs_test (abs_notInI hi.a ho.a)⟩
/-- d[k] = v, k new -/
def wPutI (wv wo wk : WE) : WS := fun c Φ l => wv ⟨c, l⟩ fun x => wo ⟨c, l⟩ fun d => wk ⟨c, l⟩ fun f => ∃ q j is xs i, d = .raw (.ref q) ∧ At l q j (.dI is xs) ∧ f = .int i ∧ is.length < 100000 ∧ i ∉ is ∧ Φ.nx (upG l j (.dI (is ++ [i]) (xs ++ [x])))
theorem ds_putI (hu : X.A.units + 64 < cLine) (hv : DE X E value tv wv) (ho : DE X E o to wo) (hi : DE X E i ti wk) (hs : swapsWith value (some (.Subscript o i pos')) pos.line X.env = pure false := by rfl) :
    DS X E (.Assign [.Subscript o i pos'] value pos) (sDPut to ti tv) (wPutI wv wo wk) := by
  refine ⟨ps_dput (by omega) ho.p hi.p hv.p hs, fun δ M0 H0 c Φ D ok σ H l R h => ?_⟩
  obtain ⟨M, m, n, Re⟩ := R.ex
  refine hv.a δ M σ H ⟨c, l⟩ Re _ _ h fun v H1 x e1 r1 h1 => ?_
  have Re1 := Re.ext e1
  refine ho.a δ M σ H1 ⟨c, l⟩ Re1 _ _ h1 fun u H2 d e2 r2 h2 => ?_
  have Re2 := Re1.ext e2
  refine hi.a δ M σ H2 ⟨c, l⟩ Re2 _ _ h2 fun y H3 f e3 r3 h3 => ?_
  have Re3 := Re2.ext e3
  obtain ⟨q, j, is, xs, k, rfl, ha, rfl, hz, hk, h4⟩ := h3
  cases rep_ref r2
  cases r3
  obtain ⟨hm, nd, vs, hq, hl, ndp, rl⟩ := Re3.at' ha
  have hzl : (kvI is vs).length < sizeLine := by
    show ((is.map Sum.inl).zip vs).length < _
    rw [List.length_zip, List.length_map]
    have := sz_lt hz
    omega
  have dp := DPut.k (k := .inl k) (v := v) hq hzl
  rw [putK_kvI_new hl hk] at dp
  have kp : ∀ z, Kept (Bn δ M) H3 (upd H3 q z) := fun z => Kept.put (.inr hm)
  exact ⟨q, _, rfl, dp, ok.nx _ _ _ ((R.ext ((e1.trans e2).trans e3)).putG (o := .dI (is ++ [k]) (xs ++ [x])) ha m n Re3 ⟨vs ++ [v], upd_same, by rw [List.length_append, List.length_append, hl]; rfl, List.nodup_append.mpr ⟨ndp, by simp, fun a ha b hb e => by rw [List.mem_singleton.mp hb] at e; rw [e] at ha; exact hk ha⟩, (rl.app (.cons (r1.keep (e2.trans e3).kept) .nil)).keep (kp _)⟩) h4⟩
def wNewI : Env → (OC → Prop) → Prop := fun _ Φ => Φ (.dI [] [])
theorem do_newI : DO1 X E (.Dict [] [] pos) tDNewK wNewI :=
  ⟨pe_dnewK, fun δ M σ H ρ R Φ Q h kk p hp => kk p _ (.dI [] []) hp (Ext.new hp) ⟨[], upd_same, rfl, List.nodup_nil, .nil⟩ h⟩
/-! any([..]) -/
def wAny : WCl := fun ss Φ => match ss with
  | [.d (.lst xs)] => ∃ bs : List Bool, xs = bs.map .bl ∧ Φ (.bl (bs.any id))
  | _ => False
theorem ac_any : AbsC (rAny KOf.K) wAny := by
  intro δ M H fr vs ss r Φ Q h k
  unfold wAny at h
  split at h
  · obtain ⟨v, rfl, rr⟩ := paired1 r
    cases rr with
    | d rd =>
      obtain ⟨bs, rfl, h⟩ := h
      cases rd with
      | lst n s rl =>
        have e := repL_bl rl
        subst e
        exact ⟨_, bs, rfl, SqL.of s, k _ H _ (Ext.refl H) (.bl _) h⟩
  · exact h.elim
theorem crk_any (K : PySem.W.Frag) (hc : X.calm = true) (hK : X.K = K := by rfl) : CallR X (.builtin "any") (rAny K) := by subst hK; exact cr_any hc
/-! o.extend(list) -/
def wExtG (wo w : WE) : WS := fun c Φ l => wo ⟨c, l⟩ fun d => ∃ q j xs, d = .raw (.ref q) ∧ At l q j (.lst xs) ∧ w ⟨c, l⟩ fun x => match x with
  | .lst ys => xs.length + ys.length ≤ 100000 ∧ Φ.nx (upG l j (.lst (xs ++ ys)))
  | _ => False
theorem ds_extG (ho : DE X E o to wo) (he : DE X E e te w) (hst : starEach (e :: []) X.env = (false, eval e X.env) :: starEach [] X.env := by rfl)
    (hbase : attributeBase o "extend" X.env (eval o X.env) = eval o X.env := by rfl)
    (hfew : ((backTo cpos (starEach (e :: []) X.env)).all (fun x => !x.1) && (backToKw cpos (keywordEach [] X.env)).all (fun x => x.1.isSome)
      && decide ((e :: []).length + ([] : List Keyword).length + (if ([] : List Keyword).isEmpty then 0 else 1) < 30)) = true := by rfl)
    (hline : (apos.endLine == cpos.line) = true := by rfl) (hplain : (backTo cpos (starEach [] X.env)).any (·.1) = false := by rfl)
    (hs : swapsWith (.Call (.Attribute o "extend" apos) [e] [] cpos) none epos.line X.env = pure false := by rfl) (hK : X.K = KOf.K := by rfl) :
    DS X E (.Expr (.Call (.Attribute o "extend" apos) [e] [] cpos) epos) (tDrop (tBM KOf.K "list" rExtend to (tCons te tNil))) (wExtG wo w) := by
  refine ⟨hK ▸ ps_expr (pe_bm PySem.F.plainAttrs_list PySem.F.slot_list_extend PySem.F.type_list_extend mt_extend ho.p (pa_cons he.p pa_nil hst) hbase hfew hline hst hplain) hs, fun δ M0 H0 c Φ D ok σ H l R h => ?_⟩
  obtain ⟨M, m, n, Re⟩ := R.ex
  refine ho.a δ M σ H ⟨c, l⟩ Re _ _ h fun v H1 d e1 r1 h1 => ?_
  obtain ⟨q, j, xs, rfl, ha, h1⟩ := h1
  cases rep_ref r1
  have Re1 := Re.ext e1
  obtain ⟨hm, nd, vs, hq, rl⟩ := Re1.at' ha
  refine ⟨.inl ⟨rfl, _, SqL.of hq⟩, ?_⟩
  refine he.a δ M σ H1 ⟨c, l⟩ Re1 _ _ h1 fun u H2 x e2 r2 h2 => ?_
  cases r2 <;> first | exact False.elim h2 | skip
  rename_i us ys nb s ry
  have hq2 := e2.1 _ _ hq nd
  exact ⟨q, _, vs, us, rfl, rfl, hq2, s, by rw [rl.length, ry.length]; exact sz_of h2.1, ok.nx _ _ _ (((R.ext e1).ext e2).putG (o := .lst (xs ++ ys)) ha m n (Re1.ext e2) ⟨_, upd_same, ((rl.keep e2.kept).app ry).keep (Kept.put (.inr hm))⟩) h2.2⟩
/-! comparisons of what objects of one's own hold -/
def wOpV (wr : WR) (wa wb : WE) : WE := fun ρ Φ => wa ρ fun d => wb ρ fun f => ∃ d' f', Rsv (fun _ => True) ρ.sl d d' ∧ Rsv (fun _ => True) ρ.sl f f' ∧ wr d' f' fun g => flatV g = true ∧ Φ g
theorem abs_opV {r : R2} {wr : WR} {ta tb : TE} {wa wb : WE} (hr : AbsR r wr) (ha : AbsE E ta wa) (hb : AbsE E tb wb) : AbsE E (tOp r ta tb) (wOpV wr wa wb) := fun δ M σ H ρ R Φ Q h k =>
  ha δ M σ H ρ R _ _ h fun v H1 d e1 r1 h1 => hb δ M σ H1 ρ (R.ext e1) _ _ h1 fun u H2 f e2 r2 h2 => by
    obtain ⟨d', f', q1, q2, h2⟩ := h2
    have R2 := (R.ext e1).ext e2
    have fr : Fr δ (lessM M ρ.sl) H2 := fun p hp z => R2.fr p hp (z.elim .inl fun y => .inr (List.mem_filter.mp y).1)
    exact hr δ _ H2 fr v u d' f' (q1.rep R2.rsvAll ((r1.keep e2.kept).less (lessM_bn _))) (q2.rep R2.rsvAll (r2.less (lessM_bn _))) _ Q h2 fun v' H' g e3 r3 h3 => k v' H' g ((e1.trans e2).trans e3) (r3.flatV (R2.ext e3).flatBack h3.1) h3.2
theorem dt_cmpV {a b : Expr} {ta tb : TE} {wa wb : WE} {r : R2} {wr : WR} {op : CmpOp} (ho : OpR X (compareOp op) r) (hr : AbsR r wr) (ha : DE X E a ta wa) (hb : DE X E b tb wb) (hm : behindInMarks op b = false) : DT X E (.Compare a [op] [b] pos) (tTest (tOp r ta tb)) (wTest (wOpV wr wa wb)) := by
  obtain ⟨pa, aa⟩ := ha
  obtain ⟨pb, ab⟩ := hb
  refine ⟨pt_cmpR ho pa pb hm, fun δ M σ H ρ R Φ Q h k => ?_⟩
  refine abs_opV hr aa ab δ M σ H ρ R _ _ h fun v H' d e r h' => ?_
  cases r <;> first | exact False.elim h' | exact ⟨_, rfl, k _ H' e h'⟩
end
end Dl

namespace Dl
open PySem L2 PyProof.Rows
variable [KOf]
section
variable {X : Cx} {E : XK} {δ : Option Addr} {M M0 : List Addr} {H H0 : Hp} {σ : L2.St} {c : Ct} {l : Sl} {st : List Stmt} {t : TS} {w : WS}
/-- an object of one's own and all it holds: plain data from here on; slots behind n left out -/
def wFrzR (n i : Nat) (w : WS) : WS := fun c Φ l => ∃ p o d, look l i = some (.obj p o) ∧ i < n ∧ Rsv (fun q => q = p ∨ q ∈ adrs (l.drop n)) l (.raw (.ref p)) d ∧ ¬ c.lk p ∧ (∀ q ∈ adrs (l.drop n), ¬ c.lk q) ∧ w c Φ (setS (l.take n) i (.d d))
theorem take_at {n i : Nat} {s : S} (h : (l.take n)[i]? = some (some s)) : i < n ∧ l[i]? = some (some s) := by
  rcases Nat.lt_or_ge i n with q | q
  · rw [List.getElem?_take_of_lt q] at h; exact ⟨q, h⟩
  · rw [List.getElem?_eq_none (by rw [List.length_take]; omega)] at h; cases h
theorem drop_at {n : Nat} {q : Addr} (h : q ∈ adrs (l.drop n)) : ∃ (j : Nat) (s : S), n ≤ j ∧ l[j]? = some (some s) ∧ s.adr = some q := by
  obtain ⟨i, s, h1, h2⟩ := adrs_at h
  rw [List.getElem?_drop] at h1
  exact ⟨n + i, s, by omega, h1, h2⟩
theorem RS.frzR (R : RS δ M0 H0 E c σ H l) {n i : Nat} {p : Addr} {o : OC} {d : D} (hn : σ.length ≤ n) (hl : look l i = some (.obj p o)) (hi : i < n) (q : Rsv (fun q => q = p ∨ q ∈ adrs (l.drop n)) l (.raw (.ref p)) d) (hp : ¬ c.lk p) (hq : ∀ q ∈ adrs (l.drop n), ¬ c.lk q) : RS δ M0 H0 E c σ H (setS (l.take n) i (.d d)) := by
  obtain ⟨M, m, mn, Re⟩ := R.ex
  have hg := look_get hl
  obtain ⟨hσ, hm, ndl, ro⟩ := Re.own' hl
  let gone : Addr → Prop := fun b => b = p ∨ b ∈ adrs (l.drop n)
  have less : ∀ b, Bn δ (M.filter fun b => decide (¬ (b = p ∨ b ∈ adrs (l.drop n)))) b → Bn δ M b ∨ H b = none := fun b z => .inl (z.elim .inl fun y => .inr (List.mem_filter.mp y).1)
  have lk0 : ∀ b, gone b → ¬ c.lk b := fun b z => z.elim (fun e => by rw [e]; exact hp) (hq b)
  have slot : ∀ b, gone b → ∃ (j : Nat) (s : S), (j = i ∨ n ≤ j) ∧ l[j]? = some (some s) ∧ s.adr = some b := fun b z => by
    rcases z with z | z
    · exact ⟨i, _, .inl rfl, hg, by rw [z]; rfl⟩
    · obtain ⟨j, s, h1, h2, h3⟩ := drop_at z
      exact ⟨j, s, .inr h1, h2, h3⟩
  have old : ∀ {j : Nat} {s : S} {a : Addr}, (setS (l.take n) i (.d d))[j]? = some (some s) → s.adr = some a → j < n ∧ j ≠ i ∧ l[j]? = some (some s) := fun {j s a} z e => by
    rcases setS_at z with ⟨_, _, rfl⟩ | ⟨h1, h2⟩
    · cases e
    · exact ⟨(take_at h2).1, h1, (take_at h2).2⟩
  have keepM : ∀ {j : Nat} {s : S} {a : Addr}, j < n → j ≠ i → l[j]? = some (some s) → s.adr = some a → a ∈ M → a ∈ M.filter fun b => decide (¬ (b = p ∨ b ∈ adrs (l.drop n))) := fun {j s a} h1 h2 h3 h4 h5 => List.mem_filter.mpr ⟨h5, decide_eq_true fun z => by
    obtain ⟨k, t, k1, k2, k3⟩ := slot a z
    have := Re.one j k a s t h3 k2 h4 k3
    omega⟩
  have m0 : ∀ b, b ∈ M0 → ¬ gone b := fun b hb z => by
    obtain ⟨k, t, _, k2, k3⟩ := slot b z
    exact R.m0 b hb ((R.wr k b t k2 k3).resolve_left (lk0 b z))
  refine ⟨⟨M.filter fun b => decide (¬ (b = p ∨ b ∈ adrs (l.drop n))), fun b hb => List.mem_filter.mpr ⟨m b hb, decide_eq_true (m0 b hb)⟩, fun b hb => mn b (List.mem_filter.mp hb).1, ⟨?_, fun k s z => ?_, fun j j' a s t z z' e e' => ?_, fun b hb => Re.okM b (List.mem_filter.mp hb).1, Re.okd, ?_⟩⟩, R.kd, R.d0, fun k a s z e => R.wr k a s (old z e).2.2 e, R.wm, R.m0⟩
  · show σ.length ≤ (setS (l.take n) i (.d d)).length
    rw [setS_len, List.length_take]
    exact Nat.le_min.mpr ⟨hn, Re.len⟩
  · rcases setS_at z with ⟨rfl, _, rfl⟩ | ⟨h1, h2⟩
    · refine ⟨.ref p, fun _ => hσ, .d (q.rep (fun r j o a k => ?_) (.raw _))⟩
      obtain ⟨_, nr, ro'⟩ := Re.at' a
      exact ⟨ro'.less less, fun z => z.elim nr fun z => (of_decide_eq_true (List.mem_filter.mp z).2) k⟩
    · obtain ⟨hk, h3⟩ := take_at h2
      obtain ⟨v, g1, g2⟩ := Re.rep k s h3
      refine ⟨v, g1, ?_⟩
      cases g2 with
      | d rr => exact .d (rr.less less)
      | obj mm nn rr => exact .obj (keepM hk h1 h3 rfl mm) nn (rr.less less)
      | gh mm nn rr => exact .gh (keepM hk h1 h3 rfl mm) nn (rr.less less)
      | dice hh qq => exact .dice hh qq
  · exact Re.one j j' a s t (old z e).2.2 (old z' e').2.2 e e'
  · obtain ⟨He, Me, a, mm, b, r⟩ := Re.en
    refine ⟨He, Me, a, fun b' hb => ⟨List.mem_filter.mpr ⟨(mm b' hb).1, decide_eq_true fun z => ?_⟩, (mm b' hb).2⟩, fun j q' s z e => b j q' s (old z e).2.2 e, r⟩
    obtain ⟨k, t, _, k2, k3⟩ := slot b' z
    exact (mm b' hb).2 (b k b' t k2 k3)
theorem dss_frzR (n i : Nat) (h : DSs X E st t w) (hn : X.N.length ≤ n := by decide) : DSs X E st (tLen X.N.length t) (wFrzR n i w) :=
  ⟨pss_len h.p, fun δ M0 H0 c Φ D ok σ H l R ⟨p, o, d, h1, h2, h3, h4, h5, h6⟩ hl => h.a δ M0 H0 c Φ D ok σ H _ (R.frzR (by rw [hl]; exact hn) h1 h2 h3 h4 h5) h6⟩
end
end Dl
/-! Hands that hang: mathematics. -/
namespace Gh
open PySem L2 Dl
variable [KOf]
/-- the first k hands' steps of those that aren't outside -/
def notOut (g : Gt) (s : Stt) (row : List Nat) (k : Nat) : List Nat := ((List.range k).filter fun h => !atB isOut g s h).map fun h => row.getD h 0
def hungB (g : Gt) (m : MM) : List (List Nat) := List.zipWith (fun s r => notOut g s r g.hs.length) m.st m.rows
theorem hungB_at {g : Gt} {m : MM} {n : Nat} {s : Stt} {r : List Nat} (hs : m.st[n]? = some s) (hr : m.rows[n]? = some r) : (hungB g m)[n]? = some (notOut g s r g.hs.length) := by
  unfold hungB
  rw [List.getElem?_zipWith, hs, hr]
theorem hungB_len {g : Gt} {m : MM} (hcl : m.rows.length = m.st.length) : (hungB g m).length = m.st.length := by
  unfold hungB
  rw [List.length_zipWith, hcl, Nat.min_self]
theorem notOut_yes {g : Gt} {s : Stt} {row : List Nat} {k : Nat} {x : Nat} (h : atB isOut g s k = false) (hx : row[k]? = some x) : notOut g s row (k + 1) = notOut g s row k ++ [x] := by
  unfold notOut
  rw [List.range_succ, List.filter_append, List.map_append]
  simp [h, List.getD_eq_getElem?_getD, hx]
theorem notOut_no {g : Gt} {s : Stt} {row : List Nat} {k : Nat} (h : atB isOut g s k = true) : notOut g s row (k + 1) = notOut g s row k := by
  unfold notOut
  rw [List.range_succ, List.filter_append, List.map_append]
  simp [h]
theorem notOut_len {g : Gt} {s : Stt} {row : List Nat} {k : Nat} : (notOut g s row k).length ≤ k := by
  unfold notOut
  rw [List.length_map]
  exact Nat.le_trans (List.length_filter_le _ _) (by rw [List.length_range]; exact Nat.le_refl _)
theorem notOut_pre {g : Gt} {s : Stt} {row : List Nat} {k n : Nat} (h : k ≤ n) : notOut g s row k = (notOut g s row n).take (notOut g s row k).length := by
  obtain ⟨d, rfl⟩ : ∃ d, n = k + d := ⟨n - k, by omega⟩
  have : ∃ e, notOut g s row (k + d) = notOut g s row k ++ e := by
    induction d with
    | zero => exact ⟨[], (List.append_nil _).symm⟩
    | succ d ih =>
      obtain ⟨e, he⟩ := ih (by omega)
      unfold notOut at he ⊢
      rw [← Nat.add_assoc, List.range_succ, List.filter_append, List.map_append, he, List.append_assoc]
      exact ⟨_, rfl⟩
  obtain ⟨e, he⟩ := this
  rw [he, List.take_left]
theorem hungB_gr {g : Gt} {m : MM} (og : OkGate g) (w : Wf g m) (hcl : m.rows.length = m.st.length) (h5 : m.st.length ≤ 5000) : GrOk (hungB g m) := by
  refine ⟨by rw [hungB_len hcl]; exact h5, fun row hr => ?_⟩
  obtain ⟨n, hn⟩ := List.getElem?_of_mem hr
  have hnl := (List.getElem?_eq_some_iff.mp hn).1
  rw [hungB_len hcl] at hnl
  obtain ⟨s, hs⟩ : ∃ s, m.st[n]? = some s := ⟨_, List.getElem?_eq_getElem hnl⟩
  obtain ⟨r, hr'⟩ : ∃ r, m.rows[n]? = some r := ⟨_, List.getElem?_eq_getElem (by omega)⟩
  rw [hungB_at hs hr'] at hn
  cases hn
  have h4 := og.h4
  refine ⟨Nat.le_trans notOut_len h4, fun k hk => ?_⟩
  obtain ⟨h, hh, rfl⟩ := List.mem_map.mp hk
  have hh : h < g.hs.length := List.mem_range.mp (List.mem_filter.mp hh).1
  obtain ⟨r1, r2⟩ := w.rw n r hr'
  obtain ⟨x, hx⟩ : ∃ x, r[h]? = some x := ⟨_, List.getElem?_eq_getElem (by omega)⟩
  obtain ⟨_, _, h2⟩ := r2 h x hx
  rw [hungB_len hcl, List.getD_eq_getElem?_getD, hx]
  exact (List.getElem?_eq_some_iff.mp h2).1
def HungBad (g : Gt) (n : Nat) : Prop := ∃ s, (mapM g).st[n]? = some s ∧ handsD isWait g s g.hs.length ≠ [] ∧ ∀ h, h < g.hs.length → atB isWait g s h = true → ¬ Lead (hungB g (mapM g)) (inB' g (mapM g) h) n
def FirstN (bad : Nat → Prop) (N : Nat) : Option Nat → Prop
  | none => ∀ n, n < N → ¬ bad n
  | some n => n < N ∧ bad n ∧ ∀ n', n' < n → ¬ bad n'
theorem FirstN.uniq {bad : Nat → Prop} {N : Nat} : ∀ {r r' : Option Nat}, FirstN bad N r → FirstN bad N r' → r = r'
  | none, none, _, _ => rfl
  | none, some n, a, ⟨b1, b2, _⟩ => absurd b2 (a n b1)
  | some n, none, ⟨b1, b2, _⟩, a => absurd b2 (a n b1)
  | some n, some n', ⟨a1, a2, a3⟩, ⟨b1, b2, b3⟩ => by
    have h1 : ¬ n < n' := fun z => b3 n z a2
    have h2 : ¬ n' < n := fun z => a3 n' z b2
    have e : n = n' := by omega
    rw [e]
def dHung (g : Gt) : Option Nat → D
  | none => .non
  | some n => .tup [.lst ((wayM (mapM g).rt n).map dNat), .lst (handsD isWait g ((mapM g).st.getD n (begM g)) g.hs.length)]
def PP_steps_of_all_but_outside (C cM : Addr) (ss : List S) (Φ : D → Prop) : Prop := ∃ (g : Gt) (m : MM), ss = [.d (dObj C g), .d (dMap cM m)] ∧ OkGate g ∧ Wf g m ∧ m.rows.length = m.st.length ∧ m.st.length ≤ 5000 ∧ Φ (.lst ((hungB g m).map dNats))
def PP_hung (C : Addr) (ss : List S) (Φ : D → Prop) : Prop := ∃ g, ss = [.d (dObj C g)] ∧ OkGate g ∧ szG g ≤ 5000 ∧ ∀ r, FirstN (HungBad g) (mapM g).st.length r → Φ (dHung g r)
def P_can (ss : List S) (Φ : D → Prop) : Prop := ∃ (g : Gt) (m : MM) (h : Nat), ss = [.d (dGate g), .d (.lst (m.st.map dStt)), .d (.lst (m.rows.map dNats)), .d (.int h)] ∧ OkGate g ∧ Wf g m ∧ m.rows.length = m.st.length ∧ m.st.length ≤ 5000 ∧ h < g.hs.length ∧
  ∀ is xs, (∀ n : Nat, (n : Int) ∈ is ↔ Lead (hungB g m) (inB' g m h) n) → Φ (.dcI is xs)
def P_waiter (ss : List S) (Φ : D → Prop) : Prop := ss = [.dice] ∧ ∀ g, OkGate g → szG g ≤ 5000 → sz1 g → Φ (dGate g)
/-! the law's search -/
def sumL (xss : List (List Nat)) : Nat := (xss.map List.length).foldr (· + ·) 0
theorem sumL_set : ∀ {xss : List (List Nat)} {o : Nat} {xs : List Nat} {x : Nat}, xss[o]? = some xs → sumL (xss.set o (xs ++ [x])) = sumL xss + 1
  | [], _, _, _, h => by cases h
  | y :: r, 0, xs, x, h => by
    cases h
    show (y ++ [x]).length + sumL r = y.length + sumL r + 1
    rw [List.length_append, List.length_singleton]
    omega
  | y :: r, o + 1, xs, x, h => by
    show y.length + sumL (r.set o (xs ++ [x])) = y.length + sumL r + 1
    rw [sumL_set (show r[o]? = some xs from h)]
    omega
theorem sumL_zero (n : Nat) : sumL (List.replicate n []) = 0 := by
  induction n with
  | zero => rfl
  | succ n ih =>
    show ([] : List Nat).length + sumL (List.replicate n []) = 0
    rw [ih]
    rfl
/-- the rows of what isn't found yet -/
def unf (is : List Int) : Nat → List (List Nat) → Nat
  | _, [] => 0
  | k, x :: r => (if (k : Int) ∈ is then 0 else x.length) + unf is (k + 1) r
theorem unf_nil : ∀ (k : Nat) (xss : List (List Nat)), unf [] k xss = sumL xss
  | _, [] => rfl
  | k, x :: r => by
    show (if (k : Int) ∈ ([] : List Int) then 0 else x.length) + unf [] (k + 1) r = x.length + sumL r
    rw [if_neg (by simp), unf_nil (k + 1) r]
theorem unf_low {is : List Int} {n : Nat} : ∀ {k : Nat} {xss : List (List Nat)}, n < k → unf (is ++ [(n : Int)]) k xss = unf is k xss
  | _, [], _ => rfl
  | k, x :: r, h => by
    show (if (k : Int) ∈ is ++ [(n : Int)] then 0 else x.length) + unf (is ++ [(n : Int)]) (k + 1) r = (if (k : Int) ∈ is then 0 else x.length) + unf is (k + 1) r
    rw [unf_low (by omega)]
    congr 1
    by_cases q : (k : Int) ∈ is
    · rw [if_pos q, if_pos (List.mem_append_left _ q)]
    · rw [if_neg q, if_neg fun z => (List.mem_append.mp z).elim q fun y => by have := List.mem_singleton.mp y; omega]
theorem unf_step {is : List Int} {n : Nat} {xs : List Nat} : ∀ {k : Nat} {xss : List (List Nat)}, k ≤ n → xss[n - k]? = some xs → (n : Int) ∉ is → unf (is ++ [(n : Int)]) k xss + xs.length = unf is k xss
  | k, [], _, h, _ => by simp at h
  | k, x :: r, hk, h, hn => by
    show (if (k : Int) ∈ is ++ [(n : Int)] then 0 else x.length) + unf (is ++ [(n : Int)]) (k + 1) r + xs.length = (if (k : Int) ∈ is then 0 else x.length) + unf is (k + 1) r
    rcases Nat.eq_or_lt_of_le hk with e | e
    · subst e
      rw [Nat.sub_self] at h
      cases h
      rw [if_pos (List.mem_append_right _ (List.mem_singleton.mpr rfl)), if_neg hn, unf_low (k := k + 1) (by omega)]
      omega
    · have h' : r[n - (k + 1)]? = some xs := by
        have e1 : n - k = (n - (k + 1)) + 1 := by omega
        rw [e1] at h
        exact h
      have ih := unf_step (k := k + 1) (xss := r) (by omega) h' hn
      have e2 : (if (k : Int) ∈ is ++ [(n : Int)] then 0 else x.length) = (if (k : Int) ∈ is then 0 else x.length) := by
        by_cases q : (k : Int) ∈ is
        · rw [if_pos q, if_pos (List.mem_append_left _ q)]
        · rw [if_neg q, if_neg fun z => (List.mem_append.mp z).elim q fun y => by have := List.mem_singleton.mp y; omega]
      rw [e2]
      omega
structure CanI (beh : List (List Nat)) (gs : List Bool) (is : List Int) (T : List Nat) : Prop where
  lt : ∀ n ∈ T, n < beh.length
  snd : ∀ n : Nat, ((n : Int) ∈ is ∨ n ∈ T) → Lead beh gs n
  gl : ∀ n : Nat, gs[n]? = some true → (n : Int) ∈ is ∨ n ∈ T
  cl : ∀ n m : Nat, nx beh n m → (m : Int) ∈ is → (n : Int) ∈ is ∨ n ∈ T
theorem can_end {beh : List (List Nat)} {gs : List Bool} {is : List Int} (h : CanI beh gs is []) : ∀ n : Nat, (n : Int) ∈ is ↔ Lead beh gs n := fun n => by
  refine ⟨fun z => h.snd n (.inl z), fun z => ?_⟩
  induction z with
  | goal e => exact (h.gl _ e).resolve_right fun y => nomatch y
  | step e _ ih => exact (h.cl _ _ e ih).resolve_right fun y => nomatch y
theorem last_split {T : List Nat} {m : Nat} (hm : T[T.length - 1]? = some m) : T = T.dropLast ++ [m] := by
  have hl : T.length - 1 < T.length := (List.getElem?_eq_some_iff.mp hm).1
  refine List.ext_getElem? fun i => ?_
  rw [List.dropLast_eq_take]
  rcases Nat.lt_or_ge i (T.length - 1) with q | q
  · rw [List.getElem?_append_left (by rw [List.length_take]; omega), List.getElem?_take_of_lt q]
  · rw [List.getElem?_append_right (by rw [List.length_take]; omega), List.length_take]
    rcases Nat.eq_or_lt_of_le q with z | z
    · rw [← z, hm, Nat.min_eq_left (by omega), Nat.sub_self]
      rfl
    · rw [List.getElem?_eq_none (by omega), List.getElem?_eq_none (by simp; omega)]
theorem can_old {beh : List (List Nat)} {gs : List Bool} {is : List Int} {T : List Nat} {m : Nat} (h : CanI beh gs is T) (hm : T[T.length - 1]? = some m) (hi : (m : Int) ∈ is) : CanI beh gs is T.dropLast := by
  have hT := last_split hm
  have tm : ∀ n, n ∈ T → n ∈ T.dropLast ∨ n = m := fun n z => by rw [hT] at z; simpa using z
  have mt : ∀ n, n ∈ T.dropLast → n ∈ T := fun n z => by rw [hT]; exact List.mem_append_left _ z
  have fix : ∀ n : Nat, ((n : Int) ∈ is ∨ n ∈ T) → (n : Int) ∈ is ∨ n ∈ T.dropLast := fun n z => by
    rcases z with z | z
    · exact .inl z
    · rcases tm n z with y | y
      · exact .inr y
      · rw [y]; exact .inl hi
  exact ⟨fun n z => h.lt n (mt n z), fun n z => h.snd n (z.imp id (mt n)), fun n z => fix n (h.gl n z), fun n k e z => fix n (h.cl n k e z)⟩
theorem can_new {beh ah : List (List Nat)} {gs : List Bool} {is : List Int} {T : List Nat} {m : Nat} {row : List Nat} (h : CanI beh gs is T) (hm : T[T.length - 1]? = some m) (hr : ah[m]? = some row) (ha : ∀ n m, nx ah n m ↔ nx beh m n) : CanI beh gs (is ++ [(m : Int)]) (T.dropLast ++ row) := by
  have hT := last_split hm
  have tm : ∀ n, n ∈ T → n ∈ T.dropLast ∨ n = m := fun n z => by rw [hT] at z; simpa using z
  have mt : ∀ n, n ∈ T.dropLast → n ∈ T := fun n z => by rw [hT]; exact List.mem_append_left _ z
  have mT : m ∈ T := List.mem_of_getElem? hm
  have hrow : ∀ n, n ∈ row ↔ nx beh n m := fun n => ⟨fun z => (ha m n).mp ⟨row, hr, z⟩, fun z => by
    obtain ⟨r, h1, h2⟩ := (ha m n).mpr z
    rw [hr] at h1
    cases h1
    exact h2⟩
  have fix : ∀ n : Nat, ((n : Int) ∈ is ∨ n ∈ T) → (n : Int) ∈ is ++ [(m : Int)] ∨ n ∈ T.dropLast ++ row := fun n z => by
    rcases z with z | z
    · exact .inl (List.mem_append_left _ z)
    · rcases tm n z with y | y
      · exact .inr (List.mem_append_left _ y)
      · rw [y]; exact .inl (List.mem_append_right _ (List.mem_singleton.mpr rfl))
  refine ⟨fun n z => ?_, fun n z => ?_, fun n z => fix n (h.gl n z), fun n k e z => ?_⟩
  · rcases List.mem_append.mp z with y | y
    · exact h.lt n (mt n y)
    · obtain ⟨r, h1, _⟩ := (hrow n).mp y
      exact (List.getElem?_eq_some_iff.mp h1).1
  · rcases z with z | z
    · rcases List.mem_append.mp z with y | y
      · exact h.snd n (.inl y)
      · have := List.mem_singleton.mp y
        have e : n = m := by omega
        rw [e]; exact h.snd m (.inr mT)
    · rcases List.mem_append.mp z with y | y
      · exact h.snd n (.inr (mt n y))
      · exact .step ((hrow n).mp y) (h.snd m (.inr mT))
  · rcases List.mem_append.mp z with y | y
    · exact fix n (h.cl n k e y)
    · have := List.mem_singleton.mp y
      have ek : k = m := by omega
      subst ek
      exact .inr (List.mem_append_right _ ((hrow n).mpr e))
end Gh
namespace Gh
open PySem L2 Dl
variable [KOf]
theorem dHung_some {g : Gt} {n : Nat} {s : Stt} (es : (mapM g).st[n]? = some s) : dHung g (some n) = .tup [.lst ((wayM (mapM g).rt n).map dNat), .lst (handsD isWait g s g.hs.length)] := by
  have e : (mapM g).st.getD n (begM g) = s := by rw [List.getD_eq_getElem?_getD, es]; rfl
  show D.tup [_, .lst (handsD isWait g ((mapM g).st.getD n (begM g)) g.hs.length)] = _
  rw [e]
theorem dHung_lv {g : Gt} (og : OkGate g) (w : WfS g (mapM g).st (mapM g).rt) (h5 : (mapM g).st.length ≤ 5000) : ∀ {r : Option Nat}, (∀ n, r = some n → n < (mapM g).st.length) → Lv 6 (dHung g r)
  | none, _ => trivial
  | some n, k => by
    have hn := k n rfl
    have := wayM_len w n hn
    have h4 := og.h4
    refine ⟨by show 2 < 100000; omega, fun x hx => ?_⟩
    rcases List.mem_cons.mp hx with rfl | hx
    · exact lvNats 3 _ (by omega)
    · rw [List.mem_singleton.mp hx]
      refine ⟨Nat.lt_of_le_of_lt handsD_len (by omega), fun x hx => ?_⟩
      obtain ⟨i, _, rfl⟩ := List.mem_map.mp hx
      exact trivial
def UpToN (g : Gt) (n : Nat) : Option Nat → Prop
  | none => ∀ n', n' < n → ¬ HungBad g n'
  | some r => FirstN (HungBad g) (mapM g).st.length (some r)
/-- a gate where hands may wait for one that goes out -/
def waitH : Hand := (1, [.go 0 [] 1, .go 0 [0] 1, .inn])
def putH : Hand := (1, [.put 0 1, .inn])
theorem waitH_ok : OkHand [(0, 1)] waitH := okHandB_ok (i := 2) (by decide +kernel)
theorem putH_ok : OkHand [(0, 1)] putH := okHandB_ok (i := 1) (by decide +kernel)
end Gh
namespace Gh
open PySem L2 Dl
variable [KOf]
theorem osL_mem {ps : List Addr} {xss : List (List Nat)} {k : Nat} {q : Addr} {xs : List Nat} (h1 : ps[k]? = some q) (h2 : xss[k]? = some xs) : q ∈ adrs (ghs (osL ps xss)) :=
  adrs_of (l := ghs (osL ps xss)) (i := k) (s := .gh q (.lst (xs.map dNat))) (by rw [List.getElem?_map, osL_at h1 h2]; rfl) rfl
theorem rsv_LLn {pre : Sl} {ps : List Addr} {xss : List (List Nat)} {p : Addr} {j : Nat} (hl : ps.length = xss.length) (ha : At (pre ++ ghs (osL ps xss)) p j (.lst (refs ps))) : Rsv (fun q => q = p ∨ q ∈ adrs (ghs (osL ps xss))) (pre ++ ghs (osL ps xss)) (.raw (.ref p)) (.lst (xss.map dNats)) := by
  refine .ref ha (.inl rfl) rfl (.lst (rsvL_idx (by rw [List.length_map, List.length_map, hl]) fun k x y e f => ?_))
  obtain ⟨q, hq, rfl⟩ := map_at e
  obtain ⟨xs, hx, rfl⟩ := map_at f
  exact .ref (.inr (gh_at hq hx)) (.inr (osL_mem hq hx)) rfl (.same _)
end Gh
namespace Gh
open PySem L2 Dl
variable [KOf]
theorem ne_hands {q : Hand → Int → Bool} {g : Gt} {s : Stt} {n : Nat} {Φ : D → Prop} (h : Φ (.bl (!(handsD q g s n).isEmpty))) : wNeU (.lst (handsD q g s n)) (.lst []) Φ := by
  have e : handsD q g s n = (natI ((List.range n).filter (atB q g s))).map .int := by rw [natI_dInts]; rfl
  rw [e] at h ⊢
  refine ne_nil ?_
  cases z : natI ((List.range n).filter (atB q g s)) with
  | nil => rw [z] at h; exact h
  | cons x r => rw [z] at h; exact h
theorem eq_nats {l : List Nat} {Φ : D → Prop} (h : Φ (.bl (decide (l = [])))) : wEqU (.lst (l.map dNat)) (.lst []) Φ := by
  have e : l.map dNat = (natI l).map .int := (natI_dInts l).symm
  rw [e]
  refine eq_nil ?_
  cases l with
  | nil => exact h
  | cons x r => exact h
end Gh

namespace Gh
open PySem PySem.Spec PyProof.Rows L2 HotX L2H Dl
variable [KOf]
structure EA where
  BadGate : Addr
  NoHand : Addr
  TooMany : Addr
  TwoWithin : Addr
  OtherGate : Addr
  BadText : Addr
structure ETx (mg : Str → Option Value) (ea : EA) : Prop where
  x_BadGate : mg "BadGate" = some (.ref ea.BadGate)
  x_NoHand : mg "NoHand" = some (.ref ea.NoHand)
  x_TooMany : mg "TooMany" = some (.ref ea.TooMany)
  x_TwoWithin : mg "TwoWithin" = some (.ref ea.TwoWithin)
  x_OtherGate : mg "OtherGate" = some (.ref ea.OtherGate)
  x_BadText : mg "BadText" = some (.ref ea.BadText)
  ValueError : mg "ValueError" = none
structure IsC (K : PySem.W.Frag) (ea : EA) (D : Addr) (b0 b1 b2 b3 b4 b5 : Bool) : Prop where
  c : ExcC K D
  k_ValueError : PySem.W.kitOne K (.ref D) (.type "ValueError") = some true
  k_BadGate : PySem.W.kitOne K (.ref D) (.ref ea.BadGate) = some b0
  k_NoHand : PySem.W.kitOne K (.ref D) (.ref ea.NoHand) = some b1
  k_TooMany : PySem.W.kitOne K (.ref D) (.ref ea.TooMany) = some b2
  k_TwoWithin : PySem.W.kitOne K (.ref D) (.ref ea.TwoWithin) = some b3
  k_OtherGate : PySem.W.kitOne K (.ref D) (.ref ea.OtherGate) = some b4
  k_BadText : PySem.W.kitOne K (.ref D) (.ref ea.BadText) = some b5
theorem _root_.L2H.RoomH.units {k : Nat} {A : Around} (r : L2H.RoomH k A) : A.units + 64 < cLine := by have := r.un; omega
def P_refused (C : Addr) (ss : List S) (Φ : D → Prop) : Prop := ∃ (g : Gt) (s : Stt) (h : Int), ss = [.d (dObj C g), .d (dStt s), .d (.int h)] ∧ OkGate g ∧ OkStt g s ∧ ¬ (0 ≤ h ∧ h < g.hs.length) ∧ h.natAbs ≤ 1000000000 ∧ Φ (.bl true)
theorem pss_if {X : Cx} {st : List Stmt} {t : TS} {c : Prop} (h : c → PSs X st t) : PSs X st (fun D σ H => c ∧ t D σ H) := ⟨fun pins s σ H D I q => (h q.1).run pins s σ H D I q.2⟩
theorem ext_none {δ : Option Addr} {H H' : Hp} (h : Ext none H H') : Ext δ H H' := ⟨fun b o e _ => h.1 b o e (fun z => nomatch z), fun a _ ⟨ns, q, l⟩ => ⟨ns, h.1 a _ q (fun z => nomatch z), l⟩⟩
theorem takes0N {X : Cx} : L2N.Takes X (fun _ _ _ _ => False) := fun u s' x => by
  obtain ⟨_, _, _, _, _, _, _, _, _, _, _, _, _, _, _, _, z⟩ := x
  exact z.elim
theorem paired3 {δ : Option Addr} {M : List Addr} {H : Hp} {vs : List V} {a b c : S} (h : Paired (RepS δ M H) vs [a, b, c]) : ∃ u v w, vs = [u, v, w] := by
  cases h with
  | cons _ h => cases h with
    | cons _ h => cases h with
      | cons _ h => cases h; exact ⟨_, _, _, rfl⟩
end Gh

/-! Comprehensions of two clauses. -/
namespace Dl
open PySem L2 PyProof.Rows
variable [KOf]
/-! ### the block's state while the new object changes -/
/-- all as it was, but the dice and p -/
def ButP (δ : Option Addr) (p : Addr) (H H' : Hp) : Prop := (∀ b o, H b = some o → b ≠ p → δ ≠ some b → H' b = some o) ∧ H' p ≠ none ∧ ∀ a, δ = some a → DiceAt H a → DiceAt H' a
theorem ButP.kept {δ : Option Addr} {M : List Addr} {p : Addr} {H H' : Hp} (e : ButP δ p H H') : Kept (Bn δ (p :: M)) H H' := fun b o h n => e.1 b o h (fun z => n (.inr (by rw [z]; exact List.mem_cons_self))) fun z => n (.inl z)
theorem ButP.ext {δ : Option Addr} {p : Addr} {H H1 H2 : Hp} (e : ButP δ p H H1) (n : δ ≠ some p) (f : Ext δ H1 H2) : ButP δ p H H2 := by
  refine ⟨fun b o h hb hd => f.1 b o (e.1 b o h hb hd) hd, fun z => ?_, fun a ha h => f.2 a ha (e.2.2 a ha h)⟩
  cases q : H1 p with
  | none => exact e.2.1 q
  | some o => rw [f.1 p o q n] at z; cases z
theorem ButP.put {δ : Option Addr} {p : Addr} {H H1 : Hp} {o : HO} (e : ButP δ p H H1) (n : δ ≠ some p) : ButP δ p H (upd H1 p o) := by
  refine ⟨fun b u h hb hd => by rw [upd_ne hb]; exact e.1 b u h hb hd, fun z => ?_, fun a ha h => ?_⟩
  · rw [upd_same] at z; cases z
  · obtain ⟨ns, q, l⟩ := e.2.2 a ha h
    exact ⟨ns, by rw [upd_ne (fun z => n (by rw [← z]; exact ha))]; exact q, l⟩
theorem ButP.refl {δ : Option Addr} {p : Addr} {H : Hp} (h : H p ≠ none) : ButP δ p H H := ⟨fun _ _ h _ _ => h, h, fun _ _ h => h⟩
section
variable {δ : Option Addr} {M : List Addr} {H H1 H' : Hp} {E : XK} {σ σ2 : L2.St} {c : Ct} {l l2 : Sl} {vs : List Nat} {p : Addr}
/-- the inner block's state once more, the new object changed -/
theorem RE.again (R : RE δ M H E σ ⟨c, l⟩) (hp : H p = none) (e : Ext δ H H') (R1 : RE δ (p :: M) H1 E0 σ2 ⟨⟨fun _ => False, c.lk⟩, l2⟩) (nn : NoNew l l2) (b : ButP δ p H1 H') :
    RE δ (p :: M) H' E0 σ2 ⟨⟨fun _ => False, c.lk⟩, l2⟩ := by
  have kp : Kept (Bn δ (p :: M)) H1 H' := b.kept
  have ne : ∀ {i : Nat} {q : Addr} {s : S}, l2[i]? = some (some s) → s.adr = some q → q ≠ p := fun {i q s} z y w => R.adr_free hp (nn i q s z y) (by rw [← w]; exact y)
  refine ⟨R1.len, fun i s q => ?_, R1.one, fun d hd => ?_, fun a ha => b.2.2 a ha (R1.okd a ha), ?_⟩
  · obtain ⟨v, g1, g2⟩ := R1.rep i s q
    refine ⟨v, g1, ?_⟩
    cases g2 with
    | d r => exact .d (r.keep kp)
    | obj m n r => exact .obj m n (r.keep kp fun o h => b.1 _ _ h (ne q rfl) n)
    | gh m n r => exact .gh m n (r.keep kp fun o h => b.1 _ _ h (ne q rfl) n)
    | dice h z => exact .dice h (b.2.2 _ h z)
  · by_cases hdp : d = p
    · rw [hdp]
      cases q : H' p with
      | none => exact absurd q b.2.1
      | some o => exact ⟨o, rfl⟩
    · obtain ⟨o, ho⟩ := R1.okM d hd
      by_cases hdd : δ = some d
      · obtain ⟨ns, q, _⟩ := b.2.2 d hdd (R1.okd d hdd)
        exact ⟨_, q⟩
      · exact ⟨o, b.1 d o ho hdp hdd⟩
  · obtain ⟨He, Me, a, mm, bb, q⟩ := R.en
    exact ⟨He, [], a.trans e, fun _ z => (nomatch z), fun j q s z y => bb j q s (nn j q s z y) y, fun _ _ _ _ _ _ z => z.elim⟩
/-- .. the inner names forgotten -/
theorem RE.wiped (R : RE δ M H E σ ⟨c, l⟩) : RE δ M H E (wipe σ vs) ⟨c, wipeS l vs⟩ := by
  refine ⟨?_, fun j s q => ?_, fun j j' p s t z z' => R.one j j' p s t (wipeS_some z).1 (wipeS_some z').1, R.okM, R.okd, ?_⟩
  · show (wipe σ vs).length ≤ (wipeS l vs).length
    rw [wipeS_len, wipe_length]
    exact R.len
  · obtain ⟨a, b⟩ := wipeS_some q
    obtain ⟨v, g1, g2⟩ := R.rep j s a
    exact ⟨v, fun y => by rw [wipe_get b]; exact g1 y, g2⟩
  · obtain ⟨He, Me, a, mm, b, q⟩ := R.en
    exact ⟨He, Me, a, mm, fun j p s z => b j p s (wipeS_some z).1, q⟩
theorem noNew_wipe : NoNew l (wipeS l vs) := fun _ _ _ z _ => (wipeS_some z).1
theorem Ext.butP {H2 : Hp} (e : Ext δ H H1) (hp : H p = none) (b : ButP δ p H1 H2) : Ext δ H H2 :=
  ⟨fun x o h n => b.1 x o (e.1 x o h n) (fun z => by rw [z, hp] at h; cases h) n, fun a ha h => b.2.2 a ha (e.2 a ha h)⟩
theorem full_bn {ρ : Env} (R : RE δ M H E σ ρ) : ∀ b, Bn δ M b → H b ≠ none := fun b z => by
  rcases z with z | z
  · obtain ⟨ns, q, _⟩ := R.okd b z
    rw [q]; exact fun y => nomatch y
  · obtain ⟨o, q⟩ := R.okM b z
    rw [q]; exact fun y => nomatch y
end
/-! ### a list -/
def wLc2 (wi : WI) (g : WG) (wt : WT) (wi1 : WI) (g1 : WG) (wt1 : WT) (we : WE) (vs vs1 : List Nat) : Env → (List D → Prop) → Prop := fun ρ Φ => wi ρ fun xs => ∃ I : Nat → List D → Prop, I 0 [] ∧
  (∀ i x acc, xs[i]? = some x → I i acc → g x (wipeS ρ.sl vs) fun l2 => wt ⟨⟨fun _ => False, ρ.c.lk⟩, l2⟩ fun b => if b = true then wi1 ⟨⟨fun _ => False, ρ.c.lk⟩, l2⟩ fun ys => ∃ J : Nat → List D → Prop, J 0 acc ∧
    (∀ j y acc, ys[j]? = some y → J j acc → g1 y (wipeS l2 vs1) fun l3 => wt1 ⟨⟨fun _ => False, ρ.c.lk⟩, l3⟩ fun b => if b = true then we ⟨⟨fun _ => False, ρ.c.lk⟩, l3⟩ fun d => acc.length < 100000 ∧ J (j + 1) (acc ++ [d]) else J (j + 1) acc) ∧
    ∀ acc, J ys.length acc → I (i + 1) acc else I (i + 1) acc) ∧ ∀ acc, I xs.length acc → Φ acc
section
variable {E : XK} {ti ti1 : TI} {wi wi1 : WI} {g g1 : TG} {wg wg1 : WG} {tt tt1 : TT} {wt wt1 : WT} {te tk tv : TE} {we wk wv : WE} {vs vs1 : List Nat}
theorem abs_lc2 (hi : AbsI E ti wi) (hg : AbsG vs g wg) (ht : AbsT E0 tt wt) (hi1 : AbsI E0 ti1 wi1) (hg1 : AbsG vs1 g1 wg1) (ht1 : AbsT E0 tt1 wt1) (he : AbsE E0 te we) : AbsF E (tLc2 ti g tt ti1 g1 tt1 te vs vs1) (wLc2 wi wg wt wi1 wg1 wt1 we vs vs1) := fun δ M σ H ρ R Φ Q h k => by
  obtain ⟨c, l⟩ := ρ
  refine hi δ M σ H ⟨c, l⟩ R _ _ h fun A H1 xs e1 io h1 p hp => ?_
  obtain ⟨I, I0, Is, Ie⟩ := h1
  have hpH : H p = none := e1.free R.okd hp
  have nd : δ ≠ some p := fun z => by
    obtain ⟨ns, q, _⟩ := R.okd p z
    rw [hpH] at q; cases q
  have hB : ∀ b, Bn δ (p :: M) b → Bn δ M b ∨ H1 b = none := bn_cons hp
  refine ⟨fun i m H' => m = xs.length - i ∧ i ≤ xs.length ∧ ∃ acc us, H' p = some (.lst us) ∧ RepL (Bn δ (p :: M)) H' us acc ∧ I i acc ∧ Ext δ H1 H', ⟨xs.length, by simp, Nat.zero_le _, [], [], upd_same, .nil, I0, Ext.new hp⟩, ?_⟩
  rintro i m H' ⟨rfl, hle, acc, us, hu, rl, hI, ex⟩
  by_cases hlt : i < xs.length
  · refine .inr ⟨io.go _ hB H' i ex.kept hlt, fun H2 => ∃ acc us, H2 p = some (.lst us) ∧ RepL (Bn δ (p :: M)) H2 us acc ∧ I (i + 1) acc ∧ Ext δ H1 H2, fun H2 q => ⟨xs.length - (i + 1), by omega, rfl, hlt, q⟩, fun v H2 y => ?_⟩
    have RB : RE δ (p :: M) H' E0 (wipe σ vs) ⟨⟨fun _ => False, c.lk⟩, wipeS l vs⟩ := R.block hpH (e1.trans ex) hu
    obtain ⟨k2, r2⟩ := io.yld _ hB H' i xs[i] v H2 ex.kept (full_bn RB) (List.getElem?_eq_getElem hlt) y
    have e2 : Ext δ H' H2 := k2.ext0
    refine hg E0 δ (p :: M) (wipe σ vs) H2 _ _ v _ (RB.ext e2) r2 _ _ (Is i _ acc (List.getElem?_eq_getElem hlt) hI) fun σ3 l3 R3 o3 n3 h3 => ?_
    refine ⟨(wipe_off o3).trans (wipe_off (off_wipe (vs := vs) (a := σ))), ?_⟩
    refine ht δ (p :: M) σ3 H2 _ R3 _ _ h3 fun b H3 e3 h3' => ?_
    have e23 := e2.trans e3
    cases b with
    | false => exact ⟨acc, us, e23.1 _ _ hu nd, rl.keep e23.kept, h3', ex.trans e23⟩
    | true =>
      simp only [if_true] at h3' ⊢
      refine hi1 δ (p :: M) σ3 H3 _ (R3.ext e3) _ _ h3' fun A1 H4 ys e4 io1 h4 => ?_
      obtain ⟨J, J0, Js, Je⟩ := h4
      have e24 := e23.trans e4
      have hu4 := e24.1 _ _ hu nd
      have R4 := (R3.ext e3).ext e4
      have lnn : NoNew l l3 := noNew_wipe.trans n3
      have eH4 : Ext δ H H4 := (e1.trans ex).trans e24
      have hB1 : ∀ b, Bn δ (p :: M) b → Bn δ (p :: M) b ∨ H4 b = none := fun b z => .inl z
      refine ⟨fun j m G => m = ys.length - j ∧ j ≤ ys.length ∧ ∃ acc us, G p = some (.lst us) ∧ RepL (Bn δ (p :: M)) G us acc ∧ J j acc ∧ ButP δ p H4 G,
        ⟨ys.length, by simp, Nat.zero_le _, acc, us, hu4, rl.keep e24.kept, J0, ButP.refl (by rw [hu4]; exact fun z => nomatch z)⟩, ?_⟩
      rintro j m G ⟨rfl, hjl, acc', us', hu', rl', hJ, bp⟩
      by_cases hj : j < ys.length
      · refine .inr ⟨io1.go _ hB1 G j bp.kept hj, fun G2 => ∃ acc us, G2 p = some (.lst us) ∧ RepL (Bn δ (p :: M)) G2 us acc ∧ J (j + 1) acc ∧ ButP δ p H4 G2, fun G2 q => ⟨ys.length - (j + 1), by omega, rfl, hj, q⟩, fun v1 G2 y1 => ?_⟩
        have RG : RE δ (p :: M) G E0 σ3 ⟨⟨fun _ => False, c.lk⟩, l3⟩ := R.again hpH (eH4.butP hpH bp) R4 lnn bp
        obtain ⟨k5, r5⟩ := io1.yld _ hB1 G j ys[j] v1 G2 bp.kept (full_bn RG) (List.getElem?_eq_getElem hj) y1
        have e5 : Ext δ G G2 := k5.ext0
        refine hg1 E0 δ (p :: M) (wipe σ3 vs1) G2 _ _ v1 _ (RG.wiped.ext e5) r5 _ _ (Js j _ acc' (List.getElem?_eq_getElem hj) hJ) fun σ6 l6 R6 o6 n6 h6 => ?_
        refine ⟨(wipe_off o6).trans (wipe_off (off_wipe (vs := vs1) (a := σ3))), ?_⟩
        refine ht1 δ (p :: M) σ6 G2 _ R6 _ _ h6 fun b1 G3 e6 h6' => ?_
        have e56 := e5.trans e6
        cases b1 with
        | false => exact ⟨acc', us', e56.1 _ _ hu' nd, rl'.keep e56.kept, h6', bp.ext nd e56⟩
        | true =>
          simp only [if_true] at h6' ⊢
          refine he δ (p :: M) σ6 G3 _ (R6.ext e6) _ _ h6' fun z G4 d e7 r7 h7 => ?_
          have e57 := e56.trans e7
          have hu7 := e57.1 _ _ hu' nd
          have kput : Kept (Bn δ (p :: M)) G4 (upd G4 p (.lst (us' ++ [z]))) := Kept.put (.inr List.mem_cons_self)
          exact ⟨us', hu7, by rw [rl'.length]; exact sz_lt h7.1, acc' ++ [d], us' ++ [z], upd_same, ((rl'.keep e57.kept).app (.cons r7 .nil)).keep kput, h7.2, (bp.ext nd e57).put nd⟩
      · have ej : j = ys.length := by omega
        subst ej
        exact .inl ⟨io1.stop _ hB1 G _ bp.kept (Nat.le_refl _), acc', us', hu', rl', Je acc' hJ, (ex.trans e24).butP hp bp⟩
  · have ei : i = xs.length := by omega
    subst ei
    exact .inl ⟨io.stop _ hB H' _ ex.kept (Nat.le_refl _), k p us H' acc hpH (e1.trans ex) hu rl (Ie acc hI)⟩
section
variable {X : Cx} {elt tg iter tg1 iter1 : Expr} {ifs ifs1 : List Expr} {scope : Scope} {own : List (Str × Nat)} {pos : Pos}
/-- a thing said of the block's expressions -/
abbrev Blk (X : Cx) (scope : Scope) (P : Cx → Prop) : Prop := ∀ (s : Shared) (H : Hp) (C : Addr) (cl : List (Str × Addr)) (fp : List Addr), P (X.blk s H scope (compEnvC scope cl C X.env) fp)
theorem df_lc2 (hc : X.calm = true) (hN : X.N.Nodup) (hi : DI X E tg iter ti wi) (ok : BlkOk X.N X.env.scope scope own) (hv : ∀ i ∈ vs1, i ∈ own.map (·.2))
    (hg : Blk X scope fun Y => DG Y (own.map (·.2)) tg g wg) (ht : Blk X scope fun Y => DTs Y E0 ifs tt wt) (hi1 : Blk X scope fun Y => DI Y E0 tg1 iter1 ti1 wi1) (hg1 : Blk X scope fun Y => DG Y vs1 tg1 g1 wg1)
    (ht1 : Blk X scope fun Y => DTs Y E0 ifs1 tt1 wt1) (he : Blk X scope fun Y => DE Y E0 elt te we)
    (hs : ∀ x, foldedSetIterable iter X.env x = pure x := by intro _; rfl) (hs1 : ∀ env x, foldedSetIterable iter1 env x = pure x := by intro _ _; rfl) :
    DF X E (.ListComp elt [⟨tg, iter, ifs, 0⟩, ⟨tg1, iter1, ifs1, 0⟩] scope pos) (tLc2 ti g tt ti1 g1 tt1 te (own.map (·.2)) vs1) (wLc2 wi wg wt wi1 wg1 wt1 we (own.map (·.2)) vs1) :=
  ⟨pe_lc2 hc hN hi.p ok hv (fun s H C cl fp => (hg s H C cl fp).p) (fun s H C cl fp => (ht s H C cl fp).p) (fun s H C cl fp => (hi1 s H C cl fp).p) (fun s H C cl fp => (hg1 s H C cl fp).p) (fun s H C cl fp => (ht1 s H C cl fp).p) (fun s H C cl fp => (he s H C cl fp).p) hs hs1,
    abs_lc2 hi.a (hg X.s_0 X.H_0 X.env.locals [] []).a (ht X.s_0 X.H_0 X.env.locals [] []).a (hi1 X.s_0 X.H_0 X.env.locals [] []).a (hg1 X.s_0 X.H_0 X.env.locals [] []).a (ht1 X.s_0 X.H_0 X.env.locals [] []).a (he X.s_0 X.H_0 X.env.locals [] []).a⟩
/-- y = [..] -/
theorem ds_setLc2 {i : Nat} {y : Str} {py spos : Pos} (hy : X.N[i]? = some y) (hyl : X.env.scope.names.lookup y = some .local) (hsw : swapsWith (.ListComp elt [⟨tg, iter, ifs, 0⟩, ⟨tg1, iter1, ifs1, 0⟩] scope pos) (some (.Name y py)) spos.line X.env = pure true)
    (hc : X.calm = true) (hN : X.N.Nodup) (hi : DI X E tg iter ti wi) (ok : BlkOk X.N X.env.scope scope own) (hv : ∀ i ∈ vs1, i ∈ own.map (·.2))
    (hg : Blk X scope fun Y => DG Y (own.map (·.2)) tg g wg) (ht : Blk X scope fun Y => DTs Y E0 ifs tt wt) (hi1 : Blk X scope fun Y => DI Y E0 tg1 iter1 ti1 wi1) (hg1 : Blk X scope fun Y => DG Y vs1 tg1 g1 wg1)
    (ht1 : Blk X scope fun Y => DTs Y E0 ifs1 tt1 wt1) (he : Blk X scope fun Y => DE Y E0 elt te we)
    (hs : ∀ x, foldedSetIterable iter X.env x = pure x := by intro _; rfl) (hs1 : ∀ env x, foldedSetIterable iter1 env x = pure x := by intro _ _; rfl) :
    DS X E (.Assign [.Name y py] (.ListComp elt [⟨tg, iter, ifs, 0⟩, ⟨tg1, iter1, ifs1, 0⟩] scope pos) spos) (tLen X.N.length (tAsg (tLc2 ti g tt ti1 g1 tt1 te (own.map (·.2)) vs1) (gName i))) (wAsg (wNew (wLc2 wi wg wt wi1 wg1 wt1 we (own.map (·.2)) vs1)) (wgName i)) :=
  ⟨ps_len (ps_setLc2 hc hN hy hyl hsw hi.p ok hv (fun s H C cl fp => (hg s H C cl fp).p) (fun s H C cl fp => (ht s H C cl fp).p) (fun s H C cl fp => (hi1 s H C cl fp).p) (fun s H C cl fp => (hg1 s H C cl fp).p) (fun s H C cl fp => (ht1 s H C cl fp).p) (fun s H C cl fp => (he s H C cl fp).p) hs hs1),
    abs_nm <| abs_asg (fun δ M σ H ρ R Φ Q h k => abs_lc2 hi.a (hg X.s_0 X.H_0 X.env.locals [] []).a (ht X.s_0 X.H_0 X.env.locals [] []).a (hi1 X.s_0 X.H_0 X.env.locals [] []).a (hg1 X.s_0 X.H_0 X.env.locals [] []).a (ht1 X.s_0 X.H_0 X.env.locals [] []).a (he X.s_0 X.H_0 X.env.locals [] []).a δ M σ H ρ R _ _ h fun q vs H1 ds f e1 hq rl h1 => k _ H1 _ e1 (.lst (R.fresh f) hq (rl.less bn_tail)) h1) (ag_name (ix := [i]) (lt_of_at hy) (by simp))⟩
end
end
end Dl

/-! {k: v for .. in .. for .. in ..}, the keys nested tuples. -/
namespace Dl
open PySem PySem.Spec L2 PyProof.Rows
variable [KOf]
abbrev dc2 (kx vx t0 i0 t1 i1 : Expr) (sc : Scope) (ps : Pos) : Expr := .DictComp kx vx [⟨t0, i0, [], 0⟩, ⟨t1, i1, [], 0⟩] sc ps
section
variable {P : Program} {w : World} {A : Around} {R : Result → Shared → Prop} {s : Shared} {kx vx t0 i0 t1 i1 : Expr} {sc : Scope} {ps : Pos} {src new : Value} {D : Addr} {ev : PySem.Env}
theorem dturn0 : compTurn (dc2 kx vx t0 i0 t1 i1 sc ps) 0 src new ev = (do
    standAt i0.pos
    match ← pyNext src with
    | none => pure (.done .next)
    | some got =>
      letOwnedTupleGo t0 src got
      assign t0 ev got
      let row ← eval i1 ev
      standAt i1.pos
      let row ← foldedSetIterable i1 ev row
      let _ ← runOwn (.compStart (dc2 kx vx t0 i0 t1 i1 sc ps) 1 (← holding [row] (pyIter row)) new ev) ev
      again (.compLoop (dc2 kx vx t0 i0 t1 i1 sc ps) 0 src new ev)) := by rfl
theorem dturn1 : compTurn (dc2 kx vx t0 i0 t1 i1 sc ps) 1 src (.ref D) ev = (do
    standAt i1.pos
    match ← pyNext src with
    | none => pure (.done .next)
    | some got =>
      letOwnedTupleGo t1 src got
      assign t1 ev got
      (do
        let key ← eval kx ev
        let val ← holding [key] (eval vx ev)
        standAt { kx.pos with endLine := vx.pos.endLine, endCol := vx.pos.endCol }
        holding [key, val] (dictSet D key val))
      again (.compLoop (dc2 kx vx t0 i0 t1 i1 sc ps) 1 src (.ref D) ev)) := by rfl
/-- what leaves the block's tree -/
abbrev Lv2 (P : Program) (w : World) (A : Around) (ev : PySem.Env) (R : Result → Shared → Prop) : Value → Shared → Prop := notedBy (model P w) A ev fun e s' => R (.error e) s'
theorem dloop0 (hs : ∀ x, foldedSetIterable i1 ev x = pure x) (J : Nat → Shared → Prop)
    (turn : ∀ n s, J n s → wpAny (model P w) A (pyNext src) (fun r s1 => match r with
      | none => R (.ok .next) s1
      | some got => wpAny (model P w) A (letOwnedTupleGo t0 src got) (fun _ s2 => wpAny (model P w) A (assign t0 ev got) (fun _ s3 => wpAny (model P w) A (eval i1 ev) (fun row s4 => wpAny (model P w) A (pyIter row) (fun it s5 =>
          codeAny (model P w) A (.compStart (dc2 kx vx t0 i0 t1 i1 sc ps) 1 it new ev) (fun r s6 => match r with
            | .ok _ => ∃ m, m < n ∧ J m s6
            | .error _ => False) s5) (Lv2 P w A ev R) s4) (Lv2 P w A ev R) s3) (Lv2 P w A ev R) s2) (Lv2 P w A ev R) s1) (Lv2 P w A ev R) s)
    (n : Nat) (h : J n s) : codeAny (model P w) A (.compLoop (dc2 kx vx t0 i0 t1 i1 sc ps) 0 src new ev) R s := by
  refine codeAny_loop rfl J (fun n s hJ => ?_) n h
  show wpAny _ A ((compTurn (dc2 kx vx t0 i0 t1 i1 sc ps) 0 src new ev).onRaise (fun x => do noteFrame x ev; theTreesLotGoes x)) _ _ s
  refine wpAny_noted ?_
  rw [dturn0]
  refine wpAny_bind (wpAny_standAt (wpAny_bind (wpAny_mono (turn n s hJ) (fun r s1 g1 => ?_) fun _ _ z => z)))
  cases r with
  | none => exact wpAny_pure g1
  | some got =>
    refine wpAny_bind (wpAny_mono g1 (fun _ s2 g2 => wpAny_bind (wpAny_mono g2 (fun _ s3 g3 => ?_) fun _ _ z => z)) fun _ _ z => z)
    refine wpAny_bind (wpAny_mono g3 (fun row s4 g4 => ?_) fun _ _ z => z)
    refine wpAny_bind (wpAny_standAt (wpAny_bind (wpAny_of_eq (hs row) (wpAny_bind (wpAny_holding (wpAny_mono g4 (fun it s5 g5 => ?_) fun _ _ z => z))))))
    refine wpAny_bind (wpAny_runOwn ?_)
    rw [Around.mark_none]
    refine codeAny_mono g5 fun r s6 g6 => ?_
    cases r with
    | ok f => exact wpAny_pure ⟨rfl, g6⟩
    | error e => exact g6.elim
theorem dloop1 (J : Nat → Shared → Prop)
    (turn : ∀ n s, J n s → wpAny (model P w) A (pyNext src) (fun r s1 => match r with
      | none => R (.ok .next) s1
      | some got => wpAny (model P w) A (letOwnedTupleGo t1 src got) (fun _ s2 => wpAny (model P w) A (assign t1 ev got) (fun _ s3 => wpAny (model P w) A (eval kx ev) (fun key s4 => wpAny (model P w) A (eval vx ev) (fun val s5 =>
          wpAny (model P w) A (dictSet D key val) (fun _ s6 => ∃ m, m < n ∧ J m s6) (Lv2 P w A ev R) s5) (Lv2 P w A ev R) s4) (Lv2 P w A ev R) s3) (Lv2 P w A ev R) s2) (Lv2 P w A ev R) s1) (Lv2 P w A ev R) s)
    (n : Nat) (h : J n s) : codeAny (model P w) A (.compLoop (dc2 kx vx t0 i0 t1 i1 sc ps) 1 src (.ref D) ev) R s := by
  refine codeAny_loop rfl J (fun n s hJ => ?_) n h
  show wpAny _ A ((compTurn (dc2 kx vx t0 i0 t1 i1 sc ps) 1 src (.ref D) ev).onRaise (fun x => do noteFrame x ev; theTreesLotGoes x)) _ _ s
  refine wpAny_noted ?_
  rw [dturn1]
  refine wpAny_bind (wpAny_standAt (wpAny_bind (wpAny_mono (turn n s hJ) (fun r s1 g1 => ?_) fun _ _ z => z)))
  cases r with
  | none => exact wpAny_pure g1
  | some got =>
    refine wpAny_bind (wpAny_mono g1 (fun _ s2 g2 => wpAny_bind (wpAny_mono g2 (fun _ s3 g3 => ?_) fun _ _ z => z)) fun _ _ z => z)
    refine wpAny_bind (wpAny_bind (wpAny_mono g3 (fun key s4 g4 => wpAny_bind (wpAny_holding (wpAny_mono g4 (fun val s5 g5 => wpAny_bind (wpAny_standAt (wpAny_holding (wpAny_mono g5 (fun _ s6 g6 => wpAny_pure ⟨rfl, g6⟩) fun _ _ z => z)))) fun _ _ z => z))) fun _ _ z => z))
/-- the second clause begins -/
theorem dstart1 (h0 : codeAny (model P w) A (.compLoop (dc2 kx vx t0 i0 t1 i1 sc ps) 1 src new ev) R s)
    (h : wpAny (model P w) A (pyIter src) (fun it s' => codeAny (model P w) A (.compLoop (dc2 kx vx t0 i0 t1 i1 sc ps) 1 it new ev) R s') (Lv2 P w A ev R) s) :
    codeAny (model P w) A (.compStart (dc2 kx vx t0 i0 t1 i1 sc ps) 1 src new ev) R s := by
  refine codeAny_of_tree ?_
  show wpAny _ A ((compStart (dc2 kx vx t0 i0 t1 i1 sc ps) 1 src new ev).onRaise (fun x => do noteFrame x ev; standAt theWindowsPlace)) _ _ s
  refine wpAny_notedAt ?_
  unfold compStart
  show wpAny _ A (ask >>= _) _ _ s
  refine wpAny_bind (wpAny_askSetting (wpAny_ite ?_))
  split
  · first
      | exact wpAny_pure ⟨rfl, h0⟩
      | exact wpAny_bind (wpAny_pure (wpAny_pure ⟨rfl, h0⟩))
  · refine wpAny_bind (wpAny_rule ?_)
    show wpAny _ _ (standAt i1.pos >>= _) _ _ s
    exact wpAny_bind (wpAny_standAt (wpAny_bind (wpAny_mono h (fun it s' g => wpAny_pure ⟨rfl, g⟩) fun _ _ z => z)))
end
section
variable {X : Cx}
def tDc2 (wi : TI) (g : TG) (wi1 : TI) (g1 : TG) (tk tv : TE) (vs vs1 : List Nat) : TE := fun σ H Q => wi σ H fun J H1 => ∀ p, H1 p = none → (p == sysModules) = false → ∃ W : Nat → Nat → Hp → Prop, (∃ m, W 0 m (upd H1 p (dNO p []))) ∧ ∀ i m H, W i m H →
  (J.stop i H ∧ Q (.ref p) H) ∨ (J.go i H ∧ ∃ Nx : Hp → Prop, (∀ H', Nx H' → ∃ m', m' < m ∧ W (i + 1) m' H') ∧ ∀ x H', J.yld i H x H' → g x (wipe σ vs) H' fun σ2 H2 => wipe σ2 vs = wipe σ vs ∧
    wi1 σ2 H2 fun J1 H4 => ∃ V : Nat → Nat → Hp → Prop, (∃ m, V 0 m H4) ∧ ∀ j k H, V j k H →
      (J1.stop j H ∧ Nx H) ∨ (J1.go j H ∧ ∃ Ny : Hp → Prop, (∀ H', Ny H' → ∃ k', k' < k ∧ V (j + 1) k' H') ∧ ∀ x H', J1.yld j H x H' → g1 x (wipe σ2 vs1) H' fun σ3 H5 => wipe σ3 vs1 = wipe σ2 vs1 ∧
        tk σ3 H5 fun y H6 => tv σ3 H6 fun z H7 => ∃ es k b, NDct KOf.K H7 p es ∧ NAt KOf.K H7 y k b ∧ ∀ r, RelV z r → Ny (upd H7 p (dNO p (storedH es k b r)))))
/-- d[y] = z by a comprehension -/
theorem n_dictSet {Y : Cx} {pins : List (Addr × Obj)} {σ : L2.St} {H : Hp} {s : Shared} {E : Value → Shared → Prop} {a : Addr} {xs : List (NestedKey × Addr × Value)} {y : V} {k : NestedKey} {b : Addr} {u r : Value} {Q : Unit → Shared → Prop}
    (hP : Y.prog = KOf.Pr) (hw : Y.w = KOf.w) (hu : Y.A.units + 64 < cLine) (I : Inv Y pins σ H s) (d : NDct Y.K H a xs) (n : NAt Y.K H y k b) (ry : RelV y u)
    (h : ∀ s', Inv Y pins σ (upd H a (dNO a (storedH xs k b r))) s' → Q () s') : wpAny (model Y.prog Y.w) Y.A (dictSet a u r) Q E s := by
  obtain ⟨rfl, hk⟩ := n.is I ry
  refine wpAny_dictSet_heap (hsz := d.sz) (show Y.A.units + 8 < cLine by omega) hk (d.of I hP hw) fun h' dd' hs => h _ ?_
  have he : ∃ q, h'.get? a = some q := let ⟨q, _, _, hq, _⟩ := dd'; ⟨q, hq⟩
  exact d_write I (by rw [d.at']; exact True.intro) hs he (dNO_ok hP hw dd')

theorem dc2_core {pins : List (Addr × Obj)} {s : Shared} {σ : L2.St} {H : Hp} {Q : VK} {kx vx tg iter tg1 iter1 : Expr} {scope : Scope} {own : List (Str × Nat)} {vs1 : List Nat} {pos pos' : Pos} {wi wi1 : TI} {g g1 : TG} {tk tv : TE} {use : Option (Value → Sem Unit)} {Qf : Value → Shared → Prop}
    (hP : X.prog = KOf.Pr) (hw : X.w = KOf.w) (hK : X.K = KOf.K) (hu : X.A.units + 64 < cLine) (hc : X.calm = true) (hN : X.N.Nodup) (I : Inv X pins σ H s) (hi : PI X tg iter wi) (ok : BlkOk X.N X.env.scope scope own) (hv : ∀ i ∈ vs1, i ∈ own.map (·.2))
    (hg : Blk X scope fun Y => PG Y tg g) (hi1 : Blk X scope fun Y => PI Y tg1 iter1 wi1) (hg1 : Blk X scope fun Y => PG Y tg1 g1) (hk : Blk X scope fun Y => PE Y kx tk) (he : Blk X scope fun Y => PE Y vx tv)
    (hs : ∀ x, foldedSetIterable iter X.env x = pure x) (hs1 : ∀ env x, foldedSetIterable iter1 env x = pure x)
    (h : tDc2 wi g wi1 g1 tk tv (own.map (·.2)) vs1 σ H Q)
    (hRR : ∀ D C s' m H', Inv X pins σ H' s' → Q (.ref D) H' → s'.heap.Ns C m → FpOk X pins H' C → compPost (model X.prog X.w) X.A X.xe use Qf (.ref D) C (.ok .next) s') :
    wpAny (model X.prog X.w) X.A (comprehension (dc2 kx vx tg iter tg1 iter1 scope pos) scope X.env pos' newDict false (eval iter X.env) use) Qf X.xe s := by
  have free : ∀ y ∈ scope.names, y.2 = .free → ∃ c, X.env.cells.lookup y.1 = some c := fun y hy e => (ok.free y hy e).elim (fun k => I.ok.has _ (.inl k)) fun k => I.ok.has _ (.inr k)
  refine wpAny_comprehension_free (use := use) rfl hs (closure_ok free) ok.kind (fun y hy e => by rw [ok.uniq y hy, e]) (thn (hi.run pins s σ H _ I h) fun xv s1 hx => thn hx fun itv s2 h2 => ?_)
  obtain ⟨it, fp, tn, J, H2, e, I2, T, st2, f2, q⟩ := h2
  subst e
  refine wpAny_newObj_type (newEnv_comp ?_)
  have big : s2.heap.objs.size ≠ sysModules := Ne.symm (Nat.ne_of_lt I2.big)
  have dn0 := dNO_ok (H' := upd H2 s2.heap.objs.size (dNO s2.heap.objs.size [])) hP hw (Heap.DictOfH.new (knd := nestedKind X.prog X.w) s2.heap)
  generalize hD : s2.heap.objs.size = D at dn0 big
  have hDn : H2 D = none := I2.hok.fresh (Nat.le_of_eq hD)
  obtain ⟨W, ⟨m0, w0⟩, turn⟩ := q D hDn (beq_eq_false_iff_ne.mpr big)
  generalize hs3 : ({ s2 with heap := s2.heap.push { cls := .type "dict", data := .dict #[] } } : Shared) = s3
  have I3 : Inv X pins σ (upd H2 D (dNO D [])) s3 := by
    rw [← hs3]
    exact I2.laid (t' := s2.toks) (fun b o e => Heap.get?_push_of_some _ e) (Nat.le_of_eq hD) dn0
  have hp3 : s3.heap = s2.heap.push { cls := .type "dict", data := .dict #[] } := by rw [← hs3]
  have low : ∀ b ∈ fp, b < s2.heap.objs.size := fun b hb => let ⟨o, e, _⟩ := T.obj _ _ st2 b hb; Heap.lt_size e
  have f3 : ∀ b ∈ fp, FpOk X pins (upd H2 D (dNO D [])) b ∧ b < s3.heap.objs.size := fun b hb => by
    have hlt := low b hb
    refine ⟨⟨?_, (f2 b hb).2⟩, by rw [hp3, Heap.size_push]; exact Nat.lt_succ_of_lt hlt⟩
    rw [upd_ne (by rw [← hD]; exact Nat.ne_of_lt hlt)]
    exact (f2 b hb).1
  have st3 : tn 0 s3.heap := T.keep _ _ _ st2 fun b _ o e => by rw [hp3]; exact Heap.get?_push_of_some _ e
  have I4 := block_start I3 ok hN f3
  generalize hH3 : upd H2 D (dNO D []) = H3 at I3 I4 w0 f3
  have pg := hg s3 H3 s3.heap.objs.size (cellsFrom (s3.heap.objs.size + 1) scope.names (cloFrom X.env.cells scope.names [])) fp
  have pk := hk s3 H3 s3.heap.objs.size (cellsFrom (s3.heap.objs.size + 1) scope.names (cloFrom X.env.cells scope.names [])) fp
  have pv := he s3 H3 s3.heap.objs.size (cellsFrom (s3.heap.objs.size + 1) scope.names (cloFrom X.env.cells scope.names [])) fp
  have pi1 := hi1 s3 H3 s3.heap.objs.size (cellsFrom (s3.heap.objs.size + 1) scope.names (cloFrom X.env.cells scope.names [])) fp
  have pg1 := hg1 s3 H3 s3.heap.objs.size (cellsFrom (s3.heap.objs.size + 1) scope.names (cloFrom X.env.cells scope.names [])) fp
  show codeAny _ _ (.compStart (dc2 kx vx tg iter tg1 iter1 scope pos) 0 (.ref it) (.ref D) (compEnvC scope (cellsFrom (s3.heap.objs.size + 1) scope.names (cloFrom X.env.cells scope.names [])) s3.heap.objs.size X.env)) (compPost (model X.prog X.w) X.A X.xe use Qf (.ref D) s3.heap.objs.size) { s3 with heap := pushCells (s3.heap.push { cls := .type "dict", data := .dict #[] }) scope.names }
  have nofp : ∀ b ∈ fp, H3 b = none := fun b hb => (f3 b hb).1.1
  generalize hce : compEnvC scope (cellsFrom (s3.heap.objs.size + 1) scope.names (cloFrom X.env.cells scope.names [])) s3.heap.objs.size X.env = ce at I4 pg pk pv pi1 pg1 ⊢
  have cL : ce.locals = s3.heap.objs.size := by subst hce; rfl
  generalize hs4 : ({ s3 with heap := pushCells (s3.heap.push { cls := .type "dict", data := .dict #[] }) scope.names } : Shared) = s4 at I4 ⊢
  have st4 : tn 0 s4.heap := T.keep _ _ _ st3 fun b _ o e => by rw [← hs4]; exact pushCells_keeps _ _ _ _ (Heap.get?_push_of_some _ e)
  let Y := X.blk s3 H3 scope ce fp
  have stat : ∀ {σ' : L2.St} {H' : Hp} {s' : Shared}, Inv Y [] σ' H' s' → (∀ b ∈ fp, H' b = none) → ∀ b ∈ fp, FpOk Y [] H' b := fun {σ' H' s'} I' hn b hb =>
    ⟨hn b hb, (I'.ok.exf b hb).1, I'.ok.exfs b hb, .inl hb, fun x c e => (I'.ok.exf b hb).2 x c e, fun p hp => absurd (show p ∈ ([] : List (Addr × Obj)) ++ [] from hp) (by simp)⟩
  have loop : codeAny (model X.prog X.w) X.A (.compLoop (dc2 kx vx tg iter tg1 iter1 scope pos) 0 (.ref it) (.ref D) ce) (compPost (model X.prog X.w) X.A X.xe use Qf (.ref D) s3.heap.objs.size) s4 := by
    refine dloop0 (hs1 ce) (fun n s' => ∃ i H', Inv Y [] (wipe σ (own.map (·.2))) H' s' ∧ tn i s'.heap ∧ (∀ b ∈ fp, H' b = none) ∧ W i n H') ?_ m0 ⟨0, H3, I4, st4, nofp, w0⟩
    rintro n s5 ⟨i, H5, I5, st5, n5, w5⟩
    rcases turn i n H5 w5 with ⟨stop, qq⟩ | ⟨go, Nx, hNx, step⟩
    · refine thnF (T.done Y rfl rfl rfl hc i [] s5 _ H5 (fun _ _ => False) I5 (stat I5 n5) st5 stop) fun r s6 ⟨hr, I6⟩ => ?_
      subst hr
      have I7 : Inv X pins σ H5 s6 := I3.call' (ch := fp) I6.os I6.base I6.hok I6.bare fun b hb => ⟨(f3 b hb).1.2.2.2.1, (f3 b hb).1.2.1, (f3 b hb).1.2.2.2.2.1, (f3 b hb).1.2.2.2.2.2⟩
      have nC : H5 s3.heap.objs.size = none := by rw [← cL]; exact I6.free
      obtain ⟨m, hn, _⟩ := I6.loc
      have hn : s6.heap.Ns ce.locals m := hn
      rw [cL] at hn
      exact hRR D s3.heap.objs.size s6 m H5 I7 qq hn (I3.fpOk (Nat.le_refl _) nC)
    · refine thnF (T.item Y rfl rfl rfl hc i [] s5 _ H5 (fun _ _ => False) I5 (stat I5 n5) st5 go) fun r s6 ⟨u, hr, h6⟩ => ?_
      subst hr
      refine thnF h6 fun _ s7 ⟨x, H7, I7, r7, y7, st7, n7⟩ => ?_
      have I7' := I7.pinned (stat I7 n7) (T.obj _ _ st7)
      refine thnF (pg.run _ s7 _ H7 x u _ I7' r7 (step x H7 y7)) fun _ s8 ⟨σ8, H8, I8, hw8, q8⟩ => ?_
      -- where a turn of the outer clause ends
      have fin : ∀ {σ9 : L2.St} {s' : Shared} {H' : Hp}, Inv Y ([] ++ pinsAt fp s7.heap) σ9 H' s' → (wipe σ (own.map (·.2))).length = σ9.length → (∀ (j : Nat) v, (wipe σ (own.map (·.2)))[j]? = some (some v) → σ9[j]? = some (some v)) → Nx H' →
          ∃ m, m < n ∧ ∃ i H', Inv Y [] (wipe σ (own.map (·.2))) H' s' ∧ tn i s'.heap ∧ (∀ b ∈ fp, H' b = none) ∧ W i m H' := fun {σ9 s' H'} I' hl hk nx => by
        obtain ⟨m', hm, w'⟩ := hNx H' nx
        have keep : ∀ b ∈ fp, ∀ o, s7.heap.get? b = some o → s'.heap.get? b = some o ∧ H' b = none := fun b hb o e =>
          let z := I'.pin (b, o) (List.mem_append_right _ (List.mem_append_right _ (mem_pinsAt hb e))); ⟨z.1, z.2.1⟩
        exact ⟨m', hm, i + 1, H', (I'.unpinned (pins := [])).weak hl hk, T.keep _ _ _ st7 fun b hb o e => (keep b hb o e).1, fun b hb => let ⟨o, e, _⟩ := T.obj _ _ st7 b hb; (keep b hb o e).2, w'⟩
      have l8 : (wipe σ (own.map (·.2))).length = σ8.length := by rw [← hw8, wipe_length]
      have k9 : ∀ (j : Nat) v, (wipe σ (own.map (·.2)))[j]? = some (some v) → (wipe σ8 vs1)[j]? = some (some v) := fun j v e => by
        rw [← hw8] at e
        obtain ⟨g1, g2⟩ := wipe_some e
        rw [wipe_get fun z => g2 (hv j z)]
        exact g1
      refine thnF (pi1.run _ s8 σ8 H8 _ I8 q8) fun xv s10 hx => thnF hx fun itv s11 h11 => ?_
      obtain ⟨it1, fp1, tn1, J1, H11, e1, I11, T1, st11, f11, V, ⟨m1, v1⟩, turn1⟩ := h11
      subst e1
      have stat1 : ∀ {H' : Hp}, (∀ b ∈ fp1, H' b = none) → ∀ b ∈ fp1, FpOk Y ([] ++ pinsAt fp s7.heap) H' b := fun hn b hb => ⟨hn b hb, (f11 b hb).2⟩
      have loop1 : codeAny (model X.prog X.w) X.A (.compLoop (dc2 kx vx tg iter tg1 iter1 scope pos) 1 (.ref it1) (.ref D) ce)
          (fun r s' => match r with
            | .ok _ => ∃ m, m < n ∧ ∃ i H', Inv Y [] (wipe σ (own.map (·.2))) H' s' ∧ tn i s'.heap ∧ (∀ b ∈ fp, H' b = none) ∧ W i m H'
            | .error _ => False) s11 := by
        refine dloop1 (fun k s' => ∃ j H', Inv Y ([] ++ pinsAt fp s7.heap) (wipe σ8 vs1) H' s' ∧ tn1 j s'.heap ∧ (∀ b ∈ fp1, H' b = none) ∧ V j k H') ?_ m1 ⟨0, H11, I11.weak (wipe_length _ _) (fun j v e => (wipe_some e).1), st11, fun b hb => (f11 b hb).1, v1⟩
        rintro k s12 ⟨j, H12, I12, st12, n12, v12⟩
        rcases turn1 j k H12 v12 with ⟨stop1, nx1⟩ | ⟨go1, Ny, hNy, step1⟩
        · refine thnF (T1.done Y rfl rfl rfl hc j _ s12 (wipe σ8 vs1) H12 (fun _ _ => False) I12 (stat1 n12) st12 stop1) fun r s13 ⟨hr, I13⟩ => ?_
          subst hr
          exact fin I13 (l8.trans (wipe_length σ8 vs1).symm) k9 nx1
        · refine thnF (T1.item Y rfl rfl rfl hc j _ s12 (wipe σ8 vs1) H12 (fun _ _ => False) I12 (stat1 n12) st12 go1) fun r s13 ⟨u1, hr, h13⟩ => ?_
          subst hr
          refine thnF h13 fun _ s14 ⟨x1, H14, I14, r14, y14, st14, n14⟩ => ?_
          have I14' := I14.pinned (stat1 n14) (T1.obj _ _ st14)
          refine thnF (pg1.run _ s14 (wipe σ8 vs1) H14 x1 u1 _ I14' r14 (step1 x1 H14 y14)) fun _ s15 ⟨σ15, H15, I15, hw15, q15⟩ => ?_
          refine thnF (pk.run _ s15 σ15 H15 _ I15 q15) fun kv s16 ⟨yk, H16, I16, r16, q16⟩ => ?_
          refine thnF (pv.run _ s16 σ15 H16 _ I16 q16) fun vv s17 ⟨yv, H17, I17, r17, es, kk, b, dd, na, nx⟩ => ?_
          refine n_dictSet (Y := Y) (k := kk) (b := b) hP hw hu I17 (hK ▸ dd) (hK ▸ na) r16 fun s18 I18 => ?_
          obtain ⟨m', hm, w'⟩ := hNy _ (nx vv r17)
          have keep : ∀ b ∈ fp1, ∀ o, s14.heap.get? b = some o → s18.heap.get? b = some o ∧ _ = none := fun b hb o e =>
            let z := I18.pin (b, o) (List.mem_append_right _ (List.mem_append_right _ (mem_pinsAt hb e))); ⟨z.1, z.2.1⟩
          exact ⟨m', hm, j + 1, _, I18.unpinned.weak (by rw [← hw15, wipe_length]) (fun j v e => by rw [← hw15] at e; exact (wipe_some e).1), T1.keep _ _ _ st14 fun b hb o e => (keep b hb o e).1, fun b hb => let ⟨o, e, _⟩ := T1.obj _ _ st14 b hb; (keep b hb o e).2, w'⟩
      exact dstart1 loop1 (T1.self X.A 0 _ _ _ st11 loop1)
  exact codeAny_compStart_dict loop (T.self X.A 0 _ _ _ st4 loop)
/-- y = {..} -/
theorem ps_setDc2 {i : Nat} {y : Str} {py : Pos} {kx vx tg iter tg1 iter1 : Expr} {scope : Scope} {own : List (Str × Nat)} {vs1 : List Nat} {pos spos : Pos} {wi wi1 : TI} {g g1 : TG} {tk tv : TE}
    (hP : X.prog = KOf.Pr) (hw : X.w = KOf.w) (hK : X.K = KOf.K) (hu : X.A.units + 64 < cLine) (hc : X.calm = true) (hN : X.N.Nodup) (hy : X.N[i]? = some y) (hyl : X.env.scope.names.lookup y = some .local)
    (hsw : swapsWith (dc2 kx vx tg iter tg1 iter1 scope pos) (some (.Name y py)) spos.line X.env = pure true) (hi : PI X tg iter wi) (ok : BlkOk X.N X.env.scope scope own) (hv : ∀ i ∈ vs1, i ∈ own.map (·.2))
    (hg : Blk X scope fun Y => PG Y tg g) (hi1 : Blk X scope fun Y => PI Y tg1 iter1 wi1) (hg1 : Blk X scope fun Y => PG Y tg1 g1) (hk : Blk X scope fun Y => PE Y kx tk) (he : Blk X scope fun Y => PE Y vx tv)
    (hs : ∀ x, foldedSetIterable iter X.env x = pure x) (hs1 : ∀ env x, foldedSetIterable iter1 env x = pure x) :
    PS X (.Assign [.Name y py] (dc2 kx vx tg iter tg1 iter1 scope pos) spos) (tAsg (tDc2 wi g wi1 g1 tk tv (own.map (·.2)) vs1) (gName i)) := by
  refine ⟨fun pins s σ H D I h => ?_⟩
  rw [exec_Assign_Name_used _ _ _ _ hsw]
  refine wpAny_bind (wpAny_standAt (wpAny_bind ?_))
  show wpAny _ X.A (do let _ ← comprehension (dc2 kx vx tg iter tg1 iter1 scope pos) scope X.env (firstIterPos [⟨tg, iter, [], 0⟩, ⟨tg1, iter1, [], 0⟩] pos) newDict false (eval iter X.env) (some (assign (.Name y py) X.env))) _ _ s
  have h : tDc2 wi g wi1 g1 tk tv (own.map (·.2)) vs1 σ H (fun x H1 => gName i x σ H1 D.nx) := h
  refine wpAny_bind (thn (dc2_core (Qf := fun _ s' => SP X pins D .next s') hP hw hK hu hc hN I hi ok hv hg hi1 hg1 hk he hs hs1 h fun L C s' m H' I' q hn f => ?_) fun _ s' hq => wpAny_pure (wpAny_pure hq))
  show wpAny _ _ (assign (.Name y py) X.env (.ref L)) _ _ _
  refine wpAny_assign_Name (store_ok2 (v := V.ref L) I' hN hy (.inl hyl) rfl (fun s2 I2 ⟨a, sb, ha⟩ => ?_) (.inr hyl))
  obtain ⟨f0, f1, f2, f3, f4, f5⟩ := f
  have haC : C ≠ a := ha.elim (fun z => by rw [z]; exact f1) fun z e => f4 y a z e.symm
  exact ⟨m, hn.sameBut sb haC, fun h3 sb3 => ⟨_, H', I2.turned (t' := s2.toks) (fun b o hb e => (sb3.2 b hb).trans e) f0 f1 f3 f4 f5, q⟩⟩
end
/-! ### over data -/
def wDc2 (wi : WI) (g : WG) (wi1 : WI) (g1 : WG) (wk wv : WE) (vs vs1 : List Nat) : Env → (OC → Prop) → Prop := fun ρ Φ => wi ρ fun xs => ∃ I : Nat → List D → List D → Prop, I 0 [] [] ∧
  (∀ i x ks zs, xs[i]? = some x → I i ks zs → g x (wipeS ρ.sl vs) fun l2 => wi1 ⟨⟨fun _ => False, ρ.c.lk⟩, l2⟩ fun ys => ∃ J : Nat → List D → List D → Prop, J 0 ks zs ∧
    (∀ j y ks zs, ys[j]? = some y → J j ks zs → g1 y (wipeS l2 vs1) fun l3 => wk ⟨⟨fun _ => False, ρ.c.lk⟩, l3⟩ fun f => wv ⟨⟨fun _ => False, ρ.c.lk⟩, l3⟩ fun z => KeyD f ∧ ks.length < 100000 ∧ (f ∉ ks → J (j + 1) (ks ++ [f]) (zs ++ [z])) ∧ ∀ n, ks[n]? = some f → J (j + 1) ks (zs.set n z)) ∧
    ∀ ks zs, J ys.length ks zs → I (i + 1) ks zs) ∧ ∀ ks zs, I xs.length ks zs → Φ (.dT ks zs)
section
variable {E : XK} {ti ti1 : TI} {wi wi1 : WI} {g g1 : TG} {wg wg1 : WG} {te tk tv : TE} {we wk wv : WE} {vs vs1 : List Nat}
theorem abs_dc2 (hi : AbsI E ti wi) (hg : AbsG vs g wg) (hi1 : AbsI E0 ti1 wi1) (hg1 : AbsG vs1 g1 wg1) (hk : AbsE E0 tk wk) (hv : AbsE E0 tv wv) : AbsO E (tDc2 ti g ti1 g1 tk tv vs vs1) (wDc2 wi wg wi1 wg1 wk wv vs vs1) := fun δ M σ H ρ R Φ Q h k => by
  obtain ⟨c, l⟩ := ρ
  refine hi δ M σ H ⟨c, l⟩ R _ _ h fun A H1 xs e1 io h1 p hp hsm => ?_
  obtain ⟨I, I0, Is, Ie⟩ := h1
  have hpH : H p = none := e1.free R.okd hp
  have nd : δ ≠ some p := fun z => by
    obtain ⟨ns, q, _⟩ := R.okd p z
    rw [hpH] at q; cases q
  have hB : ∀ b, Bn δ (p :: M) b → Bn δ M b ∨ H1 b = none := bn_cons hp
  refine ⟨fun i m H' => m = xs.length - i ∧ i ≤ xs.length ∧ ∃ ks zs, RepO (Bn δ (p :: M)) H' p (.dT ks zs) ∧ I i ks zs ∧ Ext δ H1 H', ⟨xs.length, by simp, Nat.zero_le _, [], [], ⟨[], [], [], ⟨[], upd_same, dct_nil hsm⟩, rfl, .nil, .nil⟩, I0, Ext.new hp⟩, ?_⟩
  rintro i m H' ⟨rfl, hle, ks, zs, ro, hI, ex⟩
  by_cases hlt : i < xs.length
  · refine .inr ⟨io.go _ hB H' i ex.kept hlt, fun H2 => ∃ ks zs, RepO (Bn δ (p :: M)) H2 p (.dT ks zs) ∧ I (i + 1) ks zs ∧ Ext δ H1 H2, fun H2 q => ⟨xs.length - (i + 1), by omega, rfl, hlt, q⟩, fun v H2 y => ?_⟩
    obtain ⟨oo, hoo⟩ : ∃ o, H' p = some o := by
      cases q : H' p with
      | none => exact absurd q ro.there
      | some o => exact ⟨o, rfl⟩
    have RB : RE δ (p :: M) H' E0 (wipe σ vs) ⟨⟨fun _ => False, c.lk⟩, wipeS l vs⟩ := R.block hpH (e1.trans ex) hoo
    obtain ⟨k2, r2⟩ := io.yld _ hB H' i xs[i] v H2 ex.kept (full_bn RB) (List.getElem?_eq_getElem hlt) y
    have e2 : Ext δ H' H2 := k2.ext0
    refine hg E0 δ (p :: M) (wipe σ vs) H2 _ _ v _ (RB.ext e2) r2 _ _ (Is i _ ks zs (List.getElem?_eq_getElem hlt) hI) fun σ3 l3 R3 o3 n3 h3 => ?_
    refine ⟨(wipe_off o3).trans (wipe_off (off_wipe (vs := vs) (a := σ))), ?_⟩
    refine hi1 δ (p :: M) σ3 H2 _ R3 _ _ h3 fun A1 H4 ys e4 io1 h4 => ?_
    obtain ⟨J, J0, Js, Je⟩ := h4
    have e24 := e2.trans e4
    have ro4 := ro.keep e24.kept fun o q => e24.1 _ _ q nd
    have R4 := R3.ext e4
    have lnn : NoNew l l3 := noNew_wipe.trans n3
    have eH4 : Ext δ H H4 := (e1.trans ex).trans e24
    have hB1 : ∀ b, Bn δ (p :: M) b → Bn δ (p :: M) b ∨ H4 b = none := fun b z => .inl z
    refine ⟨fun j m G => m = ys.length - j ∧ j ≤ ys.length ∧ ∃ ks zs, RepO (Bn δ (p :: M)) G p (.dT ks zs) ∧ J j ks zs ∧ ButP δ p H4 G, ⟨ys.length, by simp, Nat.zero_le _, ks, zs, ro4, J0, ButP.refl ro4.there⟩, ?_⟩
    rintro j m G ⟨rfl, hjl, ks', zs', rg, hJ, bp⟩
    by_cases hj : j < ys.length
    · refine .inr ⟨io1.go _ hB1 G j bp.kept hj, fun G2 => ∃ ks zs, RepO (Bn δ (p :: M)) G2 p (.dT ks zs) ∧ J (j + 1) ks zs ∧ ButP δ p H4 G2, fun G2 q => ⟨ys.length - (j + 1), by omega, rfl, hj, q⟩, fun v1 G2 y1 => ?_⟩
      have RG : RE δ (p :: M) G E0 σ3 ⟨⟨fun _ => False, c.lk⟩, l3⟩ := R.again hpH (eH4.butP hpH bp) R4 lnn bp
      obtain ⟨k5, r5⟩ := io1.yld _ hB1 G j ys[j] v1 G2 bp.kept (full_bn RG) (List.getElem?_eq_getElem hj) y1
      have e5 : Ext δ G G2 := k5.ext0
      refine hg1 E0 δ (p :: M) (wipe σ3 vs1) G2 _ _ v1 _ (RG.wiped.ext e5) r5 _ _ (Js j _ ks' zs' (List.getElem?_eq_getElem hj) hJ) fun σ6 l6 R6 o6 n6 h6 => ?_
      refine ⟨(wipe_off o6).trans (wipe_off (off_wipe (vs := vs1) (a := σ3))), ?_⟩
      refine hk δ (p :: M) σ6 G2 _ R6 _ _ h6 fun y2 G3 f e6 r6 h6' => ?_
      refine hv δ (p :: M) σ6 G3 _ (R6.ext e6) _ _ h6' fun z2 G4 x e7 r7 h7 => ?_
      obtain ⟨hKy, hl, a1, a2⟩ := h7
      have e57 := (e5.trans e6).trans e7
      obtain ⟨pa, nks, us, ⟨es, hq, dx⟩, ek, rk, rv⟩ := rg.keep e57.kept fun o q => e57.1 _ _ q nd
      obtain ⟨key, b, e8, na⟩ := hKy.at (r6.keep e7.kept)
      obtain ⟨kk, ekk, hdp⟩ := hKy.k
      rw [e8] at ekk
      cases ekk
      refine ⟨es, key, b, dx.nd' hq ek rk, na, fun r hr => ?_⟩
      have kp : ∀ z, Kept (Bn δ (p :: M)) G4 (upd G4 p z) := fun z => Kept.put (.inr List.mem_cons_self)
      have bp' : ∀ z, ButP δ p H4 (upd G4 p z) := fun z => (bp.ext nd e57).put nd
      by_cases hmem : f ∈ ks'
      · obtain ⟨n0, hn0⟩ := List.getElem?_of_mem hmem
        obtain ⟨nn, g1, g2⟩ := keysOf_at ek hn0
        rw [e8] at g2
        cases g2
        have hlv : n0 < us.length := by
          have z1 := dx.evs.length
          have z2 := congrArg List.length dx.eks
          rw [List.length_map] at z1 z2
          have z3 := (List.getElem?_eq_some_iff.mp g1).1
          omega
        exact ⟨ks', zs'.set n0 x, ⟨pa, nks, us.set n0 z2, ⟨_, upd_same, dx.set g1 (List.getElem?_eq_getElem hlv) hr⟩, ek, rk.keep (kp _), (rv.set r7 n0).keep (kp _)⟩, a2 n0 hn0, bp' _⟩
      · have hn : key ∉ nks := fun z => hmem ((keysOf_mem ek e8).mpr z)
        have hz : es.length < sizeLine := by
          have z2 := congrArg List.length dx.eks
          rw [List.length_map] at z2
          have z3 := keysOf_len ek
          have := sz_lt hl
          omega
        have hb : y2 = .ref b := na.e
        refine ⟨ks' ++ [f], zs' ++ [x], ⟨pa ++ [b], nks ++ [key], us ++ [z2], ⟨_, upd_same, dx.app hn hr hdp hz⟩, keysOf_app ek (keysOf_of e8 rfl), ?_, (rv.app (.cons r7 .nil)).keep (kp _)⟩, a1 hmem, bp' _⟩
        rw [List.map_append]
        exact (rk.app (.cons (by rw [← hb]; exact r6.keep e7.kept) .nil)).keep (kp _)
    · have ej : j = ys.length := by omega
      subst ej
      exact .inl ⟨io1.stop _ hB1 G _ bp.kept (Nat.le_refl _), ks', zs', rg, Je ks' zs' hJ, (ex.trans e24).butP hp bp⟩
  · have ei : i = xs.length := by omega
    subst ei
    exact .inl ⟨io.stop _ hB H' _ ex.kept (Nat.le_refl _), k p H' _ hpH (e1.trans ex) ro (Ie ks zs hI)⟩
variable {X : Cx} {kx vx tg iter tg1 iter1 : Expr} {scope : Scope} {own : List (Str × Nat)} {pos : Pos}
theorem ds_objDc2 {i : Nat} {y : Str} {py spos : Pos} (hu : X.A.units + 64 < cLine) (hy : X.N[i]? = some y) (hyl : X.env.scope.names.lookup y = some .local) (hsw : swapsWith (dc2 kx vx tg iter tg1 iter1 scope pos) (some (.Name y py)) spos.line X.env = pure true)
    (hc : X.calm = true) (hN : X.N.Nodup) (hi : DI X E tg iter ti wi) (ok : BlkOk X.N X.env.scope scope own) (hv : ∀ i ∈ vs1, i ∈ own.map (·.2))
    (hg : Blk X scope fun Y => DG Y (own.map (·.2)) tg g wg) (hi1 : Blk X scope fun Y => DI Y E0 tg1 iter1 ti1 wi1) (hg1 : Blk X scope fun Y => DG Y vs1 tg1 g1 wg1)
    (hk : Blk X scope fun Y => DE Y E0 kx tk wk) (he : Blk X scope fun Y => DE Y E0 vx tv wv)
    (hs : ∀ x, foldedSetIterable iter X.env x = pure x := by intro _; rfl) (hs1 : ∀ env x, foldedSetIterable iter1 env x = pure x := by intro _ _; rfl) (kx' : KX X := by exact {}) :
    DS X E (.Assign [.Name y py] (dc2 kx vx tg iter tg1 iter1 scope pos) spos) (tLen X.N.length (tAsg (tDc2 ti g ti1 g1 tk tv (own.map (·.2)) vs1) (gName i))) (wObj (wDc2 wi wg wi1 wg1 wk wv (own.map (·.2)) vs1) i) :=
  ⟨ps_len (ps_setDc2 kx'.P kx'.w kx'.K hu hc hN hy hyl hsw hi.p ok hv (fun s H C cl fp => (hg s H C cl fp).p) (fun s H C cl fp => (hi1 s H C cl fp).p) (fun s H C cl fp => (hg1 s H C cl fp).p) (fun s H C cl fp => (hk s H C cl fp).p) (fun s H C cl fp => (he s H C cl fp).p) hs hs1),
    abs_obj (lt_of_at hy) (abs_dc2 hi.a (hg X.s_0 X.H_0 X.env.locals [] []).a (hi1 X.s_0 X.H_0 X.env.locals [] []).a (hg1 X.s_0 X.H_0 X.env.locals [] []).a (hk X.s_0 X.H_0 X.env.locals [] []).a (he X.s_0 X.H_0 X.env.locals [] []).a)⟩
end
end Dl

/-! x op= e of ints; lists turned round; `for` over a list of one's own as it stands. -/
namespace Dl
open PySem L2 PyProof.Rows
variable [KOf]
section
variable {X : Cx} {E : XK} {e o : Expr} {te to : TE} {w wo : WE} {pos pos' : Pos}
def ipMul : TIp := fun x y H Q => ∃ i j, x = .int i ∧ y = .int j ∧ CMul i j ∧ Q (.int (i * j)) H
theorem ip_mul : PIp X .Mult ipMul := by
  intro pins s σ H x y v u Q I r1 r2 h
  obtain ⟨i, j, rfl, rfl, c, q⟩ := h
  obtain ⟨t, rfl⟩ := r1
  obtain ⟨t', rfl⟩ := r2
  exact imul_int ⟨.int _, H, I.tok _, ⟨_, rfl⟩, q⟩ c.ok
def wAugI (i : Nat) (w : WE) (f : Int → Int → Int) (C : Int → Int → Prop) : WS := fun c Φ l => match look l i with
  | some (.d (.int a)) => w ⟨c, l⟩ fun d => match d with
    | .int b => C a b ∧ Φ.nx (setS l i (.d (.int (f a b))))
    | _ => False
  | _ => False
/-- int op= int, by data -/
def IpI (ti : TIp) (f : Int → Int → Int) (C : Int → Int → Prop) : Prop := ∀ (a b : Int) (H : Hp) (Q : VK), C a b → Q (.int (f a b)) H → ti (.int a) (.int b) H Q
theorem ipi_add : IpI (ipI fun i j => i + j) (fun a b => a + b) fun _ _ => True := fun a b H Q _ q => ⟨a, b, rfl, rfl, q⟩
theorem ipi_sub : IpI (ipI fun i j => i - j) (fun a b => a - b) fun _ _ => True := fun a b H Q _ q => ⟨a, b, rfl, rfl, q⟩
theorem ipi_mul : IpI ipMul (fun a b => a * b) CMul := fun a b H Q c q => ⟨a, b, rfl, rfl, c, q⟩
theorem abs_aug {i n : Nat} {ti : TIp} {f : Int → Int → Int} {C : Int → Int → Prop} (hn : i < n) (hi : IpI ti f C) (he : AbsE E te w) : AbsS E (tLen n (tAug i te ti)) (wAugI i w f C) := fun δ M0 H0 c Φ D ok σ H l R h hl => by
  obtain ⟨M, m, mn, Re⟩ := R.ex
  unfold wAugI at h
  split at h
  · rename_i a hq
    obtain ⟨v, ev, r⟩ := Re.rep _ _ (look_get hq)
    cases r with
    | d r =>
      cases r
      refine ⟨.int a, ev rfl, ?_⟩
      refine he δ M σ H ⟨c, l⟩ Re _ _ h fun u H1 d e1 r1 h1 => ?_
      cases r1 <;> first | exact False.elim h1 | skip
      refine hi _ _ _ _ h1.1 ?_
      have R1 := R.ext e1
      exact ok.nx _ H1 _ (R1.noNew m mn ((Re.ext e1).set i (by rw [hl]; exact hn) (.int _)) (noNew_put i _)) h1.2
  · exact h.elim
theorem ds_aug {i : Nat} {x : Str} {op : Operator} {ti : TIp} {f : Int → Int → Int} {C : Int → Int → Prop} (hp : PIp X op ti) (hi : IpI ti f C) (hN : X.N.Nodup) (hx : X.N[i]? = some x) (hl : Loc X.env.scope x) (he : DE X E e te w) (hf : X.fn x = true ∨ X.env.scope.names.lookup x = some .local := by first | exact .inl rfl | exact .inr rfl | assumption) :
    DS X E (.AugAssign (.Name x pos') op e pos) (tLen X.N.length (tAug i te ti)) (wAugI i w f C) := ⟨ps_len (ps_aug hN hx hl he.p hp hf), abs_aug (lt_of_at hx) hi he.a⟩
theorem sw_trueD {kx vx : Expr} {gs : List Comprehension} {scope : Scope} {pos py : Pos} {y : Str} {l : Nat} {env : PySem.Env} (hk : env.scope.kind = .function) (hy : env.scope.names.lookup y = some .local) (hl : (py.line == pos.line) = true)
    (ha : (scope.names.any fun (n, k) => n == y && (k == .local || k == .cell)) = false) : swapsWith (.DictComp kx vx gs scope pos) (some (.Name y py)) l env = pure true := by
  have e1 : env.kindOf y = some .local := hy
  have e2 : env.blockKind = .function := by unfold PySem.Env.blockKind; rw [hk]; rfl
  unfold swapsWith
  simp only [e2, e1, ha, Expr.pos, hl]
  rfl
/-- o[::-1], o plain -/
def wRevL (wo : WE) : Env → (List D → Prop) → Prop := fun ρ Φ => wo ρ fun d => match d with
  | .lst xs => Φ xs.reverse
  | _ => False
theorem df_revL {kk : Nat} {p1 p2 p3 : Pos} (ho : DE X E o to wo) (hK : X.K = KOf.K := by rfl) : DF X E (.Subscript o (.Slice none none (some (.UnaryOp .USub (.Constant (.int 1) kk p1) p2)) p3) pos) (tRevL KOf.K to) (wRevL wo) := by
  refine ⟨hK ▸ pe_revL ho.p, fun δ M σ H ρ R Φ Q h k => ?_⟩
  refine ho.a δ M σ H ρ R _ _ h fun v H1 d e1 r1 h1 => ?_
  cases r1 <;> first | exact False.elim h1 | skip
  rename_i n s rl
  exact ⟨_, _, rfl, SqL.of s, fun z hz => k z _ _ _ (e1.free R.okd hz) (e1.trans (Ext.new hz)) upd_same ((rl.reverse.less (bn_cons hz)).keep (Kept.new hz)) h1⟩
end
end Dl

/-! Papers. -/
namespace Gh
open PySem L2 Dl
variable [KOf]
abbrev PRoom := List (List Int) × List (List Int)
def dPart (ps : List (List Int)) : D := .tup (ps.map dInts)
def dRoom (r : PRoom) : D := .tup [dPart r.1, dPart r.2]
def dRooms (rs : List PRoom) : D := .lst (rs.map dRoom)
/-! ### the ways to choose one of each -/
def chM (rows : List (List Int)) (p : List Int) : List (List Int) := rows.flatMap fun row => p.map fun x => row ++ [x]
def choicesM (ps : List (List Int)) : List (List Int) := ps.foldl chM [[]]
def manyN (ps : List (List Int)) : Nat := prodN (ps.map List.length)
theorem prodN_snoc : ∀ (l : List Nat) (n : Nat), prodN (l ++ [n]) = prodN l * n
  | [], n => by simp [prodN]
  | x :: l, n => by
    show x * prodN (l ++ [n]) = x * prodN l * n
    rw [prodN_snoc l n, Nat.mul_assoc]
theorem manyN_snoc (ps : List (List Int)) (p : List Int) : manyN (ps ++ [p]) = manyN ps * p.length := by
  unfold manyN
  rw [List.map_append]
  exact prodN_snoc _ _
theorem choicesM_snoc (ps : List (List Int)) (p : List Int) : choicesM (ps ++ [p]) = chM (choicesM ps) p := by
  unfold choicesM
  rw [List.foldl_append]
  rfl
theorem chM_len (rows : List (List Int)) (p : List Int) : (chM rows p).length = rows.length * p.length := flat_len fun x _ => List.length_map _
theorem snocInd {α : Type} {P : List α → Prop} (h0 : P []) (h1 : ∀ l x, P l → P (l ++ [x])) (l : List α) : P l := by
  have : ∀ n (l : List α), l.length = n → P l := fun n => by
    induction n with
    | zero => exact fun l hl => by rw [List.length_eq_zero_iff.mp hl]; exact h0
    | succ n ih =>
      intro l hl
      have hne : l ≠ [] := fun z => by rw [z] at hl; cases hl
      rw [← List.dropLast_concat_getLast hne]
      exact h1 _ _ (ih _ (by rw [List.length_dropLast, hl]; rfl))
  exact this _ l rfl
theorem choicesM_len (ps : List (List Int)) : (choicesM ps).length = manyN ps := by
  induction ps using snocInd with
  | h0 => rfl
  | h1 ps p ih => rw [choicesM_snoc, chM_len, ih, manyN_snoc]
theorem mem_choices (ps : List (List Int)) : ∀ x : List Int, x ∈ choicesM ps ↔ x.length = ps.length ∧ ∀ (i : Nat) (y : Int) (p : List Int), x[i]? = some y → ps[i]? = some p → y ∈ p := by
  induction ps using snocInd with
  | h0 =>
    intro x
    show x ∈ [[]] ↔ _
    rw [List.mem_singleton]
    constructor
    · rintro rfl; exact ⟨rfl, fun i y p h => nomatch h⟩
    · exact fun h => List.length_eq_zero_iff.mp h.1
  | h1 ps p ih =>
    intro x
    rw [choicesM_snoc]
    unfold chM
    rw [List.mem_flatMap]
    constructor
    · rintro ⟨row, hr, hx⟩
      obtain ⟨y, hy, rfl⟩ := List.mem_map.mp hx
      obtain ⟨h1, h2⟩ := (ih row).mp hr
      refine ⟨by simp [h1], fun i z q e1 e2 => ?_⟩
      rcases Nat.lt_or_ge i row.length with hl | hl
      · rw [List.getElem?_append_left hl] at e1
        rw [List.getElem?_append_left (by omega)] at e2
        exact h2 i z q e1 e2
      · rw [List.getElem?_append_right hl] at e1
        rw [List.getElem?_append_right (by omega)] at e2
        have hi : i - row.length = 0 := by
          have := (List.getElem?_eq_some_iff.mp e1).1
          simp at this; omega
        rw [hi] at e1
        rw [← h1, hi] at e2
        cases e1
        cases e2
        exact hy
    · rintro ⟨h1, h2⟩
      have hne : x ≠ [] := fun z => by rw [z] at h1; simp at h1
      have hx := List.dropLast_concat_getLast hne
      have hl : x.dropLast.length = ps.length := by rw [List.length_dropLast, h1]; simp
      refine ⟨x.dropLast, (ih _).mpr ⟨hl, fun i y q e1 e2 => h2 i y q ?_ ?_⟩, List.mem_map.mpr ⟨x.getLast hne, h2 ps.length _ p ?_ ?_, hx⟩⟩
      · rw [← hx]; exact app_at e1
      · exact app_at e2
      · conv => lhs; rw [← hx]
        rw [List.getElem?_append_right (by omega), hl, Nat.sub_self]
        rfl
      · rw [List.getElem?_append_right (Nat.le_refl _), Nat.sub_self]
        rfl
/-! ### a room's states -/
def statesR (r : PRoom) : List Stt := (choicesM r.1).flatMap fun b => (choicesM r.2).map fun p => ⟨b, p⟩
def roomN (r : PRoom) : Nat := manyN r.1 * manyN r.2
theorem statesR_len (r : PRoom) : (statesR r).length = roomN r := by
  unfold statesR
  rw [flat_len (k := (choicesM r.2).length) fun x _ => List.length_map _, choicesM_len, choicesM_len]
  rfl
structure OkRoom (g : Gt) (r : PRoom) : Prop where
  lb : r.1.length = g.bs.length
  lp : r.2.length = g.hs.length
  bx : ∀ (i : Nat) (p : List Int) (b : Box), r.1[i]? = some p → g.bs[i]? = some b → ∀ x ∈ p, 0 ≤ x ∧ x ≤ b.2
  pl : ∀ (i : Nat) (p : List Int) (h : Hand), r.2[i]? = some p → g.hs[i]? = some h → ∀ x ∈ p, 0 ≤ x ∧ x < h.2.length
  ne : ∀ p, p ∈ r.1 ∨ p ∈ r.2 → p ≠ [] ∧ p.length ≤ 100
  sz : roomN r ≤ 5000
theorem statesR_ok {g : Gt} {r : PRoom} (o : OkRoom g r) {s : Stt} (h : s ∈ statesR r) : OkStt g s := by
  obtain ⟨b, hb, hs⟩ := List.mem_flatMap.mp h
  obtain ⟨p, hp, rfl⟩ := List.mem_map.mp hs
  obtain ⟨b1, b2⟩ := (mem_choices _ _).mp hb
  obtain ⟨p1, p2⟩ := (mem_choices _ _).mp hp
  refine ⟨b1.trans o.lb, p1.trans o.lp, fun i x c e1 e2 => ?_, fun i x c e1 e2 => ?_⟩
  · obtain ⟨q, hq⟩ : ∃ q, r.1[i]? = some q := ⟨_, List.getElem?_eq_getElem (by rw [← b1]; exact (List.getElem?_eq_some_iff.mp e1).1)⟩
    exact o.bx i q c hq e2 x (b2 i x q e1 hq)
  · obtain ⟨q, hq⟩ : ∃ q, r.2[i]? = some q := ⟨_, List.getElem?_eq_getElem (by rw [← p1]; exact (List.getElem?_eq_some_iff.mp e1).1)⟩
    exact o.pl i q c hq e2 x (p2 i x q e1 hq)
/-- in the room, place by place -/
def allIn (l : List Int) (ps : List (List Int)) : Bool := (List.range l.length).all fun k => decide (l.getD k 0 ∈ ps.getD k [])
def isInR (s : Stt) (r : PRoom) : Bool := allIn s.b r.1 && allIn s.p r.2
theorem allIn_iff {l : List Int} {ps : List (List Int)} (h : l.length = ps.length) : allIn l ps = true ↔ l ∈ choicesM ps := by
  unfold allIn
  rw [List.all_eq_true, mem_choices]
  constructor
  · intro a
    refine ⟨h, fun i y p e1 e2 => ?_⟩
    have := a i (List.mem_range.mpr (List.getElem?_eq_some_iff.mp e1).1)
    rw [List.getD_eq_getElem?_getD, List.getD_eq_getElem?_getD, e1, e2] at this
    exact of_decide_eq_true this
  · rintro ⟨_, a⟩ k hk
    have hk := List.mem_range.mp hk
    rw [List.getD_eq_getElem?_getD, List.getD_eq_getElem?_getD, List.getElem?_eq_getElem hk, List.getElem?_eq_getElem (by rw [← h]; exact hk)]
    exact decide_eq_true (a k _ _ (List.getElem?_eq_getElem hk) (List.getElem?_eq_getElem (by rw [← h]; exact hk)))
theorem mem_statesR {s : Stt} {r : PRoom} : s ∈ statesR r ↔ s.b ∈ choicesM r.1 ∧ s.p ∈ choicesM r.2 := by
  unfold statesR
  rw [List.mem_flatMap]
  constructor
  · rintro ⟨b, hb, hs⟩
    obtain ⟨p, hp, rfl⟩ := List.mem_map.mp hs
    exact ⟨hb, hp⟩
  · exact fun h => ⟨s.b, h.1, List.mem_map.mpr ⟨s.p, h.2, rfl⟩⟩
theorem isInR_iff {g : Gt} {s : Stt} {r : PRoom} (os : OkStt g s) (o : OkRoom g r) : isInR s r = true ↔ s ∈ statesR r := by
  unfold isInR
  rw [Bool.and_eq_true, allIn_iff (os.lb.trans o.lb.symm), allIn_iff (os.lp.trans o.lp.symm), mem_statesR]
/-! ### where a paper fails -/
inductive Flt where
  | begin | two (n : Nat) | leaves (n : Nat) (s : Stt) (h : Nat)
def dFlt : Option Flt → D
  | none => .non
  | some .begin => .tup [.str "begin"]
  | some (.two n) => .tup [.str "two", .int n]
  | some (.leaves n s h) => .tup [.str "leaves", .int n, dStt s, .int h]
def roomIn (g : Gt) (r : PRoom) (i : Nat) : Bool := match g.hs[i]?, r.2[i]? with
  | some h, some p => decide ((inAt h : Int) ∈ p)
  | _, _ => false
def twoR (g : Gt) (r : PRoom) : Bool := decide (2 ≤ ((List.range g.hs.length).filter (roomIn g r)).length)
def outAt (g : Gt) (held : List Stt) (s : Stt) : Option Nat := (List.range g.hs.length).find? fun h => decide (doneM g s h ∉ held)
def outR (g : Gt) (held : List Stt) (ss : List Stt) : Option (Stt × Nat) := ss.findSome? fun s => (outAt g held s).map (s, ·)
def heldM (rs : List PRoom) : List Stt := rs.flatMap statesR
def leavesM (g : Gt) (held : List Stt) : List PRoom → Nat → Option Flt
  | [], _ => none
  | r :: rs, n => match outR g held (statesR r) with
    | some x => some (.leaves n x.1 x.2)
    | none => leavesM g held rs (n + 1)
def faultM (g : Gt) (rs : List PRoom) : Option Flt :=
  if begM g ∈ heldM rs then (match rs.findIdx? (twoR g) with
    | some n => some (.two n)
    | none => leavesM g (heldM rs) rs 0) else some .begin
/-- a paper that is kept -/
structure Kept' (g : Gt) (rs : List PRoom) : Prop where
  b : begM g ∈ heldM rs
  t : ∀ r ∈ rs, twoR g r = false
  l : ∀ s ∈ heldM rs, ∀ h, h < g.hs.length → doneM g s h ∈ heldM rs
theorem outAt_none {g : Gt} {held : List Stt} {s : Stt} : outAt g held s = none ↔ ∀ h, h < g.hs.length → doneM g s h ∈ held := by
  unfold outAt
  rw [List.find?_eq_none]
  constructor
  · intro a h hh
    have := a h (List.mem_range.mpr hh)
    simpa using this
  · intro a h hh
    simpa using a h (List.mem_range.mp hh)
theorem outR_none {g : Gt} {held ss : List Stt} : outR g held ss = none ↔ ∀ s ∈ ss, ∀ h, h < g.hs.length → doneM g s h ∈ held := by
  unfold outR
  rw [List.findSome?_eq_none_iff]
  constructor
  · intro a s hs
    have := a s hs
    rw [Option.map_eq_none_iff] at this
    exact outAt_none.mp this
  · intro a s hs
    rw [Option.map_eq_none_iff]
    exact outAt_none.mpr (a s hs)
theorem leavesM_none {g : Gt} {held : List Stt} : ∀ {rs : List PRoom} {n : Nat}, leavesM g held rs n = none ↔ ∀ r ∈ rs, outR g held (statesR r) = none
  | [], n => by simp [leavesM]
  | r :: rs, n => by
    unfold leavesM
    cases e : outR g held (statesR r) with
    | some x => simp [e]
    | none => simp [e, leavesM_none (rs := rs)]
theorem faultM_none {g : Gt} {rs : List PRoom} : faultM g rs = none ↔ Kept' g rs := by
  unfold faultM
  by_cases hb : begM g ∈ heldM rs
  · rw [if_pos hb]
    cases e : rs.findIdx? (twoR g) with
    | some n =>
      obtain ⟨r, hr, ht, _⟩ := find_at e
      constructor
      · intro z; cases z
      · intro k
        have := k.t r (List.mem_of_getElem? hr)
        rw [this] at ht; cases ht
    | none =>
      have h2 := List.findIdx?_eq_none_iff.mp e
      show leavesM _ _ _ _ = none ↔ _
      rw [leavesM_none]
      constructor
      · intro a
        refine ⟨hb, h2, fun s hs h hh => ?_⟩
        obtain ⟨r, hr, hsr⟩ := List.mem_flatMap.mp hs
        exact outR_none.mp (a r hr) s hsr h hh
      · intro k r hr
        exact outR_none.mpr fun s hs h hh => k.l s (List.mem_flatMap.mpr ⟨r, hr, hs⟩) h hh
  · rw [if_neg hb]
    constructor
    · intro z; cases z
    · intro k; exact absurd k.b hb
end Gh
namespace Gh
open PySem L2 Dl
variable [KOf]
/-! ### promises -/
def SmallP (ps : List (List Int)) : Prop := (∀ p ∈ ps, p ≠ [] ∧ p.length ≤ 100) ∧ manyN ps ≤ 5000 ∧ ps.length ≤ 100
def PP_many_choices (ss : List S) (Φ : D → Prop) : Prop := ∃ ps : List (List Int), ss = [.d (dPart ps)] ∧ (∀ p ∈ ps, p.length ≤ 100) ∧ Φ (.int (manyN ps : Nat))
def PP_choices (ss : List S) (Φ : D → Prop) : Prop := ∃ ps : List (List Int), ss = [.d (dPart ps)] ∧ SmallP ps ∧ Φ (.lst ((choicesM ps).map dInts))
def PP_check_sizes (ss : List S) (Φ : D → Prop) : Prop := ∃ g rs, ss = [.d (dRooms rs)] ∧ OkGate g ∧ (∀ r ∈ rs, OkRoom g r) ∧ Φ .non
def PP_states_of (ss : List S) (Φ : List D → Prop) : Prop := ∃ g r, ss = [.d (dRoom r)] ∧ OkGate g ∧ OkRoom g r ∧ Φ ((statesR r).map dStt)
def roomOf (s : Stt) : PRoom := (s.b.map fun x => [x], s.p.map fun x => [x])
def PP_room_of (ss : List S) (Φ : D → Prop) : Prop := ∃ s : Stt, ss = [.d (dStt s)] ∧ s.b.length ≤ 100 ∧ s.p.length ≤ 100 ∧ Φ (dRoom (roomOf s))
def PP_two_may_be_within (C : Addr) (ss : List S) (Φ : D → Prop) : Prop := ∃ g r, ss = [.d (dObj C g), .d (dRoom r)] ∧ OkGate g ∧ OkRoom g r ∧ Φ (.bl (twoR g r))
def dOut : Option (Stt × Nat) → D
  | none => .non
  | some x => .tup [dStt x.1, .int x.2]
def PP_step_out (C : Addr) (ss : List S) (Φ : D → Prop) : Prop := ∃ g r, ∃ held : List Stt, ∃ ks zs : List D, ss = [.d (dObj C g), .d (dRoom r), .d (.dcT ks zs)] ∧ OkGate g ∧ OkRoom g r ∧ (∀ s, dStt s ∈ ks ↔ s ∈ held) ∧ Φ (dOut (outR g held (statesR r)))
def PP_fault (C : Addr) (ss : List S) (Φ : D → Prop) : Prop := ∃ g rs, ss = [.d (dObj C g), .d (dRooms rs)] ∧ OkGate g ∧ (∀ r ∈ rs, OkRoom g r) ∧ (heldM rs).length < 90000 ∧ Φ (dFlt (faultM g rs))
def PP_paper (C : Addr) (ss : List S) (Φ : List D → Prop) : Prop := ∃ g, ss = [.d (dObj C g)] ∧ OkGate g ∧ szG g ≤ 5000 ∧ (mapM g).st.findIdx? (twoAt g) = none ∧ Φ (((mapM g).st.map roomOf).map dRoom)
def P_is_in (ss : List S) (Φ : D → Prop) : Prop := ∃ g s r, ss = [.d (dStt s), .d (dRoom r)] ∧ OkGate g ∧ OkStt g s ∧ OkRoom g r ∧ Φ (.bl (isInR s r))
def P_states_of (ss : List S) (Φ : D → Prop) : Prop := ∃ g r, ss = [.d (dRoom r)] ∧ OkGate g ∧ OkRoom g r ∧ Φ (.lst ((statesR r).map dStt))
def P_fault (ss : List S) (Φ : D → Prop) : Prop := ∃ g rs, ss = [.d (dGate g), .d (dRooms rs)] ∧ OkGate g ∧ (∀ r ∈ rs, OkRoom g r) ∧ rs.length < 90000 ∧ Φ (dFlt (faultM g rs))
def P_all_but (ss : List S) (Φ : D → Prop) : Prop := ∃ g, ss = [.d (dGate g), .dice] ∧ OkGate g ∧ szG g ≤ 5000 ∧ ∀ rs : List PRoom, (∀ r ∈ rs, OkRoom g r) → rs.length = g.hs.length → Φ (dRooms rs)
end Gh
namespace Gh
open PySem L2 Dl
variable [KOf]
theorem manyN_take {ps : List (List Int)} (h : ∀ p ∈ ps, p ≠ []) : ∀ i, manyN (ps.take i) ≤ manyN ps := by
  induction ps using snocInd with
  | h0 => intro i; simp
  | h1 ps p ih =>
    intro i
    have hp : 1 ≤ p.length := List.length_pos_iff.mpr (h p (by simp))
    have ih := ih fun q hq => h q (by simp [hq])
    rw [manyN_snoc]
    rcases Nat.lt_or_ge ps.length i with q | q
    · rw [List.take_of_length_le (by simp; omega), manyN_snoc]
      exact Nat.le_refl _
    · rw [List.take_append_of_le_length q]
      exact Nat.le_trans (ih i) (Nat.le_mul_of_pos_right _ hp)
theorem take_next' {α : Type} {l : List α} {i : Nat} {x : α} (h : l[i]? = some x) : l.take (i + 1) = l.take i ++ [x] := by
  rw [List.take_add_one, h]; rfl
theorem chM_next {rows : List (List Int)} {p row : List Int} {i : Nat} (h : rows[i]? = some row) : chM (rows.take (i + 1)) p = chM (rows.take i) p ++ p.map fun x => row ++ [x] := by
  unfold chM
  rw [take_next' h, List.flatMap_append]
  simp
theorem OkRoom.small1 {g : Gt} {r : PRoom} (og : OkGate g) (o : OkRoom g r) : SmallP r.1 := by
  refine ⟨fun p hp => o.ne p (.inl hp), ?_, by have := og.bs.2.1; rw [o.lb]; omega⟩
  have h2 : 1 ≤ manyN r.2 := by
    have : ∀ ps : List (List Int), (∀ p ∈ ps, p ≠ []) → 1 ≤ manyN ps := fun ps => by
      induction ps with
      | nil => intro _; exact Nat.le_refl _
      | cons p ps ih =>
        intro h
        exact Nat.mul_pos (List.length_pos_iff.mpr (h p (by simp))) (ih fun q hq => h q (by simp [hq]))
    exact this r.2 fun p hp => (o.ne p (.inr hp)).1
  exact Nat.le_trans (Nat.le_mul_of_pos_right _ h2) o.sz
theorem manyN_pos : ∀ {ps : List (List Int)}, (∀ p ∈ ps, p ≠ []) → 1 ≤ manyN ps
  | [], _ => Nat.le_refl _
  | p :: ps, h => Nat.mul_pos (List.length_pos_iff.mpr (h p (by simp))) (manyN_pos fun q hq => h q (by simp [hq]))
theorem OkRoom.small2 {g : Gt} {r : PRoom} (og : OkGate g) (o : OkRoom g r) : SmallP r.2 := by
  refine ⟨fun p hp => o.ne p (.inr hp), ?_, by have := og.h4; rw [o.lp]; omega⟩
  exact Nat.le_trans (Nat.le_mul_of_pos_left _ (manyN_pos fun p hp => (o.ne p (.inl hp)).1)) o.sz
end Gh
namespace Gh
open PySem L2 Dl
variable [KOf]
theorem split_at {α : Type} {l : List α} {i : Nat} {x : α} (h : l[i]? = some x) : l = l.take i ++ x :: l.drop (i + 1) := by
  obtain ⟨hl, e⟩ := List.getElem?_eq_some_iff.mp h
  have := List.drop_eq_getElem_cons hl
  rw [← e, ← this, List.take_append_drop]
theorem outR_at {g : Gt} {held ss : List Stt} {i j : Nat} {s : Stt} (hs : ss[i]? = some s) (hn : outR g held (ss.take i) = none) (hj : outAt g held s = some j) : outR g held ss = some (s, j) := by
  rw [split_at hs]
  unfold outR at hn ⊢
  rw [List.findSome?_append, hn, List.findSome?_cons, hj]
  rfl
theorem outR_step {g : Gt} {held ss : List Stt} {i : Nat} {s : Stt} (hs : ss[i]? = some s) (hn : outR g held (ss.take i) = none) (hj : outAt g held s = none) : outR g held (ss.take (i + 1)) = none := by
  rw [take_next' hs]
  unfold outR at hn ⊢
  rw [List.findSome?_append, hn, List.findSome?_cons, hj]
  rfl
theorem outAt_at {g : Gt} {held : List Stt} {s : Stt} {j : Nat} (h1 : j < g.hs.length) (h2 : doneM g s j ∉ held) (h3 : ∀ h, h < j → doneM g s h ∈ held) : outAt g held s = some j := by
  unfold outAt
  refine List.find?_eq_some_iff_append.mpr ⟨decide_eq_true h2, List.range j, (List.range' (j + 1) (g.hs.length - (j + 1))), ?_, fun a ha => ?_⟩
  · rw [List.range_eq_range', List.range_eq_range']
    obtain ⟨k, hk⟩ : ∃ k, g.hs.length = j + (k + 1) := ⟨g.hs.length - (j + 1), by omega⟩
    have e3 : j + (k + 1) - (j + 1) = k := by omega
    rw [hk, e3, ← List.range'_append_1, List.range'_succ]
    simp
  · have := h3 a (List.mem_range.mp ha)
    simp [this]
/-- what the dict of held states holds behind some of them -/
def HeldD (ks zs : List D) (l : List Stt) : Prop := ks.length ≤ l.length ∧ ks.length = zs.length ∧ (∀ s, dStt s ∈ ks ↔ s ∈ l)
theorem HeldD.put {ks zs : List D} {l : List Stt} {s : Stt} (h : HeldD ks zs l) (z : D) (hn : dStt s ∉ ks) : HeldD (ks ++ [dStt s]) (zs ++ [z]) (l ++ [s]) := by
  refine ⟨by have := h.1; simp; omega, by have := h.2.1; simp; omega, fun t => ?_⟩
  rw [List.mem_append, List.mem_append, h.2.2 t, List.mem_singleton, List.mem_singleton]
  exact ⟨fun q => q.imp id dStt_inj, fun q => q.imp id fun e => by rw [e]⟩
theorem HeldD.again {ks zs : List D} {l : List Stt} {s : Stt} (h : HeldD ks zs l) (z : D) {n : Nat} (hn : ks[n]? = some (dStt s)) : HeldD ks (zs.set n z) (l ++ [s]) := by
  refine ⟨by have := h.1; simp; omega, by have := h.2.1; simp; omega, fun t => ?_⟩
  rw [h.2.2 t, List.mem_append, List.mem_singleton]
  refine ⟨.inl, fun q => q.elim id fun e => ?_⟩
  rw [e]
  exact (h.2.2 s).mp (List.mem_of_getElem? hn)
end Gh
namespace Gh
open PySem L2 Dl
variable [KOf]
theorem eqv_nilD (l : List D) : PyData.eqv (D.lst l).py (D.lst []).py = decide (l = []) := by
  cases l with
  | nil => simp [D.py, D.pys, PyData.eqv, PyData.eqvAll]
  | cons x r => simp [D.py, D.pys, PyData.eqv, PyData.eqvAll]
/-- xs == [] for lists of what can be laid -/
theorem eq_nilD {l : List D} {Φ : D → Prop} (hp : D.plains l = true) (hs : SeqAt.shaped (D.lst l).py = true) (h : Φ (.bl (decide (l = [])))) : wEqU (.lst l) (.lst []) Φ := by
  have e : eqS (.lst l) (.lst []) = none := rfl
  unfold wEqU
  rw [e]
  refine ⟨⟨by simpa [D.plain] using hp, by simp [D.plain, D.plains], hs, intsL_shaped []⟩, ?_⟩
  rw [eqv_nilD]
  exact h
theorem ne_nilD {l : List D} {Φ : D → Prop} (hp : D.plains l = true) (hs : SeqAt.shaped (D.lst l).py = true) (h : Φ (.bl (!decide (l = [])))) : wNeU (.lst l) (.lst []) Φ := by
  have e : eqS (.lst l) (.lst []) = none := rfl
  unfold wNeU
  rw [e]
  refine ⟨⟨by simpa [D.plain] using hp, by simp [D.plain, D.plains], hs, intsL_shaped []⟩, ?_⟩
  rw [eqv_nilD]
  exact h
theorem plains_of {l : List D} (h : ∀ x ∈ l, x.plain = true) : D.plains l = true := by
  induction l with
  | nil => simp [D.plains]
  | cons x r ih => simp [D.plains, h x (by simp), ih fun y hy => h y (by simp [hy])]
theorem lays_of {l : List D} (h : ∀ x ∈ l, PyData.canLay0 x.py = true) : PyData.canLayAll0 (D.pys l) = true := by
  induction l with
  | nil => simp [D.pys, PyData.canLayAll0]
  | cons x r ih => simp [D.pys, PyData.canLayAll0, h x (by simp), ih fun y hy => h y (by simp [hy])]
theorem depths_of {l : List D} {n : Nat} (h : ∀ x ∈ l, PyData.depth x.py ≤ n) : PyData.depthAll (D.pys l) ≤ n + 1 := by
  induction l with
  | nil => simp [D.pys, PyData.depthAll]
  | cons x r ih =>
    have h1 := h x (by simp)
    have h2 := ih fun y hy => h y (by simp [hy])
    simp only [D.pys, PyData.depthAll]
    omega
theorem dInts_plain (l : List Int) : (dInts l).plain = true := by simp [dInts, D.plain, ints_plain]
theorem dInts_lay (l : List Int) : PyData.canLay0 (dInts l).py = true := by simp [dInts, D.py, PyData.canLay0, ints_lay]
theorem dInts_depth (l : List Int) : PyData.depth (dInts l).py ≤ 1 := by simp [dInts, D.py, PyData.depth, ints_depth]
theorem dPart_plain (ps : List (List Int)) : (dPart ps).plain = true := by
  unfold dPart
  simp only [D.plain]
  exact plains_of fun x hx => by obtain ⟨l, _, rfl⟩ := List.mem_map.mp hx; exact dInts_plain l
theorem dPart_lay (ps : List (List Int)) : PyData.canLay0 (dPart ps).py = true := by
  unfold dPart
  simp only [D.py, PyData.canLay0]
  exact lays_of fun x hx => by obtain ⟨l, _, rfl⟩ := List.mem_map.mp hx; exact dInts_lay l
theorem dPart_depth (ps : List (List Int)) : PyData.depth (dPart ps).py ≤ 3 := by
  have := depths_of (l := ps.map dInts) (n := 1) fun x hx => by obtain ⟨l, _, rfl⟩ := List.mem_map.mp hx; exact dInts_depth l
  unfold dPart
  simp only [D.py, PyData.depth]
  omega
theorem dRoom_plain (r : PRoom) : (dRoom r).plain = true := by simp [dRoom, D.plain, D.plains, dPart_plain]
theorem dRoom_lay (r : PRoom) : PyData.canLay0 (dRoom r).py = true := by simp [dRoom, D.py, D.pys, PyData.canLay0, PyData.canLayAll0, dPart_lay]
theorem dRoom_depth (r : PRoom) : PyData.depth (dRoom r).py ≤ 5 := by
  have h1 := dPart_depth r.1
  have h2 := dPart_depth r.2
  simp only [dRoom, D.py, D.pys, PyData.depth, PyData.depthAll]
  omega
theorem rooms_shaped (rs : List PRoom) : SeqAt.shaped (D.lst (rs.map dRoom)).py = true := by
  have h1 := depths_of (l := rs.map dRoom) (n := 5) fun x hx => by obtain ⟨l, _, rfl⟩ := List.mem_map.mp hx; exact dRoom_depth l
  have h2 := lays_of (l := rs.map dRoom) fun x hx => by obtain ⟨l, _, rfl⟩ := List.mem_map.mp hx; exact dRoom_lay l
  simp only [SeqAt.shaped, D.py, PyData.canLay0, PyData.depth, h2, Bool.true_and]
  exact decide_eq_true (by omega)
theorem rooms_plain (rs : List PRoom) : D.plains (rs.map dRoom) = true := plains_of fun x hx => by obtain ⟨l, _, rfl⟩ := List.mem_map.mp hx; exact dRoom_plain l
end Gh
namespace Gh
open PySem L2 Dl
variable [KOf]
def notInK (l : List Int) (ps : List (List Int)) (j : Nat) : Bool := !decide (l.getD j 0 ∈ ps.getD j [])
theorem rfilt_yes {q : Nat → Bool} {k : Nat} (h : q k = true) {β : Type} (f : Nat → β) : ((List.range k).filter q).map f ++ [f k] = ((List.range (k + 1)).filter q).map f := by
  rw [List.range_succ, List.filter_append, List.map_append]
  simp [h]
theorem rfilt_no {q : Nat → Bool} {k : Nat} (h : q k = false) {β : Type} (f : Nat → β) : ((List.range k).filter q).map f = ((List.range (k + 1)).filter q).map f := by
  rw [List.range_succ, List.filter_append, List.map_append]
  simp [h]
end Gh
namespace Gh
open PySem L2 Dl
variable [KOf]
/-! ### the law's walk over a room's states -/
def longS (f : Stt → Int → Stt) (l : List Stt) (p : List Int) : List Stt := l.flatMap fun s => p.map (f s)
def addB (s : Stt) (x : Int) : Stt := ⟨s.b ++ [x], []⟩
def addP (s : Stt) (x : Int) : Stt := ⟨s.b, s.p ++ [x]⟩
def foundA (r : PRoom) (i : Nat) : List Stt := (choicesM (r.1.take i)).map fun b => ⟨b, []⟩
def foundB (r : PRoom) (i : Nat) : List Stt := (choicesM r.1).flatMap fun b => (choicesM (r.2.take i)).map fun p => ⟨b, p⟩
theorem foundA_step {r : PRoom} {i : Nat} {p : List Int} (h : r.1[i]? = some p) : longS addB (foundA r i) p = foundA r (i + 1) := by
  unfold longS foundA
  rw [take_next' h, choicesM_snoc]
  unfold chM
  rw [List.flatMap_map, List.map_flatMap]
  congr 1
  funext row
  rw [List.map_map]
  rfl
theorem foundB_step {r : PRoom} {i : Nat} {p : List Int} (h : r.2[i]? = some p) : longS addP (foundB r i) p = foundB r (i + 1) := by
  unfold longS foundB
  rw [take_next' h, choicesM_snoc]
  unfold chM
  rw [List.flatMap_assoc]
  congr 1
  funext b
  rw [List.flatMap_map, List.map_flatMap]
  congr 1
  funext row
  rw [List.map_map]
  rfl
theorem foundB_0 (r : PRoom) : foundB r 0 = foundA r r.1.length := by
  unfold foundB foundA
  rw [List.take_length]
  show (choicesM r.1).flatMap (fun b => [(⟨b, []⟩ : Stt)]) = _
  induction choicesM r.1 with
  | nil => rfl
  | cons x l ih => rw [List.flatMap_cons, ih]; rfl
theorem foundB_all (r : PRoom) : foundB r r.2.length = statesR r := by
  unfold foundB statesR
  rw [List.take_length]
theorem foundA_len {g : Gt} {r : PRoom} (og : OkGate g) (o : OkRoom g r) (i : Nat) : (foundA r i).length ≤ 5000 := by
  unfold foundA
  rw [List.length_map, choicesM_len]
  exact Nat.le_trans (manyN_take (fun p hp => (o.ne p (.inl hp)).1) i) (o.small1 og).2.1
theorem foundB_len {g : Gt} {r : PRoom} (o : OkRoom g r) (i : Nat) : (foundB r i).length ≤ 5000 := by
  unfold foundB
  rw [flat_len (k := manyN (r.2.take i)) fun x _ => by rw [List.length_map, choicesM_len], choicesM_len]
  exact Nat.le_trans (Nat.mul_le_mul_left _ (manyN_take (fun p hp => (o.ne p (.inr hp)).1) i)) o.sz
theorem longS_len (f : Stt → Int → Stt) (l : List Stt) (p : List Int) : (longS f l p).length = l.length * p.length := flat_len fun x _ => List.length_map _
theorem longS_next {f : Stt → Int → Stt} {l : List Stt} {p : List Int} {k : Nat} {s : Stt} (h : l[k]? = some s) : longS f (l.take (k + 1)) p = longS f (l.take k) p ++ p.map (f s) := by
  unfold longS
  rw [take_next' h, List.flatMap_append]
  simp
theorem longS_le {f : Stt → Int → Stt} {l : List Stt} {p : List Int} (k : Nat) : (longS f (l.take k) p).length ≤ (longS f l p).length := by
  rw [longS_len, longS_len, List.length_take]
  exact Nat.mul_le_mul_right _ (Nat.min_le_right _ _)
theorem foundA_row {r : PRoom} {i : Nat} {s : Stt} (h : s ∈ foundA r i) : s.b.length ≤ r.1.length ∧ s.p = [] := by
  obtain ⟨b, hb, rfl⟩ := List.mem_map.mp h
  have := ((mem_choices _ b).mp hb).1
  rw [List.length_take] at this
  exact ⟨by show b.length ≤ _; omega, rfl⟩
theorem foundB_row {r : PRoom} {i : Nat} {s : Stt} (h : s ∈ foundB r i) : s.b.length ≤ r.1.length ∧ s.p.length ≤ r.2.length := by
  obtain ⟨b, hb, hs⟩ := List.mem_flatMap.mp h
  obtain ⟨p, hp, rfl⟩ := List.mem_map.mp hs
  have h1 := ((mem_choices _ b).mp hb).1
  have h2 := ((mem_choices _ p).mp hp).1
  rw [List.length_take] at h2
  exact ⟨by show b.length ≤ _; omega, by show p.length ≤ _; omega⟩
end Gh
namespace Gh
open PySem L2 Dl
variable [KOf]
theorem inRooms {g : Gt} {rs : List PRoom} {s : Stt} (os : OkStt g s) (hr : ∀ r ∈ rs, OkRoom g r) : rs.filter (isInR s) = [] ↔ s ∉ heldM rs := by
  rw [List.filter_eq_nil_iff]
  unfold heldM
  rw [List.mem_flatMap]
  constructor
  · rintro a ⟨r, h1, h2⟩
    exact a r h1 ((isInR_iff os (hr r h1)).mpr h2)
  · intro a r h1 h2
    exact a ⟨r, h1, (isInR_iff os (hr r h1)).mp h2⟩
theorem take_filter {α : Type} {l : List α} {q : α → Bool} {k : Nat} {x : α} (h : l[k]? = some x) : (l.take (k + 1)).filter q = (l.take k).filter q ++ (if q x = true then [x] else []) := by
  rw [take_next' h, List.filter_append]
  by_cases hq : q x = true
  · simp [hq]
  · simp [hq]
end Gh
namespace Gh
open PySem L2 Dl
variable [KOf]
def PartOk (ps : List (List Int)) (ns : List Nat) : Prop := ps.length = ns.length ∧ ∀ (i : Nat) (p : List Int) (n : Nat), ps[i]? = some p → ns[i]? = some n → p ≠ [] ∧ p.length ≤ n ∧ ∀ x ∈ p, 0 ≤ x ∧ x < n
theorem PartOk.many : ∀ {ps : List (List Int)} {ns : List Nat}, PartOk ps ns → manyN ps ≤ prodN ns
  | [], [], _ => Nat.le_refl _
  | [], _ :: _, h => by cases h.1
  | _ :: _, [], h => by cases h.1
  | p :: ps, n :: ns, h => Nat.mul_le_mul (h.2 0 p n rfl rfl).2.1 (PartOk.many ⟨Nat.succ.inj h.1, fun i q m e1 e2 => h.2 (i + 1) q m e1 e2⟩)
def boxNs (g : Gt) : List Nat := g.bs.map fun b => (b.2 + 1).toNat
def handNs (g : Gt) : List Nat := g.hs.map fun h => h.2.length
theorem okRoom_of {g : Gt} (og : OkGate g) (sz : szG g ≤ 5000) {r : PRoom} (h1 : PartOk r.1 (boxNs g)) (h2 : PartOk r.2 (handNs g)) : OkRoom g r := by
  have l1 : (boxNs g).length = g.bs.length := List.length_map _
  have l2 : (handNs g).length = g.hs.length := List.length_map _
  refine ⟨h1.1.trans l1, h2.1.trans l2, fun i p b e1 e2 x hx => ?_, fun i p h e1 e2 x hx => ?_, fun p hp => ?_, ?_⟩
  · have e3 : (boxNs g)[i]? = some (b.2 + 1).toNat := by unfold boxNs; rw [List.getElem?_map, e2]; rfl
    have := (h1.2 i p _ e1 e3).2.2 x hx
    have ob := og.bs.2.2 b (List.mem_of_getElem? e2)
    have := ob.1
    have := ob.2.1
    omega
  · have e3 : (handNs g)[i]? = some h.2.length := by unfold handNs; rw [List.getElem?_map, e2]; rfl
    exact (h2.2 i p _ e1 e3).2.2 x hx
  · rcases hp with hp | hp
    · obtain ⟨i, hi⟩ := List.getElem?_of_mem hp
      have hl : i < g.bs.length := by rw [← l1, ← h1.1]; exact (List.getElem?_eq_some_iff.mp hi).1
      have e3 : (boxNs g)[i]? = some (g.bs[i].2 + 1).toNat := by unfold boxNs; rw [List.getElem?_map, List.getElem?_eq_getElem hl]; rfl
      obtain ⟨a1, a2, _⟩ := h1.2 i p _ hi e3
      have := (og.bs.2.2 _ (List.getElem_mem hl)).2.2
      exact ⟨a1, by omega⟩
    · obtain ⟨i, hi⟩ := List.getElem?_of_mem hp
      have hl : i < g.hs.length := by rw [← l2, ← h2.1]; exact (List.getElem?_eq_some_iff.mp hi).1
      have e3 : (handNs g)[i]? = some g.hs[i].2.length := by unfold handNs; rw [List.getElem?_map, List.getElem?_eq_getElem hl]; rfl
      obtain ⟨a1, a2, _⟩ := h2.2 i p _ hi e3
      have := (og.hs _ (List.getElem_mem hl)).len24
      exact ⟨a1, by omega⟩
  · exact Nat.le_trans (Nat.mul_le_mul h1.many h2.many) sz
def upTo (n : Nat) : List Int := (List.range n).map fun (i : Nat) => (i : Int)
theorem upTo_D (n : Nat) : (upTo n).map D.int = rangeD 0 n := by
  unfold upTo rangeD
  rw [List.map_map]
  congr 1
  funext i
  show D.int (i : Int) = D.int (0 + (i : Int))
  rw [Int.zero_add]
theorem upTo_in {n : Nat} {x : Int} (h : x ∈ upTo n) : 0 ≤ x ∧ x < n := by
  obtain ⟨i, hi, rfl⟩ := List.mem_map.mp h
  have := List.mem_range.mp hi
  omega
theorem cut_last {α : Type} {xs : List α} (h : 1 ≤ xs.length) : cutG xs none (some (-1)) = xs.take (xs.length - 1) := by
  show (xs.drop 0).take ((if (-1 : Int) < 0 then ((-1 : Int) + (xs.length : Int)).toNat else min (-1 : Int).toNat xs.length) - 0) = _
  rw [if_pos (by decide), List.drop_zero]
  congr 1
  omega
theorem PartOk.setCut {ps : List (List Int)} {ns : List Nat} (o : PartOk ps ns) {k : Nat} {p : List Int} (hp : ps[k]? = some p) (h : 1 < p.length) : PartOk (ps.set k (p.take (p.length - 1))) ns := by
  refine ⟨by rw [List.length_set]; exact o.1, fun i q n e1 e2 => ?_⟩
  by_cases hk : k = i
  · subst hk
    rw [List.getElem?_set_self (List.getElem?_eq_some_iff.mp hp).1] at e1
    cases e1
    obtain ⟨a1, a2, a3⟩ := o.2 k p n hp e2
    refine ⟨fun z => ?_, by rw [List.length_take]; omega, fun x hx => a3 x (List.mem_of_mem_take hx)⟩
    have := congrArg List.length z
    rw [List.length_take] at this
    simp at this
    omega
  · rw [List.getElem?_set_ne hk] at e1
    exact o.2 i q n e1 e2
theorem PartOk.snoc {ps : List (List Int)} {ns : List Nat} {k n : Nat} {p : List Int} (o : PartOk ps (ns.take k)) (hn : ns[k]? = some n) (hp : p ≠ [] ∧ p.length ≤ n ∧ ∀ x ∈ p, 0 ≤ x ∧ x < n) : PartOk (ps ++ [p]) (ns.take (k + 1)) := by
  rw [take_next' hn]
  have hl := o.1
  refine ⟨by rw [List.length_append, List.length_append, hl]; rfl, fun i q m e1 e2 => ?_⟩
  rcases snoc_at e1 with y | ⟨y, y2⟩
  · have hi : i < ps.length := (List.getElem?_eq_some_iff.mp y).1
    rw [List.getElem?_append_left (by omega)] at e2
    exact o.2 i q m y e2
  · subst y y2
    rw [hl, List.getElem?_append_right (Nat.le_refl _), Nat.sub_self] at e2
    cases e2
    exact hp
end Gh
namespace Gh
theorem bothR {α : Type} {Q P G T : α → Prop} (h1 : ∀ x, Q x → P x → (∀ y, P y → G y) → T x) (h2 : ∀ x, P x → G x) : ∀ x, Q x → P x → T x := fun x q h => h1 x q h h2
/-- one thing for all leaves: what it is, the first leaf tells -/
theorem both {α : Type} {P G T : α → Prop} (h1 : ∀ x, P x → (∀ y, P y → G y) → T x) (h2 : ∀ x, P x → G x) : ∀ x, P x → T x := fun x h => h1 x h h2
end Gh
namespace Gh
open PySem L2 Dl
variable [KOf]
/-! ### papers and the map -/
theorem cut_take {α : Type} {xs : List α} {n : Nat} : cutG xs none (some (n : Int)) = xs.take n := by
  show (xs.drop 0).take ((if (n : Int) < 0 then ((n : Int) + (xs.length : Int)).toNat else min (n : Int).toNat xs.length) - 0) = _
  rw [if_neg (by omega), List.drop_zero, Nat.sub_zero, Int.toNat_natCast]
  rcases Nat.le_total n xs.length with h | h
  · rw [Nat.min_eq_left h]
  · rw [Nat.min_eq_right h, List.take_of_length_le (Nat.le_refl _), List.take_of_length_le h]
theorem prodN_take {l : List Nat} (h : ∀ x ∈ l, 1 ≤ x) : ∀ n, prodN (l.take n) ≤ prodN l := by
  induction l with
  | nil => intro n; simp
  | cons x l ih =>
    intro n
    have hx := h x (by simp)
    have ih := ih fun y hy => h y (by simp [hy])
    cases n with
    | zero =>
      have : ∀ l : List Nat, (∀ y ∈ l, 1 ≤ y) → 1 ≤ prodN l := fun l => by
        induction l with
        | nil => intro _; exact Nat.le_refl _
        | cons a l ih => exact fun h => Nat.mul_pos (h a (by simp)) (ih fun y hy => h y (by simp [hy]))
      exact this (x :: l) h
    | succ n => exact Nat.mul_le_mul_left x (ih n)
def firstTwo (g : Gt) : Gt := ⟨g.bs, g.hs.take 2⟩
theorem firstTwo_ok {g : Gt} (og : OkGate g) (sz : szG g ≤ 5000) : OkGate (firstTwo g) ∧ szG (firstTwo g) ≤ 5000 := by
  have h1 := og.h1
  have h4 := og.h4
  refine ⟨⟨og.bs, by show 1 ≤ (g.hs.take 2).length; rw [List.length_take]; omega, by show (g.hs.take 2).length ≤ 4; rw [List.length_take]; omega, fun h hh => og.hs h (List.mem_of_mem_take hh)⟩, ?_⟩
  refine Nat.le_trans (Nat.mul_le_mul_left _ ?_) sz
  show prodN ((g.hs.take 2).map fun h => h.2.length) ≤ _
  rw [List.map_take]
  refine prodN_take (fun x hx => ?_) 2
  obtain ⟨h, hh, rfl⟩ := List.mem_map.mp hx
  have := (og.hs h hh).len2
  omega
theorem firstTwo_D {g : Gt} : D.tup [dBoxes g.bs, .lst (cutG (g.hs.map dHand) none (some 2))] = dGate (firstTwo g) := by
  have : cutG (g.hs.map dHand) none (some 2) = (g.hs.take 2).map dHand := by
    rw [show (some (2 : Int)) = some ((2 : Nat) : Int) from rfl, cut_take, List.map_take]
  rw [this]
  rfl
theorem map_closed {g : Gt} {m : MM} (w : Wf g m) (hc : m.rows.length = m.st.length) {s : Stt} (hs : s ∈ m.st) {h : Nat} (hh : h < g.hs.length) : doneM g s h ∈ m.st := by
  obtain ⟨a, ha⟩ := List.getElem?_of_mem hs
  have hal : a < m.rows.length := by rw [hc]; exact (List.getElem?_eq_some_iff.mp ha).1
  obtain ⟨hl, ro⟩ := w.rw a m.rows[a] (List.getElem?_eq_getElem hal)
  obtain ⟨s', e1, e2⟩ := ro h m.rows[a][h] (List.getElem?_eq_getElem (by omega))
  rw [ha] at e1
  cases e1
  exact List.mem_of_getElem? e2
theorem map_held {g : Gt} {m : MM} (w : Wf g m) {rs : List PRoom} (k : Kept' g rs) : ∀ (i : Nat) (s : Stt), m.st[i]? = some s → s ∈ heldM rs := by
  intro i
  induction i using Nat.strongRecOn with
  | ind i ih =>
    intro s hs
    rcases Nat.eq_zero_or_pos i with h0 | h0
    · subst h0
      rw [w.s.s0] at hs
      cases hs
      exact k.b
    · obtain ⟨a, h, t, e1, e2, e3, e4, e5⟩ := w.s.rs i h0 (List.getElem?_eq_some_iff.mp hs).1
      rw [hs] at e5
      cases e5
      exact k.l t (ih a e2 t e4) h e3
theorem filter_le {q r : Nat → Bool} {n : Nat} (h : ∀ i, i < n → q i = true → r i = true) : ((List.range n).filter q).length ≤ ((List.range n).filter r).length := by
  rw [← List.countP_eq_length_filter, ← List.countP_eq_length_filter]
  exact List.countP_mono_left fun i hi e => h i (List.mem_range.mp hi) e
theorem handsD_filter {q : Hand → Int → Bool} {g : Gt} {s : Stt} {n : Nat} : (handsD q g s n).length = ((List.range n).filter (atB q g s)).length := by
  unfold handsD
  rw [List.length_map]
theorem two_room {g : Gt} {r : PRoom} {s : Stt} (h : s ∈ statesR r) (t : twoR g r = false) : twoAt g s = false := by
  unfold twoR at t
  unfold twoAt
  rw [handsD_filter]
  have t := of_decide_eq_false t
  refine decide_eq_false fun z => t (Nat.le_trans z (filter_le fun i hi e => ?_))
  unfold atB at e
  unfold roomIn
  split at e
  · rename_i h' x e1 e2
    obtain ⟨_, hp⟩ := mem_statesR.mp h
    obtain ⟨hl, hm⟩ := (mem_choices _ _).mp hp
    obtain ⟨p, hp'⟩ : ∃ p, r.2[i]? = some p := ⟨_, List.getElem?_eq_getElem (by rw [← hl]; exact (List.getElem?_eq_some_iff.mp e2).1)⟩
    rw [e1, hp']
    have : x = inAt h' := of_decide_eq_true e
    subst this
    exact decide_eq_true (hm i _ p e2 hp')
  · cases e
theorem choices_one : ∀ l : List Int, choicesM (l.map fun x => [x]) = [l] := by
  intro l
  induction l using snocInd with
  | h0 => rfl
  | h1 l x ih =>
    rw [List.map_append]
    show choicesM (_ ++ [[x]]) = _
    rw [choicesM_snoc, ih]
    rfl
theorem statesR_one (s : Stt) : statesR (roomOf s) = [s] := by
  unfold statesR roomOf
  rw [choices_one, choices_one]
  rfl
theorem manyN_one : ∀ l : List Int, manyN (l.map fun x => [x]) = 1
  | [] => rfl
  | x :: l => by
    show 1 * manyN (l.map fun x => [x]) = 1
    rw [manyN_one l]
theorem roomOf_ok {g : Gt} {s : Stt} (os : OkStt g s) : OkRoom g (roomOf s) := by
  refine ⟨by show (s.b.map _).length = _; rw [List.length_map]; exact os.lb, by show (s.p.map _).length = _; rw [List.length_map]; exact os.lp, fun i p b e1 e2 x hx => ?_, fun i p h e1 e2 x hx => ?_, fun p hp => ?_, ?_⟩
  · obtain ⟨y, hy, rfl⟩ := map_at e1
    rw [List.mem_singleton.mp hx]
    exact os.bx i y b hy e2
  · obtain ⟨y, hy, rfl⟩ := map_at e1
    rw [List.mem_singleton.mp hx]
    exact os.pl i y h hy e2
  · rcases hp with hp | hp
    · obtain ⟨y, _, rfl⟩ := List.mem_map.mp hp
      exact ⟨by simp, by simp⟩
    · obtain ⟨y, _, rfl⟩ := List.mem_map.mp hp
      exact ⟨by simp, by simp⟩
  · show manyN (s.b.map _) * manyN (s.p.map _) ≤ 5000
    rw [manyN_one, manyN_one]
    decide
theorem held_map (l : List Stt) : heldM (l.map roomOf) = l := by
  unfold heldM
  induction l with
  | nil => rfl
  | cons s l ih => rw [List.map_cons, List.flatMap_cons, ih, statesR_one]; rfl
theorem twoR_one {g : Gt} {s : Stt} (os : OkStt g s) : twoR g (roomOf s) = twoAt g s := by
  unfold twoR twoAt
  rw [handsD_filter]
  have e : (List.range g.hs.length).filter (roomIn g (roomOf s)) = (List.range g.hs.length).filter (atB isIn g s) := by
    refine List.filter_congr fun i hi => ?_
    have hi := List.mem_range.mp hi
    unfold roomIn atB
    have e2 : (roomOf s).2[i]? = (s.p[i]?).map fun x => [x] := List.getElem?_map ..
    rw [e2, List.getElem?_eq_getElem hi, List.getElem?_eq_getElem (show i < s.p.length by rw [os.lp]; exact hi)]
    show decide _ = decide _
    refine decide_eq_decide.mpr ?_
    rw [List.mem_singleton]
    exact eq_comm
  rw [e]
theorem paper_kept {g : Gt} {m : MM} (w : Wf g m) (hc : m.rows.length = m.st.length) (hn : m.st.findIdx? (twoAt g) = none) : Kept' g (m.st.map roomOf) := by
  refine ⟨?_, fun r hr => ?_, fun s hs h hh => ?_⟩
  · rw [held_map]
    exact List.mem_of_getElem? w.s.s0
  · obtain ⟨s, hs, rfl⟩ := List.mem_map.mp hr
    rw [twoR_one (w.s.ok s hs)]
    exact List.findIdx?_eq_none_iff.mp hn s hs
  · rw [held_map] at hs ⊢
    exact map_closed w hc hs hh
theorem Kept'.mem {g : Gt} {rs rs' : List PRoom} (k : Kept' g rs) (h : ∀ r, r ∈ rs' ↔ r ∈ rs) : Kept' g rs' := by
  have hm : ∀ s, s ∈ heldM rs' ↔ s ∈ heldM rs := fun s => by
    unfold heldM
    rw [List.mem_flatMap, List.mem_flatMap]
    exact ⟨fun ⟨r, a, b⟩ => ⟨r, (h r).mp a, b⟩, fun ⟨r, a, b⟩ => ⟨r, (h r).mpr a, b⟩⟩
  exact ⟨(hm _).mpr k.b, fun r hr => k.t r ((h r).mp hr), fun s hs h hh => (hm _).mpr (k.l s ((hm s).mp hs) h hh)⟩
def RoomsOk (g : Gt) (rs : List PRoom) : Prop := (∀ r ∈ rs, OkRoom g r) ∧ (heldM rs).length < 90000 ∧ rs.length < 90000
theorem held_len {g : Gt} {rs : List PRoom} (h : ∀ r ∈ rs, OkRoom g r) : (heldM rs).length ≤ rs.length * 5000 := by
  unfold heldM
  induction rs with
  | nil => simp
  | cons r rs ih =>
    have := ih fun r hr => h r (by simp [hr])
    have h2 := (h r (by simp)).sz
    rw [List.flatMap_cons, List.length_append, statesR_len, List.length_cons, Nat.succ_mul]
    omega
theorem held_ones {l : List Stt} {rs : List PRoom} (h : ∀ r ∈ rs, r ∈ l.map roomOf) : (heldM rs).length = rs.length := by
  unfold heldM
  rw [flat_len (k := 1) fun r hr => ?_, Nat.mul_one]
  obtain ⟨s, _, rfl⟩ := List.mem_map.mp (h r hr)
  rw [statesR_one]
  rfl
end Gh

/-! f'..' over data. -/
namespace Dl
open PySem PySem.Spec PyProof.Rows L2
variable [KOf]
abbrev WJ := Env → Str → (Str → Prop) → Prop
structure DJ (X : Cx) (E : XK) (es : List Expr) (ts : List TE) (w : WJ) : Prop where
  p : PJ X es ts
  a : ∀ (δ : Option Addr) (M : List Addr) (σ : L2.St) (H : Hp) (ρ : Env), RE δ M H E σ ρ → ∀ (acc : Str) (Φ : Str → Prop) (Q : Str → Hp → Prop), w ρ acc Φ → (∀ out H', Ext δ H H' → Φ out → Q out H') → tJs ts acc σ H Q
def wjNil : WJ := fun _ acc Φ => Φ acc
def wjC (x : Str) (w : WJ) : WJ := fun ρ acc Φ => (acc ++ x).length ≤ 100000 ∧ w ρ (acc ++ x) Φ
def wjF (we : WE) (w : WJ) : WJ := fun ρ acc Φ => we ρ fun d => match d with
  | .int i => i.natAbs ≤ 1000000 ∧ (acc ++ toString i).length ≤ 100000 ∧ w ρ (acc ++ toString i) Φ
  | .str y => y.length ≤ 100000 ∧ (acc ++ y).length ≤ 100000 ∧ w ρ (acc ++ y) Φ
  | _ => False
section
variable {X : Cx} {E : XK} {e : Expr} {es : List Expr} {te : TE} {ts : List TE} {we : WE} {w : WJ} {x : Str} {j : Nat} {pos p : Pos}
theorem dj_nil : DJ X E [] [] wjNil := ⟨.nil, fun δ M σ H ρ R acc Φ Q h k => k acc H (Ext.refl H) h⟩
theorem dj_c (h : DJ X E es ts w) : DJ X E (.Constant (.str x) j p :: es) (tC (.str x) :: ts) (wjC x w) :=
  ⟨.cons pe_str h.p, fun δ M σ H ρ R acc Φ Q hw k => ⟨x, rfl, sz_of hw.1, h.a δ M σ H ρ R (acc ++ x) Φ Q hw.2 k⟩⟩
theorem log_small {i : Int} (h : i.natAbs ≤ 1000000) : i.natAbs.log2 < 1920 := by
  have := Nat.log2_le_self i.natAbs
  rcases Nat.lt_or_ge i.natAbs.log2 1920 with q | q
  · exact q
  · exfalso
    have h2 : i.natAbs < 2 ^ 20 := by omega
    have h0 : i.natAbs ≠ 0 := fun z => by rw [z] at q; simp at q
    have := (Nat.log2_lt h0).mpr h2
    omega
theorem dj_f (he : DE X E e te we) (h : DJ X E es ts w) : DJ X E (.FormattedValue e (-1) none p :: es) (tFmt te :: ts) (wjF we w) := by
  refine ⟨.cons (pe_fmt he.p) h.p, fun δ M σ H ρ R acc Φ Q hw k => ?_⟩
  refine he.a δ M σ H ρ R _ _ hw fun v H1 d e1 r1 h1 => ?_
  cases r1 <;> first | exact False.elim h1 | skip
  · rename_i i
    exact .inr ⟨i, rfl, log_small h1.1, toString i, rfl, sz_of h1.2.1, h.a δ M σ H1 ρ (R.ext e1) _ Φ Q h1.2.2 fun out H2 e2 h2 => k out H2 (e1.trans e2) h2⟩
  · rename_i y
    exact .inl ⟨y, rfl, sz_of h1.1, y, rfl, sz_of h1.2.1, h.a δ M σ H1 ρ (R.ext e1) _ Φ Q h1.2.2 fun out H2 e2 h2 => k out H2 (e1.trans e2) h2⟩
def wFs (w : WJ) : WE := fun ρ Φ => w ρ Str.empty fun x => Φ (.str x)
theorem de_fs {v1 v2 : Expr} {rest : List Expr} (h : DJ X E (v1 :: v2 :: rest) ts w) : DE X E (.JoinedStr (v1 :: v2 :: rest) pos) (fun σ H Q => tJs ts Str.empty σ H fun out H1 => Q (.str out) H1) (wFs w) :=
  ⟨pe_joined h.p, fun δ M σ H ρ R Φ Q hw k => h.a δ M σ H ρ R Str.empty _ _ hw fun out H1 e1 h1 => k (.str out) H1 (.str out) e1 (.str out) h1⟩
end
section
variable {X : Cx} {E : XK} {e : Expr} {te : TE} {w : WE} {pos pos' p : Pos} {x : Str} {C : Addr} {bmB : List Value} {B newId initId : String}
/-- raise X(e) -/
theorem ds_raiseA (hc : X.calm = true) (tk : L2N.Takes X (fun cls d _ H => E cls d H)) (F : ExcBaseFacts B newId initId bmB) (q : PySem.W.excIn X.K C bmB newId = true) (gC : X.mg x = some (.ref C)) (kC : PySem.W.keepIn X.K (.ref C) = true) (r : Raises X (.ref C)) (hg : Gl X x)
    (he : DE X E e te w) (hs : starEach [e] X.env = (false, eval e X.env) :: starEach [] X.env := by rfl) (hdb : (x == ("__debug__" : Str)) = false := by decide) :
    DS X E (.Raise (some (.Call (.Name x p) [e] [] pos)) none pos') (fun _ σ H => te σ H fun _ H1 => E (.ref C) none H1) (wRaise1 C w) := ds_raise1 hc tk he.a (pmk_arg F q gC kC r hg he.p hs hdb)
end
end Dl

/-! Papers that are refused. -/
namespace Gh
open PySem L2 Dl
variable [KOf]
def SmallR (rs : List PRoom) : Prop := ∀ r ∈ rs, (∀ p, p ∈ r.1 ∨ p ∈ r.2 → p.length ≤ 100) ∧ manyN r.1 ≤ 1000000
def BigR (rs : List PRoom) : Prop := ∃ r ∈ rs, 5000 < roomN r
def PP_check_sizesX (aT : Addr) (ss : List S) (Φ : D → Prop) (Ψ : XD → Prop) : Prop := ∃ rs : List PRoom, ss = [.d (dRooms rs)] ∧ SmallR rs ∧ (¬ BigR rs → Φ .non) ∧ (BigR rs → Ψ ⟨.ref aT, none⟩)
def PP_faultX (C aT : Addr) (ss : List S) (Φ : D → Prop) (Ψ : XD → Prop) : Prop := ∃ g rs, ss = [.d (dObj C g), .d (dRooms rs)] ∧ SmallR rs ∧ BigR rs ∧ Ψ ⟨.ref aT, none⟩
def P_some (ss : List S) (Φ : D → Prop) : Prop := ∃ m : Nat, ss = [.dice, .d (.int m)] ∧ 1 ≤ m ∧ m ≤ 1000 ∧ ∀ p : List Int, p ≠ [] ∧ p.length ≤ m ∧ (∀ x ∈ p, 0 ≤ x ∧ x < m) → Φ (dInts p)
def P_room (ss : List S) (Φ : D → Prop) : Prop := ∃ g, ss = [.dice, .d (dGate g)] ∧ OkGate g ∧ ∀ r : PRoom, PartOk r.1 (boxNs g) → PartOk r.2 (handNs g) → Φ (dRoom r)
def P_wide (ss : List S) (Φ : D → Prop) : Prop := ∃ g, ∃ i : Nat, ss = [.d (dGate g), .d (.int i)] ∧ OkGate g ∧ ∀ r : PRoom, PartOk r.1 (boxNs g) → PartOk r.2 (handNs g) → Φ (dRoom r)
def P_full (ss : List S) (Φ : D → Prop) : Prop := ss = [.dice] ∧ Φ (.bl true)
end Gh
namespace Gh
open PySem L2 Dl
variable [KOf]
theorem eq_nilT {l : List Int} {Φ : D → Prop} (h : Φ (.bl (decide (l = [])))) : wEqU (.tup (l.map .int)) (.tup []) Φ := by
  have e : eqS (.tup (l.map .int)) (.tup []) = none := rfl
  have e2 : PyData.eqv (D.tup (l.map .int)).py (D.tup []).py = decide (l = []) := by
    cases l with
    | nil => simp [D.py, D.pys, PyData.eqv, PyData.eqvAll]
    | cons x r => simp [D.py, D.pys, PyData.eqv, PyData.eqvAll]
  have sh : ∀ l : List Int, SeqAt.shaped (D.tup (l.map .int)).py = true := fun l => by
    simp only [SeqAt.shaped, D.py, PyData.canLay0, PyData.depth, ints_lay, ints_depth, Bool.true_and]
    decide
  unfold wEqU
  rw [e]
  refine ⟨⟨by simp [D.plain, ints_plain], by simp [D.plain, D.plains], sh l, sh []⟩, ?_⟩
  rw [e2]
  exact h
/-! ### the room of all states -/
def fullR (g : Gt) : PRoom := ((boxNs g).map upTo, (handNs g).map upTo)
theorem upTo_len (n : Nat) : (upTo n).length = n := by unfold upTo; rw [List.length_map, List.length_range]
theorem partOk_upTo {ns : List Nat} (h : ∀ n ∈ ns, 1 ≤ n) : PartOk (ns.map upTo) ns := by
  refine ⟨List.length_map _, fun i q n e1 e2 => ?_⟩
  rw [List.getElem?_map, e2] at e1
  cases e1
  have hn := h n (List.mem_of_getElem? e2)
  refine ⟨fun z => ?_, by rw [upTo_len]; exact Nat.le_refl _, fun x hx => upTo_in hx⟩
  have := congrArg List.length z
  rw [upTo_len] at this
  simp at this
  omega
theorem boxNs_pos {g : Gt} (og : OkGate g) : ∀ n ∈ boxNs g, 1 ≤ n := fun n hn => by
  unfold boxNs at hn
  obtain ⟨b, hb, rfl⟩ := List.mem_map.mp hn
  have ob := og.bs.2.2 b hb
  have := ob.1
  have := ob.2.1
  omega
theorem handNs_pos {g : Gt} (og : OkGate g) : ∀ n ∈ handNs g, 1 ≤ n := fun n hn => by
  unfold handNs at hn
  obtain ⟨h, hh, rfl⟩ := List.mem_map.mp hn
  have := (og.hs h hh).len2
  omega
theorem full_ok {g : Gt} (og : OkGate g) (sz : szG g ≤ 5000) : OkRoom g (fullR g) := okRoom_of og sz (partOk_upTo (boxNs_pos og)) (partOk_upTo (handNs_pos og))
theorem mem_upTo {n : Nat} {x : Int} (h0 : 0 ≤ x) (h1 : x < n) : x ∈ upTo n := List.mem_map.mpr ⟨x.toNat, List.mem_range.mpr (by omega), by omega⟩
theorem full_mem {g : Gt} {s : Stt} (og : OkGate g) (os : OkStt g s) : s ∈ statesR (fullR g) := by
  refine mem_statesR.mpr ⟨(mem_choices _ _).mpr ⟨?_, fun i y p e1 e2 => ?_⟩, (mem_choices _ _).mpr ⟨?_, fun i y p e1 e2 => ?_⟩⟩
  · show s.b.length = ((boxNs g).map upTo).length
    unfold boxNs
    rw [List.length_map, List.length_map]
    exact os.lb
  · obtain ⟨n, hn, rfl⟩ := map_at e2
    unfold boxNs at hn
    obtain ⟨b, hb, rfl⟩ := map_at hn
    have := os.bx i y b e1 hb
    exact mem_upTo this.1 (by omega)
  · show s.p.length = ((handNs g).map upTo).length
    unfold handNs
    rw [List.length_map, List.length_map]
    exact os.lp
  · obtain ⟨n, hn, rfl⟩ := map_at e2
    unfold handNs at hn
    obtain ⟨h, hh, rfl⟩ := map_at hn
    have := os.pl i y h e1 hh
    exact mem_upTo this.1 this.2
theorem full_kept {g : Gt} (og : OkGate g) (sz : szG g ≤ 5000) (h1 : g.hs.length = 1) : faultM g [fullR g] = none := by
  have hm : ∀ s, OkStt g s → s ∈ heldM [fullR g] := fun s os => List.mem_flatMap.mpr ⟨_, List.mem_singleton.mpr rfl, full_mem og os⟩
  refine faultM_none.mpr ⟨hm _ (begM_ok og), fun r hr => ?_, fun s hs h hh => hm _ (doneM_ok og ?_)⟩
  · unfold twoR
    rw [h1]
    refine decide_eq_false fun z => ?_
    have := List.length_filter_le (roomIn g r) (List.range 1)
    rw [List.length_range] at this
    omega
  · obtain ⟨r, hr, hsr⟩ := List.mem_flatMap.mp hs
    rw [List.mem_singleton.mp hr] at hsr
    exact statesR_ok (full_ok og sz) hsr
def fullG (n : Int) : Gt := ⟨[(0, 9), (0, 9), (0, 9)], [(1, [.put 0 (1 + n), .go 1 [2] 3, .put 2 3, .inn, .go 0 [] 1])]⟩
theorem fullG_ok {n : Int} (h0 : 0 ≤ n) (h1 : n < 9) : OkGate (fullG n) ∧ szG (fullG n) ≤ 5000 := by
  have cs : n = 0 ∨ n = 1 ∨ n = 2 ∨ n = 3 ∨ n = 4 ∨ n = 5 ∨ n = 6 ∨ n = 7 ∨ n = 8 := by omega
  refine ⟨⟨⟨(by show 1 ≤ 3; decide), (by show 3 ≤ 12; decide), fun b hb => ?_⟩, by show 1 ≤ 1; decide, by show 1 ≤ 4; decide, fun h hh => ?_⟩, by show 1000 * 5 ≤ 5000; decide⟩
  · have : b = (0, 9) := by
      rcases List.mem_cons.mp hb with z | hb
      · exact z
      rcases List.mem_cons.mp hb with z | hb
      · exact z
      exact List.mem_singleton.mp hb
    rw [this]
    exact ⟨by decide, by decide, by decide⟩
  · rw [List.mem_singleton.mp hh]
    rcases cs with rfl | rfl | rfl | rfl | rfl | rfl | rfl | rfl | rfl <;> exact okHandB_ok (i := 3) (by decide +kernel)
def greatG : Gt := ⟨[(0, 9), (0, 9), (0, 9), (0, 9)], [(1, [.put 0 0, .inn])]⟩
theorem greatG_ok : OkGate greatG := by
  refine ⟨⟨by decide, by decide, fun b hb => ?_⟩, by decide, by decide, fun h hh => ?_⟩
  · have : b = (0, 9) := by
      rcases List.mem_cons.mp hb with z | hb
      · exact z
      rcases List.mem_cons.mp hb with z | hb
      · exact z
      rcases List.mem_cons.mp hb with z | hb
      · exact z
      exact List.mem_singleton.mp hb
    rw [this]
    exact ⟨by decide, by decide, by decide⟩
  · rw [List.mem_singleton.mp hh]
    exact okHandB_ok (i := 1) (by decide +kernel)
def bigR : PRoom := ([upTo 10, upTo 10, upTo 10, upTo 10], [[0, 1]])
def oneR : PRoom := ([[0], [0], [0], [0]], [[0]])
theorem great_rooms (k : Nat) : SmallR (List.replicate k oneR ++ [bigR]) ∧ BigR (List.replicate k oneR ++ [bigR]) := by
  refine ⟨fun r hr => ?_, bigR, by simp, by decide +kernel⟩
  rcases List.mem_append.mp hr with z | z
  · rw [List.eq_of_mem_replicate z]
    refine ⟨fun p hp => ?_, by decide +kernel⟩
    have : ∀ p ∈ oneR.1 ++ oneR.2, p.length ≤ 100 := by decide +kernel
    exact this p (List.mem_append.mpr hp)
  · rw [List.mem_singleton.mp z]
    refine ⟨fun p hp => ?_, by decide +kernel⟩
    have : ∀ p ∈ bigR.1 ++ bigR.2, p.length ≤ 100 := by decide +kernel
    exact this p (List.mem_append.mpr hp)
end Gh
namespace Gh
open PySem L2 Dl
theorem rep_flat {α : Type} (x : α) : ∀ k : Nat, (List.replicate k [x]).flatten = List.replicate k x
  | 0 => rfl
  | k + 1 => by
    rw [List.replicate_succ, List.flatten_cons, rep_flat x k]
    rfl
end Gh
namespace Gh
open PySem L2 Dl
variable [KOf]
mutual
theorem eqv_refl : ∀ {d : D}, d.plain = true → PyData.eqv d.py d.py = true
  | .non, _ => by simp [D.py, PyData.eqv]
  | .bl b, _ => by simp [D.py, PyData.eqv]
  | .int i, _ => by simp [D.py, PyData.eqv]
  | .str x, _ => by simp [D.py, PyData.eqv]
  | .lst xs, h => by
    simp only [D.plain] at h
    simp only [D.py, PyData.eqv]
    exact eqvs_refl h
  | .tup xs, h => by
    simp only [D.plain] at h
    simp only [D.py, PyData.eqv]
    exact eqvs_refl h
  | .obj _ _ _, h => by simp [D.plain] at h
  | .dcI _ _, h => by simp [D.plain] at h
  | .dcT _ _, h => by simp [D.plain] at h
  | .raw _, h => by simp [D.plain] at h
theorem eqvs_refl : ∀ {l : List D}, D.plains l = true → PyData.eqvAll (D.pys l) (D.pys l) = true
  | [], _ => by simp [D.pys, PyData.eqvAll]
  | x :: l, h => by
    simp only [D.plains, Bool.and_eq_true] at h
    simp only [D.pys, PyData.eqvAll, Bool.and_eq_true]
    exact ⟨eqv_refl h.1, eqvs_refl h.2⟩
end
theorem neSelf {l : List D} {Φ : D → Prop} (hp : D.plains l = true) (hs : SeqAt.shaped (D.lst l).py = true) (h : Φ (.bl false)) : wNeU (.lst l) (.lst l) Φ := by
  have e : eqS (.lst l) (.lst l) = none := rfl
  have hp' : (D.lst l).plain = true := by simpa [D.plain] using hp
  unfold wNeU
  rw [e]
  refine ⟨⟨hp', hp', hs, hs⟩, ?_⟩
  rw [eqv_refl hp']
  exact h
theorem outR_in {g : Gt} {held ss : List Stt} {x : Stt × Nat} (h : outR g held ss = some x) : x.1 ∈ ss := by
  unfold outR at h
  obtain ⟨s, hs, e⟩ := List.exists_of_findSome?_eq_some h
  obtain ⟨h', _, rfl⟩ := Option.map_eq_some_iff.mp e
  exact hs
theorem leavesM_in {g : Gt} {held : List Stt} : ∀ {rs : List PRoom} {n : Nat} {f : Flt}, leavesM g held rs n = some f → ∃ m s h, f = .leaves m s h ∧ ∃ r ∈ rs, s ∈ statesR r
  | [], _, _, h => by simp [leavesM] at h
  | r :: rs, n, f, h => by
    unfold leavesM at h
    cases e : outR g held (statesR r) with
    | some x =>
      rw [e] at h
      cases h
      exact ⟨n, x.1, x.2, rfl, r, by simp, outR_in e⟩
    | none =>
      rw [e] at h
      obtain ⟨m, s, k, e1, r', hr', hs⟩ := leavesM_in h
      exact ⟨m, s, k, e1, r', by simp [hr'], hs⟩
theorem lvFlt {g : Gt} {rs : List PRoom} (og : OkGate g) (hr : ∀ r ∈ rs, OkRoom g r) : Lv 6 (dFlt (faultM g rs)) := by
  unfold faultM
  by_cases hb : begM g ∈ heldM rs
  · rw [if_pos hb]
    cases e : rs.findIdx? (twoR g) with
    | some n =>
      refine ⟨by show 2 < 100000; omega, fun x hx => ?_⟩
      rcases List.mem_cons.mp hx with rfl | hx
      · exact trivial
      rw [List.mem_singleton.mp hx]
      exact trivial
    | none =>
      show Lv 6 (dFlt (leavesM g (heldM rs) rs 0))
      cases e2 : leavesM g (heldM rs) rs 0 with
      | none => exact trivial
      | some f =>
        obtain ⟨m, s, h, rfl, r, hr', hs⟩ := leavesM_in e2
        have os := statesR_ok (hr r hr') hs
        refine ⟨by show 4 < 100000; omega, fun x hx => ?_⟩
        rcases List.mem_cons.mp hx with rfl | hx
        · exact trivial
        rcases List.mem_cons.mp hx with rfl | hx
        · exact trivial
        rcases List.mem_cons.mp hx with rfl | hx
        · exact lvS og os 2
        rw [List.mem_singleton.mp hx]
        exact trivial
  · rw [if_neg hb]
    refine ⟨by show 1 < 100000; omega, fun x hx => ?_⟩
    rw [List.mem_singleton.mp hx]
    exact trivial
def GOk (g : Gt) : Prop := OkGate g ∧ szG g ≤ 5000
def RsOk (g : Gt) (n : Nat) (rs : List PRoom) : Prop := (∀ r ∈ rs, OkRoom g r) ∧ rs.length ≤ n
end Gh
namespace Dl
open PySem L2
variable [KOf]
/-! the words of a goal, one by one (where unification would open the wrong one first) -/
theorem i_or {va vb : WT} {ρ : Env} {Φ : Bool → Prop} (h : va ρ fun k => if k = true then Φ true else vb ρ Φ) : wOr va vb ρ Φ := h
theorem i_and {va vb : WT} {ρ : Env} {Φ : Bool → Prop} (h : va ρ fun k => if k = true then vb ρ Φ else Φ false) : wAnd va vb ρ Φ := h
theorem i_test {w : WE} {ρ : Env} {Φ : Bool → Prop} (h : w ρ fun d => match d with
  | .bl k => Φ k
  | _ => False) : wTest w ρ Φ := h
theorem i_op {wr : WR} {wa wb : WE} {ρ : Env} {Φ : D → Prop} (h : wa ρ fun d => wb ρ fun f => wr d f Φ) : wOp wr wa wb ρ Φ := h
theorem i_var {i : Nat} {ρ : Env} {x : D} {Φ : D → Prop} (e : look ρ.sl i = some (.d x)) (h : Φ x) : wVar i ρ Φ := by
  unfold wVar
  rw [e]
  exact h
end Dl

/-! Sets of nested tuples of ints of one's own: set(), add, in, not in. -/
namespace Dl
open PySem PySem.Spec L2 PyProof.Rows
variable [KOf]
/-- such a set, and its members -/
structure SNAt (K : PySem.W.Frag) (H : Hp) (a : Addr) (L : List KV) : Prop where
  at' : H a = some (sNO a L)
  ks : ∀ x ∈ L, ∃ b, x.2 = .ref b ∧ NK K H (.ref b) x.1 ∧ numK x.1 = true ∧ x.1.depth ≤ 8
section
variable {X : Cx} {pins : List (Addr × Obj)} {σ : L2.St} {H : Hp} {s : Shared} {a b : Addr} {L : List KV} {k : NestedKey} {y : V} {u : Value}
theorem sn_get (I : Inv X pins σ H s) (hw : X.w = KOf.w) (d : H a = some (sNO a L)) : SetN X.w s.heap a L := by
  have := (I.hok a _ d).1
  rw [hw]
  exact this
theorem SNAt.of (I : Inv X pins σ H s) (d : SNAt X.K H a L) : ∀ x ∈ L, IsK s.heap x.1 x.2 := fun x hx => by
  obtain ⟨b, e, nk, h1, h2⟩ := d.ks x hx
  exact ⟨by rw [e]; exact NK.is I nk rfl, h1, h2⟩
theorem sNO_ok {w : World} {H' : Hp} {h' : Heap} {P : Program} (hw : w = KOf.w) (R : SetN w h' a L) : ObjOk P w H' h' a (sNO a L) := by
  subst hw
  have r := R
  obtain ⟨_, _, _, _, _, ⟨o, ho, _⟩, _⟩ := R
  exact ⟨r, ⟨o, ho⟩, fun g1 g2 q k => SetN.stay q k⟩
end
/-- set() -/
def rSet0N : List V → Hp → VK → Prop := fun xs H Q => xs = [] ∧ ∀ p, H p = none → Q (.ref p) (upd H p (sNO p []))
def rSAddN (K : PySem.W.Frag) : V → List V → Hp → VK → Prop := fun x xs H Q => ∃ (a b : Addr) (k : NestedKey) (y : V) (L : List KV), x = .ref a ∧ xs = [y] ∧ SNAt K H a L ∧ NAt K H y k b ∧ numK k = true ∧ L.length < 9000 ∧
  (k ∈ L.map (·.1) → Q .non H) ∧ (k ∉ L.map (·.1) → Q .non (upd H a (sNO a (L ++ [(k, .ref b)]))))
def tSAddN (K : PySem.W.Frag) (to : TE) (t : TA) : TE := fun σ H Q => to σ H fun x H1 => (∃ a L, x = V.ref a ∧ H1 a = some (sNO a L)) ∧ t σ H1 fun xs H2 => rSAddN K x xs H2 Q
def tSInN (K : PySem.W.Frag) (neg : Bool) (ty td : TE) : TE := fun σ H Q => ty σ H fun y H1 => td σ H1 fun x H2 => ∃ (a b : Addr) (k : NestedKey) (L : List KV), x = .ref a ∧ SNAt K H2 a L ∧ NAt K H2 y k b ∧ numK k = true ∧
  Q (.bl (if neg then !decide (k ∈ L.map (·.1)) else decide (k ∈ L.map (·.1)))) H2
section
variable {X : Cx} {o i e : Expr} {es : List Expr} {to ty td : TE} {t : TA} {apos cpos : Pos}
theorem cr_set0N (hw : X.w = KOf.w) : CallR X (.type "set") rSet0N := by
  intro pins s σ H xs us Q I r ⟨e0, q⟩
  subst e0
  cases r
  refine setR_new fun _ => ?_
  refine ⟨.ref _, upd H s.heap.objs.size (sNO s.heap.objs.size []), I.laid (t' := s.toks) (fun b u z => Heap.get?_push_of_some _ z) (Nat.le_refl _) (sNO_ok hw (SetN.of (new_k (Heap.get?_push_size _ rfl)) (List.Perm.refl _))), rfl, q _ (I.hok.fresh (Nat.le_refl _))⟩
theorem mt_saddN (hu : X.A.units + 64 < cLine) (hw : X.w = KOf.w) {pins : List (Addr × Obj)} {s : Shared} {σ : L2.St} {H : Hp} {x : V} {xs : List V} {v : Value} {us : List Value} {Q : VK} (I : Inv X pins σ H s) (rx : RelV x v) (rxs : Vals xs us) (h : rSAddN X.K x xs H Q) :
    wpAny (model X.prog X.w) X.A (call (.builtin "set.add") (v :: us)) (fun u s' => ∃ y H', Inv X pins σ H' s' ∧ RelV y u ∧ Q y H') X.xe s := by
  obtain ⟨a, b, k, y, L, rfl, rfl, d, n, nk, few, q0, q1⟩ := h
  cases rx
  cases rxs with
  | cons ry rt =>
    cases rt
    obtain ⟨e1, e2, e3⟩ := n
    subst e1
    cases ry
    refine n_add (sn_get I hw d.at') (d.of I) ⟨NK.is I e2 rfl, nk, e3⟩ hu few (fun hm t R => ?_) fun hm h' t sb R ht => ?_
    · exact ⟨.non, H, I.tok _, rfl, q0 hm⟩
    · have he : ∃ z, h'.get? a = some z := by
        obtain ⟨_, _, _, _, _, ⟨z, hz, _⟩, _⟩ := R
        exact ⟨z, hz⟩
      exact ⟨.non, _, I.write (e := a) (t' := t) (by rw [d.at']; exact True.intro) (.inl rfl) (fun c z hc hz => (sb.2 c hc).trans hz) he (sNO_ok hw R), rfl, q1 hm⟩
theorem pe_saddN (hu : X.A.units + 64 < cLine) (hw : X.w = KOf.w) (ho : PE X o to) (ha : PA X (e :: es) t)
    (hbase : attributeBase o "add" X.env (eval o X.env) = eval o X.env := by rfl)
    (hfew : ((backTo cpos (starEach (e :: es) X.env)).all (fun x => !x.1) && (backToKw cpos (keywordEach [] X.env)).all (fun x => x.1.isSome)
      && decide ((e :: es).length + ([] : List Keyword).length + (if ([] : List Keyword).isEmpty then 0 else 1) < 30)) = true := by rfl)
    (hline : (apos.endLine == cpos.line) = true := by rfl) (hs : starEach (e :: es) X.env = (false, eval e X.env) :: starEach es X.env := by rfl) (hplain : (backTo cpos (starEach es X.env)).any (·.1) = false := by rfl) :
    PE X (.Call (.Attribute o "add" apos) (e :: es) [] cpos) (tSAddN X.K to t) := by
  refine ⟨fun pins s σ H Q I h => wpAny_Call_method_late hbase hfew hline rfl (thn (ho.run pins s σ H _ I h) fun v s1 ⟨x, H1, I1, r1, w1, q1⟩ => ?_)⟩
  obtain ⟨a, L, rfl, at1⟩ := w1
  have R := sn_get I1 hw at1
  cases r1
  have hA := ha.run cpos pins s1 σ H1 _ I1 q1
  refine ⟨"set", "set.add", F.plainAttrs_set, F.slot_set_add, F.type_set_add, R.typeIs, R.noDict, ?_⟩
  rw [hs] at hA ⊢
  refine Calls.callWith_builtin (by show (false || (backTo cpos (starEach es X.env)).any (·.1)) = false; rw [hplain] <;> rfl) (Calls.evalArgs_plain (thn hA fun us s2 ⟨vs, H2, I2, r2, q2⟩ => ?_))
  exact mt_saddN hu hw I2 (x := V.ref a) rfl r2 q2
theorem pc_sinN {neg : Bool} (hu : X.A.units + 64 < cLine) (hw : X.w = KOf.w) (hi : PE X i ty) (ho : PE X o td) : PC X (if neg then .NotIn else .In) i o (tSInN X.K neg ty td) := by
  refine ⟨fun pins s σ H Q I h => ?_⟩
  refine thn (hi.run pins s σ H _ I h) fun iv s1 ⟨y, H1, I1, ry, q1⟩ => thn (ho.run pins s1 σ H1 _ I1 q1) fun u s2 ⟨x, H2, I2, rx, a, b, k, L, ex, d, n, nk, q2⟩ => ?_
  subst ex
  obtain rfl : u = Value.ref a := rx
  obtain ⟨e1, e2, e3⟩ := n
  subst e1
  cases ry
  exact n_has (sn_get I2 hw d.at') (d.of I2) ⟨NK.is I2 e2 rfl, nk, e3⟩ hu fun t => ⟨.bl _, H2, I2.tok _, rfl, q2⟩
end
/-! ### over data -/
/-- data as a key of ints alone -/
def NumD (d : D) : Prop := ∃ xs ks, d = .tup xs ∧ keysOf xs = some ks ∧ (NestedKey.tup ks).depth ≤ 8 ∧ numKs ks = true
theorem NumD.key {d : D} (h : NumD d) : KeyD d := let ⟨xs, ks, a, b, c, _⟩ := h; ⟨xs, ks, a, b, c⟩
theorem NumD.num {d : D} (h : NumD d) {k : NestedKey} (e : keyOf d = some k) : numK k = true := by
  obtain ⟨xs, ks, rfl, b, c, q⟩ := h
  unfold keyOf at e
  rw [b] at e
  cases e
  unfold numK
  exact q
theorem numKs_mem : ∀ {ks : List NestedKey}, numKs ks = true → ∀ k ∈ ks, numK k = true
  | [], _, k, h => nomatch h
  | x :: r, h, k, hk => by
    unfold numKs at h
    rw [Bool.and_eq_true] at h
    rcases List.mem_cons.mp hk with e | e
    · rw [e]; exact h.1
    · exact numKs_mem h.2 k e
theorem numKs_app : ∀ {ks js : List NestedKey}, numKs ks = true → numKs js = true → numKs (ks ++ js) = true
  | [], _, _, h => h
  | x :: r, js, h, h' => by
    unfold numKs at h
    rw [Bool.and_eq_true] at h
    show numKs (x :: (r ++ js)) = true
    unfold numKs
    rw [h.1, numKs_app h.2 h']
    rfl
theorem zip_fstN {nks : List NestedKey} {bs : List Addr} (hl : bs.length = nks.length) : (nks.zip (bs.map Value.ref)).map (·.1) = nks := by
  rw [List.map_fst_zip (by rw [List.length_map]; omega)]
theorem sn_of {B : Addr → Prop} {H : Hp} {p : Addr} {ks : List D} {nks : List NestedKey} {bs : List Addr} (h : H p = some (sNO p (nks.zip (bs.map Value.ref)))) (ek : keysOf ks = some nks) (hl : bs.length = nks.length) (r : RepL B H (bs.map V.ref) ks) (hn : numKs nks = true) (hd : ∀ k ∈ nks, k.depth ≤ 8) :
    SNAt KOf.K H p (nks.zip (bs.map Value.ref)) := by
  refine ⟨h, fun x hx => ?_⟩
  obtain ⟨j, hj⟩ := List.getElem?_of_mem hx
  rw [List.getElem?_zip_eq_some] at hj
  obtain ⟨h1, h2⟩ := hj
  rw [List.getElem?_map] at h2
  cases hb : bs[j]? with
  | none => rw [hb] at h2; cases h2
  | some b =>
    rw [hb] at h2
    have hm := List.mem_of_getElem? h1
    refine ⟨b, (Option.some.inj h2).symm, (r.nk ek).at (i := j) (by rw [List.getElem?_map, hb]; rfl) h1, numKs_mem hn _ hm, hd _ hm⟩
section
variable {X : Cx} {E : XK} {e o i : Expr} {te to ti : TE} {w wo wk : WE} {pos pos' p : Pos} {x : Str}
def wNewS : Env → (OC → Prop) → Prop := fun _ Φ => Φ (.st [])
theorem do_newS (hg : Gl X "set") (hm : X.mg "set" = none) (k : KX X := by exact {}) : DO1 X E (.Call (.Name "set" p) [] [] pos) (tCB rSet0N tNil) wNewS := by
  refine ⟨pe_callTy0 (cr_set0N k.w) hg hm (by rfl), fun δ M σ H ρ R Φ Q h kk => ?_⟩
  refine ⟨rfl, fun q hq => kk q _ (.st []) hq (Ext.new hq) ⟨[], [], upd_same, rfl, rfl, .nil, rfl, fun _ z => nomatch z⟩ h⟩
def wInS (neg : Bool) (wk wo : WE) : WE := fun ρ Φ => wk ρ fun f => wo ρ fun d => ∃ q j ks, d = .raw (.ref q) ∧ At ρ.sl q j (.st ks) ∧ NumD f ∧ (f ∈ ks → Φ (.bl (!neg))) ∧ (f ∉ ks → Φ (.bl neg))
theorem abs_inS {neg : Bool} (hi : AbsE E ti wk) (ho : AbsE E to wo) : AbsE E (tSInN KOf.K neg ti to) (wInS neg wk wo) := fun δ M σ H ρ R Φ Q h kk => by
  refine hi δ M σ H ρ R _ _ h fun u H1 f e1 r1 h1 => ?_
  refine ho δ M σ H1 ρ (R.ext e1) _ _ h1 fun v H2 d e2 r2 h2 => ?_
  obtain ⟨q, j, ks, rfl, ha, hk, h3, h4⟩ := h2
  cases rep_ref r2
  obtain ⟨_, _, bs, nks, hq, ek, hl, rk, hn, hd⟩ := ((R.ext e1).ext e2).at' ha
  obtain ⟨key, b, e3, na⟩ := hk.key.at (r1.keep e2.kept)
  refine ⟨q, b, key, _, rfl, sn_of hq ek hl rk hn hd, na, hk.num e3, ?_⟩
  rw [zip_fstN hl]
  by_cases hm : f ∈ ks
  · rw [decide_eq_true ((keysOf_mem ek e3).mp hm)]
    have : (if neg then !true else true) = !neg := by cases neg <;> rfl
    rw [this]
    exact kk _ H2 _ (e1.trans e2) (.bl _) (h3 hm)
  · rw [decide_eq_false fun z => hm ((keysOf_mem ek e3).mpr z)]
    have : (if neg then !false else false) = neg := by cases neg <;> rfl
    rw [this]
    exact kk _ H2 _ (e1.trans e2) (.bl _) (h4 hm)
theorem de_inS (hu : X.A.units + 64 < cLine) (hi : DE X E i ti wk) (ho : DE X E o to wo) (hb : behindInMarks .In o = false := by rfl) (k : KX X := by exact {}) : DE X E (.Compare i [.In] [o] pos) (tSInN KOf.K false ti to) (wInS false wk wo) :=
  ⟨pe_cmp (k.K ▸ pc_sinN (neg := false) hu k.w hi.p ho.p) hb, abs_inS hi.a ho.a⟩
theorem de_notInS (hu : X.A.units + 64 < cLine) (hi : DE X E i ti wk) (ho : DE X E o to wo) (hb : behindInMarks .NotIn o = false := by rfl) (k : KX X := by exact {}) : DE X E (.Compare i [.NotIn] [o] pos) (tSInN KOf.K true ti to) (wInS true wk wo) :=
  ⟨pe_cmp (k.K ▸ pc_sinN (neg := true) hu k.w hi.p ho.p) hb, abs_inS hi.a ho.a⟩
theorem dt_inS (hu : X.A.units + 64 < cLine) (hi : DE X E i ti wk) (ho : DE X E o to wo) (hb : behindInMarks .In o = false := by rfl) (k : KX X := by exact {}) : DT X E (.Compare i [.In] [o] pos) (tB (tSInN KOf.K false ti to)) (wTest (wInS false wk wo)) :=
  ⟨pt_cmp (k.K ▸ pc_sinN (neg := false) hu k.w hi.p ho.p) hb, abs_test (abs_inS hi.a ho.a)⟩
theorem dt_notInS (hu : X.A.units + 64 < cLine) (hi : DE X E i ti wk) (ho : DE X E o to wo) (hb : behindInMarks .NotIn o = false := by rfl) (k : KX X := by exact {}) : DT X E (.Compare i [.NotIn] [o] pos) (tB (tSInN KOf.K true ti to)) (wTest (wInS true wk wo)) :=
  ⟨pt_cmp (k.K ▸ pc_sinN (neg := true) hu k.w hi.p ho.p) hb, abs_test (abs_inS hi.a ho.a)⟩
/-- o.add(e) -/
def wAddS (wo w : WE) : WS := fun c Φ l => wo ⟨c, l⟩ fun d => ∃ q j ks, d = .raw (.ref q) ∧ At l q j (.st ks) ∧ w ⟨c, l⟩ fun f => NumD f ∧ ks.length < 9000 ∧ (f ∈ ks → Φ.nx l) ∧ (f ∉ ks → Φ.nx (upG l j (.st (ks ++ [f]))))
theorem ds_addS {epos apos cpos : Pos} (hu : X.A.units + 64 < cLine) (ho : DE X E o to wo) (he : DE X E e te w) (hst : starEach (e :: []) X.env = (false, eval e X.env) :: starEach [] X.env := by rfl)
    (hbase : attributeBase o "add" X.env (eval o X.env) = eval o X.env := by rfl)
    (hfew : ((backTo cpos (starEach (e :: []) X.env)).all (fun x => !x.1) && (backToKw cpos (keywordEach [] X.env)).all (fun x => x.1.isSome)
      && decide ((e :: []).length + ([] : List Keyword).length + (if ([] : List Keyword).isEmpty then 0 else 1) < 30)) = true := by rfl)
    (hline : (apos.endLine == cpos.line) = true := by rfl) (hplain : (backTo cpos (starEach [] X.env)).any (·.1) = false := by rfl)
    (hs : swapsWith (.Call (.Attribute o "add" apos) [e] [] cpos) none epos.line X.env = pure false := by rfl) (k : KX X := by exact {}) :
    DS X E (.Expr (.Call (.Attribute o "add" apos) [e] [] cpos) epos) (tDrop (tSAddN KOf.K to (tCons te tNil))) (wAddS wo w) := by
  refine ⟨k.K ▸ ps_expr (pe_saddN hu k.w ho.p (pa_cons he.p pa_nil hst) hbase hfew hline hst hplain) hs, fun δ M0 H0 c Φ D ok σ H l R h => ?_⟩
  obtain ⟨M, m, n, Re⟩ := R.ex
  refine ho.a δ M σ H ⟨c, l⟩ Re _ _ h fun v H1 d e1 r1 h1 => ?_
  obtain ⟨q, j, ks, rfl, ha, h1⟩ := h1
  cases rep_ref r1
  have Re1 := Re.ext e1
  obtain ⟨_, _, bs0, nks0, hq0, _⟩ := Re1.at' ha
  refine ⟨⟨q, _, rfl, hq0⟩, ?_⟩
  refine he.a δ M σ H1 ⟨c, l⟩ Re1 _ _ h1 fun u H2 f e2 r2 h2 => ?_
  obtain ⟨hk, few, h3, h4⟩ := h2
  have Re2 := Re1.ext e2
  obtain ⟨hm, nd, bs, nks, hq, ek, hl, rk, hn, hd⟩ := Re2.at' ha
  obtain ⟨key, b, e3, na⟩ := hk.key.at r2
  obtain ⟨kk, ekk, hdp⟩ := hk.key.k
  rw [e3] at ekk
  cases ekk
  have lk : nks.length = ks.length := (keysOf_len ek).symm
  have lz : (nks.zip (bs.map Value.ref)).length = ks.length := by
    rw [List.length_zip, List.length_map, hl, Nat.min_self, lk]
  have R2 := (R.ext e1).ext e2
  refine ⟨q, b, key, u, _, rfl, rfl, sn_of hq ek hl rk hn hd, na, hk.num e3, by omega, fun z => ?_, fun z => ?_⟩
  · rw [zip_fstN hl] at z
    exact ok.nx _ _ _ R2 (h3 ((keysOf_mem ek e3).mpr z))
  · rw [zip_fstN hl] at z
    have hb : u = .ref b := na.e
    have kp : ∀ z, Kept (Bn δ M) H2 (upd H2 q z) := fun z => Kept.put (.inr hm)
    have ez : nks.zip (bs.map Value.ref) ++ [(key, Value.ref b)] = (nks ++ [key]).zip ((bs ++ [b]).map Value.ref) := by
      rw [List.map_append, List.zip_append (by rw [List.length_map]; exact hl.symm)]
      rfl
    rw [ez]
    rw [hb] at r2
    refine ok.nx _ _ _ (R2.putG (o := .st (ks ++ [f])) ha m n Re2 ⟨bs ++ [b], nks ++ [key], upd_same, keysOf_app ek (keysOf_of e3 rfl), by rw [List.length_append, List.length_append, hl]; rfl, ?_, numKs_app hn (by unfold numKs; rw [hk.num e3]; rfl), fun k' hk' => ?_⟩) (h4 fun z' => z ((keysOf_mem ek e3).mp z'))
    · have e9 : (bs ++ [b]).map V.ref = bs.map V.ref ++ [V.ref b] := List.map_append
      rw [e9]
      exact (rk.app (.cons r2 .nil)).keep (kp _)
    · rcases List.mem_append.mp hk' with z' | z'
      · exact hd _ z'
      · rw [List.mem_singleton.mp z']; exact hdp
end
end Dl

/-! One box is too few. -/
namespace Dl
open PySem PySem.Spec PyProof.Rows L2
variable [KOf]
/-! ### a, b = e1, e2 -/
def wPar (i j : Nat) (ws : WA) : WS := fun c Φ l => ws ⟨c, l⟩ fun ss => match ss with
  | [.d d1, .d d2] => Φ.nx (setS (setS l i (.d d1)) j (.d d2))
  | _ => False
theorem ds_par {X : Cx} {E : XK} {i j : Nat} {x y : Str} {a b : Expr} {ta : TA} {ws : WA} {px py pt pos : Pos} {kt k2 pt2} (hc : X.calm = true) (hN : X.N.Nodup) (hi : X.N[i]? = some x) (hj : X.N[j]? = some y) (hij : i ≠ j) (hx : X.env.scope.names.lookup x = some .local) (hy : X.env.scope.names.lookup y = some .local) (ha : DA X E [a, b] ta ws)
    (hw : swappedStores [.Tuple [.Name x px, .Name y py] kt pt] (.Tuple [a, b] k2 pt2) X.env = pure (some [x, y]) := by rfl)
    (hs : swapsWithSole [.Tuple [.Name x px, .Name y py] kt pt] (.Tuple [a, b] k2 pt2) pos.line X.env = pure false := by rfl) :
    DS X E (.Assign [.Tuple [.Name x px, .Name y py] kt pt] (.Tuple [a, b] k2 pt2) pos) (tLen X.N.length (tPar i j ta)) (wPar i j ws) := by
  refine ⟨ps_len (ps_par hc hN hi hj hij hx hy ha.p hw hs), fun δ M0 H0 c Φ D ok σ H l R h hl => ?_⟩
  obtain ⟨M, m, n, Re⟩ := R.ex
  have i1 := lt_of_at hi
  have j1 := lt_of_at hj
  refine ha.a δ M σ H ⟨c, l⟩ Re _ _ h fun vs H1 ss e1 r1 l1 n1 h1 => ?_
  obtain ⟨d1, d2, rfl, h2⟩ : ∃ d1 d2, ss = [.d d1, .d d2] ∧ Φ.nx (setS (setS l i (.d d1)) j (.d d2)) := by
    split at h1
    · exact ⟨_, _, rfl, h1⟩
    · exact h1.elim
  cases r1 with
  | cons r1 r2 => cases r2 with
    | cons r2 r3 =>
      cases r3
      cases r1 with
      | d r1 => cases r2 with
        | d r2 =>
          have Q2 := ((Re.ext e1).set i (by rw [hl]; exact i1) r1).set j (by rw [List.length_set, hl]; exact j1) r2
          exact ⟨_, _, rfl, ok.nx _ H1 _ ((R.ext e1).noNew m n Q2 ((noNew_put i d1).trans (noNew_put j d2))) h2⟩
end Dl
namespace Gh
open PySem L2 Dl
variable [KOf]
def PP_Gate_boxes (C : Addr) (ss : List S) (Φ : List D → Prop) : Prop := ∃ g, ss = [.d (dObj C g)] ∧ Φ (g.bs.map dBox)
/-- the states of a hand that goes on alone -/
def aloneD (g : Gt) (h n : Nat) : List D := (List.range (n + 1)).map fun k => dStt (walkM g h k (begM g))
def AloneN (g : Gt) (h n : Nat) : Prop := (∀ j, j < n → atB isIn g (walkM g h j (begM g)) h = false) ∧ (atB isIn g (walkM g h n (begM g)) h = false → ¬ Comes g (begM g) h) ∧ n ≤ 2000
def PP_states_alone (C : Addr) (ss : List S) (Φ : List D → Prop) : Prop := ∃ (g : Gt) (h : Nat), ss = [.d (dObj C g), .d (.int h)] ∧ OkGate g ∧ sz1 g ∧ h < g.hs.length ∧ ∀ n, AloneN g h n → Φ (aloneD g h n)
def isPut : Stp → Bool
  | .put _ _ => true
  | _ => false
/-- whether hand 0 puts a number in the state -/
def putB (g : Gt) (s : Stt) : Bool := match g.hs[0]?, s.p[0]? with
  | some h, some x => ((h.2[x.toNat]?).map isPut).getD false
  | _, _ => false
def PP_steps_ahead (C : Addr) (ss : List S) (Φ : D → Prop) : Prop := ∃ (g : Gt) (n : Nat), ss = [.d (dObj C g), .d (.lst (aloneD g 0 n))] ∧ OkGate g ∧ n ≤ 2000 ∧
  ∀ a : Nat, a ≤ n → (∀ j, j < a → putB g (walkM g 0 j (begM g)) = false) → (putB g (walkM g 0 a (begM g)) = true ∨ a = n ∧ putB g (walkM g 0 a (begM g)) = false) → Φ (.int a)
def natsD (l : List Nat) : D := .lst (l.map dNat)
def PP_breaker (C : Addr) (ss : List S) (Φ : D → Prop) : Prop := ∃ g, ss = [.d (dObj C g)] ∧ OkGate g ∧ sz1 g ∧ 2 ≤ g.hs.length ∧ g.bs.length = 1 ∧
  (¬ Comes g (begM g) 0 → Φ (.tup [.str "shut", .int 0])) ∧ (Comes g (begM g) 0 → ¬ Comes g (begM g) 1 → Φ (.tup [.str "shut", .int 1])) ∧
  (Comes g (begM g) 0 → Comes g (begM g) 1 → ∀ ws : List Int, Good g ws → ws.length ≤ 10000 → atB isIn g (stAt g ws ws.length) 0 = true → atB isIn g (stAt g ws ws.length) 1 = true → Φ (.tup [.str "two", .lst (ws.map .int)]))
def PP_breakerX (C aO : Addr) (ss : List S) (Φ : D → Prop) (Ψ : XD → Prop) : Prop := ∃ g, ss = [.d (dObj C g)] ∧ OkGate g ∧ (g.hs.length < 2 ∨ g.bs.length ≠ 1) ∧ Ψ ⟨.ref aO, none⟩
def P_are_hands (ss : List S) (Φ : D → Prop) : Prop := ∃ (ws : List Int) (n : Int), ss = [.d (.lst (ws.map .int)), .d (.int n)] ∧ ws.length ≤ 10000 ∧ (∀ w ∈ ws, 0 ≤ w ∧ w < n) ∧ Φ (.bl true)
def P_refusedB (ss : List S) (Φ : D → Prop) : Prop := ∃ g, ss = [.d (dGate g)] ∧ OkGate g ∧ (g.hs.length < 2 ∨ g.bs.length ≠ 1) ∧ Φ (.bl true)
end Gh
namespace Gh
open PySem L2 Dl
variable [KOf]
theorem walk_key {g : Gt} (og : OkGate g) {s : Stt} (os : OkStt g s) {h : Nat} (hh : h < g.hs.length) {a b : Nat} (e1 : (walkM g h a s).b = (walkM g h b s).b) (e2 : (walkM g h a s).p.getD h 0 = (walkM g h b s).p.getD h 0) : walkM g h a s = walkM g h b s := by
  have oa := walkM_ok og (h := h) a os
  have ob := walkM_ok og (h := h) b os
  have e3 : (walkM g h a s).p = (walkM g h b s).p := by
    obtain ⟨x, fx⟩ := walkM_p g h a s
    obtain ⟨y, fy⟩ := walkM_p g h b s
    refine List.ext_getElem? fun i => ?_
    by_cases hi : h = i
    · subst hi
      rw [List.getD_eq_getElem?_getD, List.getD_eq_getElem?_getD] at e2
      rw [List.getElem?_eq_getElem (by rw [oa.lp]; exact hh), List.getElem?_eq_getElem (by rw [ob.lp]; exact hh)] at e2 ⊢
      exact congrArg some e2
    · have z : ∀ k, ∀ w, ((walkM g h k s).p = s.p.set h w ∨ (walkM g h k s).p = s.p) → (walkM g h k s).p[i]? = s.p[i]? := fun k w q => by
        rcases q with q | q
        · rw [q, List.getElem?_set_ne hi]
        · rw [q]
      rw [z a x fx, z b y fy]
  cases q1 : walkM g h a s with
  | mk b1 p1 =>
    cases q2 : walkM g h b s with
    | mk b2 p2 =>
      rw [q1, q2] at e1 e3
      dsimp only at e1 e3
      rw [e1, e3]
/-- states that differ: few -/
theorem walk_few {g : Gt} (og : OkGate g) (sz : sz1 g) {s : Stt} (os : OkStt g s) {h : Nat} (hh : h < g.hs.length) {k : Nat} (hd : ∀ i j, i < j → j < k → walkM g h i s ≠ walkM g h j s) : k ≤ 2000 := by
  obtain ⟨hd', ehd⟩ : ∃ hd, g.hs[h]? = some hd := ⟨_, List.getElem?_eq_getElem hh⟩
  have hsz := sz hd' (List.mem_of_getElem? ehd)
  let key : Nat → List Int × Int := fun k => ((walkM g h k s).b, (walkM g h k s).p.getD h 0)
  have nd : ((List.range k).map key).Nodup := by
    refine List.pairwise_map.mpr (List.pairwise_lt_range.imp_of_mem fun {a b} ha hb hab he => ?_)
    have hb := List.mem_range.mp hb
    exact hd a b hab hb (walk_key og os hh (congrArg Prod.fst he) (congrArg Prod.snd he))
  have hl := nodup_sub (L := (enumL (g.bs.map fun b => (b.2 + 1).toNat)).flatMap fun b => (List.range hd'.2.length).map fun (i : Nat) => (b, (i : Int))) nd fun x hx => by
    obtain ⟨k, _, rfl⟩ := List.mem_map.mp hx
    have o := walkM_ok og (h := h) k os
    refine List.mem_flatMap.mpr ⟨(walkM g h k s).b, enumL_mem (by rw [List.length_map]; exact o.lb) (fun i x n e1 e2 => ?_), ?_⟩
    · obtain ⟨b, hb, rfl⟩ := map_at e2
      have := o.bx i x b e1 hb
      omega
    · obtain ⟨y, ey⟩ : ∃ y, (walkM g h k s).p[h]? = some y := ⟨_, List.getElem?_eq_getElem (by rw [o.lp]; exact hh)⟩
      have := o.pl h y hd' ey ehd
      refine List.mem_map.mpr ⟨y.toNat, List.mem_range.mpr (by omega), ?_⟩
      show _ = ((walkM g h k s).b, (walkM g h k s).p.getD h 0)
      rw [List.getD_eq_getElem?_getD, ey, Int.toNat_of_nonneg this.1]
      rfl
  rw [List.length_map, List.length_range, flat_len (k := hd'.2.length) fun x _ => by rw [List.length_map, List.length_range], enumL_len] at hl
  exact Nat.le_trans hl hsz
/-- back at a state: never within -/
theorem ring_never {g : Gt} {s : Stt} {h j k : Nat} (hjk : j < k) (e : walkM g h j s = walkM g h k s) (hn : ∀ i, i < k → atB isIn g (walkM g h i s) h = false) : ¬ Comes g s h := by
  have back : ∀ n, ∃ m, m < k ∧ walkM g h n s = walkM g h m s := fun n => by
    induction n using Nat.strongRecOn with
    | ind n ih =>
      rcases Nat.lt_or_ge n k with q | q
      · exact ⟨n, q, rfl⟩
      · obtain ⟨m, h1, h2⟩ := ih (n - k + j) (by omega)
        refine ⟨m, h1, ?_⟩
        rw [← h2]
        have e1 : n = (n - k) + k := by omega
        have : walkM g h n s = walkM g h (n - k) (walkM g h k s) := by
          conv => lhs; rw [e1]
          exact walkM_add g h (n - k) k s
        rw [this, ← e, ← walkM_add]
  rintro ⟨n, c⟩
  obtain ⟨m, h1, h2⟩ := back n
  have := hn m h1
  rw [← h2, c] at this
  cases this
/-! ### two states that are alike for a hand -/
def Alk (h : Nat) (s t : Stt) : Prop := s.b = t.b ∧ s.p[h]? = t.p[h]?
section
variable {g : Gt} (og : OkGate g)
include og
theorem st_at {s : Stt} (os : OkStt g s) {h : Nat} (hh : h < g.hs.length) : ∃ hd x st, g.hs[h]? = some hd ∧ s.p[h]? = some x ∧ hd.2[x.toNat]? = some st ∧ OkStp g.bs hd.2.length st := by
  obtain ⟨hd, e1⟩ : ∃ hd, g.hs[h]? = some hd := ⟨_, List.getElem?_eq_getElem hh⟩
  obtain ⟨x, e2⟩ : ∃ x, s.p[h]? = some x := ⟨_, List.getElem?_eq_getElem (by rw [os.lp]; exact hh)⟩
  have := os.pl h x hd e2 e1
  obtain ⟨st, e3⟩ : ∃ st, hd.2[x.toNat]? = some st := ⟨_, List.getElem?_eq_getElem (by omega)⟩
  exact ⟨hd, x, st, e1, e2, e3, (og.hs hd (List.mem_of_getElem? e1)).ok st (List.mem_of_getElem? e3)⟩
theorem alk_step {s t : Stt} (os : OkStt g s) (ot : OkStt g t) {h : Nat} (hh : h < g.hs.length) (a : Alk h s t) : Alk h (doneM g s h) (doneM g t h) := by
  obtain ⟨hd, x, st, e1, e2, e3, _⟩ := st_at og os hh
  have e2' : t.p[h]? = some x := by rw [← a.2]; exact e2
  have l1 : h < s.p.length := by rw [os.lp]; exact hh
  have l2 : h < t.p.length := by rw [ot.lp]; exact hh
  rw [doneM_eq e1 e2 e3, doneM_eq e1 e2' e3]
  cases st with
  | put b n => exact ⟨by show s.b.set _ _ = t.b.set _ _; rw [a.1], by show (s.p.set _ _)[h]? = (t.p.set _ _)[h]?; rw [List.getElem?_set_self l1, List.getElem?_set_self l2]⟩
  | go b ns c => exact ⟨a.1, by show (s.p.set _ _)[h]? = (t.p.set _ _)[h]?; rw [List.getElem?_set_self l1, List.getElem?_set_self l2, a.1]⟩
  | inn => exact ⟨a.1, by show (s.p.set _ _)[h]? = (t.p.set _ _)[h]?; rw [List.getElem?_set_self l1, List.getElem?_set_self l2]⟩
theorem alk_walk {h : Nat} (hh : h < g.hs.length) : ∀ (k : Nat) {s t : Stt}, OkStt g s → OkStt g t → Alk h s t → Alk h (walkM g h k s) (walkM g h k t)
  | 0, _, _, _, _, a => a
  | k + 1, _, _, os, ot, a => alk_walk hh k (doneM_ok og os) (doneM_ok og ot) (alk_step og os ot hh a)
/-- the one box: a put hides what stood there -/
theorem put_step (h1 : g.bs.length = 1) {s t : Stt} (os : OkStt g s) (ot : OkStt g t) (hh : 0 < g.hs.length) (e : s.p[0]? = t.p[0]?) (hp : putB g s = true) : Alk 0 (doneM g s 0) (doneM g t 0) := by
  obtain ⟨hd, x, st, e1, e2, e3, ok⟩ := st_at og os hh
  have e2' : t.p[0]? = some x := by rw [← e]; exact e2
  have l1 : 0 < s.p.length := by rw [os.lp]; exact hh
  have l2 : 0 < t.p.length := by rw [ot.lp]; exact hh
  rw [doneM_eq e1 e2 e3, doneM_eq e1 e2' e3]
  unfold putB at hp
  rw [e1, e2] at hp
  simp only [e3] at hp
  cases st with
  | put b n =>
    obtain ⟨y, b0, hb, _⟩ := ok
    have hb0 : b.toNat = 0 := by
      have := (List.getElem?_eq_some_iff.mp hb).1
      omega
    have one : ∀ l : List Int, l.length = 1 → l.set 0 n = [n] := fun l hl => by
      match l, hl with
      | [_], _ => rfl
    refine ⟨?_, by show (s.p.set _ _)[0]? = (t.p.set _ _)[0]?; rw [List.getElem?_set_self l1, List.getElem?_set_self l2]⟩
    show s.b.set b.toNat n = t.b.set b.toNat n
    rw [hb0, one _ (by rw [os.lb]; exact h1), one _ (by rw [ot.lb]; exact h1)]
  | go b ns c => cases hp
  | inn => cases hp
theorem noput_b {s : Stt} (os : OkStt g s) (hh : 0 < g.hs.length) (hp : putB g s = false) : (doneM g s 0).b = s.b := by
  obtain ⟨hd, x, st, e1, e2, e3, ok⟩ := st_at og os hh
  rw [doneM_eq e1 e2 e3]
  unfold putB at hp
  rw [e1, e2] at hp
  simp only [e3] at hp
  cases st with
  | put b n => cases hp
  | go b ns c => rfl
  | inn => rfl
theorem noput_walk {s : Stt} (os : OkStt g s) (hh : 0 < g.hs.length) : ∀ a : Nat, (∀ j, j < a → putB g (walkM g 0 j s) = false) → (walkM g 0 a s).b = s.b
  | 0, _ => rfl
  | a + 1, hp => by
    rw [walkM_succ, noput_b og (walkM_ok og a os) hh (hp a (Nat.lt_succ_self a))]
    exact noput_walk os hh a fun j hj => hp j (Nat.lt_succ_of_lt hj)
end
theorem done_other {g : Gt} {s : Stt} {h j : Nat} (hj : h ≠ j) : (doneM g s h).p[j]? = s.p[j]? := by
  obtain ⟨x, e⟩ := doneM_p g s h
  rw [e, List.getElem?_set_ne hj]
theorem walk_other {g : Gt} {h j : Nat} (hj : h ≠ j) : ∀ (k : Nat) (s : Stt), (walkM g h k s).p[j]? = s.p[j]?
  | 0, _ => rfl
  | k + 1, s => (walk_other hj k (doneM g s h)).trans (done_other hj)
theorem isIn_place {g : Gt} {s t : Stt} {h : Nat} (e : s.p[h]? = t.p[h]?) : atB isIn g s h = atB isIn g t h := by
  unfold atB
  rw [e]
theorem stAt_app {g : Gt} {ws vs : List Int} : ∀ {n : Nat}, n ≤ ws.length → stAt g (ws ++ vs) n = stAt g ws n
  | 0, _ => rfl
  | n + 1, h => by
    show doneM g (stAt g (ws ++ vs) n) (((ws ++ vs)[n]?).getD 0).toNat = doneM g (stAt g ws n) ((ws[n]?).getD 0).toNat
    rw [stAt_app (n := n) (by omega), List.getElem?_append_left (by omega)]
theorem stAt_rep {g : Gt} {ws : List Int} {h k : Nat} : ∀ {j : Nat}, j ≤ k → stAt g (ws ++ List.replicate k (h : Int)) (ws.length + j) = walkM g h j (stAt g ws ws.length)
  | 0, _ => stAt_app (Nat.le_refl _)
  | j + 1, hj => by
    show doneM g (stAt g (ws ++ List.replicate k (h : Int)) (ws.length + j)) (((ws ++ List.replicate k (h : Int))[ws.length + j]?).getD 0).toNat = _
    rw [stAt_rep (j := j) (by omega), List.getElem?_append_right (by omega), Nat.add_sub_cancel_left, List.getElem?_replicate, if_pos (by omega), walkM_succ]
    rfl
theorem stAt_all {g : Gt} {ws : List Int} {h k : Nat} : stAt g (ws ++ List.replicate k (h : Int)) (ws ++ List.replicate k (h : Int)).length = walkM g h k (stAt g ws ws.length) := by
  rw [List.length_append, List.length_replicate]
  exact stAt_rep (Nat.le_refl k)
def breakW (a n1 d : Nat) : List Int := List.replicate a 0 ++ List.replicate n1 1 ++ List.replicate d 0
theorem break_two {g : Gt} (og : OkGate g) (h2 : 2 ≤ g.hs.length) (h1 : g.bs.length = 1) {n0 n1 a : Nat} (w0 : atB isIn g (walkM g 0 n0 (begM g)) 0 = true) (w1 : atB isIn g (walkM g 1 n1 (begM g)) 1 = true) (ha : a ≤ n0) (np : ∀ j, j < a → putB g (walkM g 0 j (begM g)) = false)
    (hp : putB g (walkM g 0 a (begM g)) = true ∨ a = n0) : atB isIn g (stAt g (breakW a n1 (n0 - a)) (breakW a n1 (n0 - a)).length) 0 = true ∧ atB isIn g (stAt g (breakW a n1 (n0 - a)) (breakW a n1 (n0 - a)).length) 1 = true := by
  have o0 : OkStt g (begM g) := begM_ok og
  have e : stAt g (breakW a n1 (n0 - a)) (breakW a n1 (n0 - a)).length = walkM g 0 (n0 - a) (walkM g 1 n1 (walkM g 0 a (begM g))) := by
    have z1 : stAt g (List.replicate a (0 : Int)) (List.replicate a (0 : Int)).length = walkM g 0 a (begM g) := stAt_all (g := g) (ws := []) (h := 0) (k := a)
    have z2 := stAt_all (g := g) (ws := List.replicate a (0 : Int)) (h := 1) (k := n1)
    have z3 := stAt_all (g := g) (ws := List.replicate a (0 : Int) ++ List.replicate n1 (1 : Int)) (h := 0) (k := n0 - a)
    rw [z1] at z2
    have z2' : stAt g (List.replicate a (0 : Int) ++ List.replicate n1 (1 : Int)) (List.replicate a (0 : Int) ++ List.replicate n1 (1 : Int)).length = walkM g 1 n1 (walkM g 0 a (begM g)) := z2
    rw [z2'] at z3
    exact z3
  rw [e]
  have oS1 := walkM_ok og (h := 0) a o0
  have oS2 := walkM_ok og (h := 1) n1 oS1
  have k1 : Alk 1 (walkM g 0 a (begM g)) (begM g) := ⟨noput_walk og o0 (by omega) a np, walk_other (by decide) a _⟩
  have k2 := alk_walk og (h := 1) (by omega) n1 oS1 o0 k1
  have p0 : (walkM g 1 n1 (walkM g 0 a (begM g))).p[0]? = (walkM g 0 a (begM g)).p[0]? := walk_other (by decide) n1 _
  have w1' : atB isIn g (walkM g 1 n1 (walkM g 0 a (begM g))) 1 = true := by rw [isIn_place k2.2]; exact w1
  refine ⟨?_, by rw [isIn_place (walk_other (by decide) (n0 - a) _)]; exact w1'⟩
  have e0 : walkM g 0 (n0 - a) (walkM g 0 a (begM g)) = walkM g 0 n0 (begM g) := by
    rw [← walkM_add, Nat.sub_add_cancel ha]
  cases hd : n0 - a with
  | zero =>
    rw [hd] at e0
    have e0' : walkM g 0 a (begM g) = walkM g 0 n0 (begM g) := e0
    show atB isIn g (walkM g 1 n1 (walkM g 0 a (begM g))) 0 = true
    rw [isIn_place p0, e0']
    exact w0
  | succ d =>
    have hp' : putB g (walkM g 0 a (begM g)) = true := hp.elim id fun z => by omega
    have k3 := put_step og h1 oS1 oS2 (by omega) p0.symm hp'
    have k4 := alk_walk og (h := 0) (by omega) d (doneM_ok og oS1) (doneM_ok og oS2) k3
    rw [hd] at e0
    have e0' : walkM g 0 d (doneM g (walkM g 0 a (begM g)) 0) = walkM g 0 n0 (begM g) := e0
    show atB isIn g (walkM g 0 d (doneM g (walkM g 1 n1 (walkM g 0 a (begM g))) 0)) 0 = true
    rw [← isIn_place k4.2, e0']
    exact w0
/-! ### the states of a hand that goes on alone, as data -/
theorem aloneD_len (g : Gt) (h n : Nat) : (aloneD g h n).length = n + 1 := by unfold aloneD; rw [List.length_map, List.length_range]
theorem aloneD_at (g : Gt) (h : Nat) {n k : Nat} (hk : k ≤ n) : (aloneD g h n)[k]? = some (dStt (walkM g h k (begM g))) := by
  unfold aloneD
  rw [List.getElem?_map, List.getElem?_range (by omega)]
  rfl
theorem aloneD_succ (g : Gt) (h n : Nat) : aloneD g h (n + 1) = aloneD g h n ++ [dStt (walkM g h (n + 1) (begM g))] := by
  unfold aloneD
  rw [List.range_succ (n := n + 1), List.map_append]
  rfl
theorem aloneD_last (g : Gt) (h n : Nat) : atI (aloneD g h n) (-1) = some (dStt (walkM g h n (begM g))) := by
  show (ixN (aloneD g h n).length (-1)).bind (fun j => (aloneD g h n)[j]?) = _
  have e : ixN (n + 1) (-1) = some n := by
    unfold ixN
    rw [if_neg (by omega), if_pos (by omega)]
    exact congrArg some (by omega)
  rw [aloneD_len, e]
  exact aloneD_at g h (Nat.le_refl n)
theorem keys_ints : ∀ l : List Int, keysOf (l.map D.int) = some (l.map .num)
  | [] => rfl
  | x :: r => keysOf_of (k := .num x) rfl (keys_ints r)
theorem nums_ints : ∀ l : List Int, numKs (l.map NestedKey.num) = true
  | [] => rfl
  | x :: r => by
    show numKs (.num x :: r.map .num) = true
    unfold numKs
    rw [nums_ints r]
    rfl
theorem depth_ints : ∀ l : List Int, NestedKey.depthAll (l.map NestedKey.num) ≤ 1
  | [] => by simp [NestedKey.depthAll]
  | x :: r => by
    have := depth_ints r
    simp only [List.map_cons, NestedKey.depthAll, NestedKey.depth]
    omega
theorem numD_stt (s : Stt) : NumD (dStt s) := by
  have e : ∀ l : List Int, keyOf (dInts l) = some (.tup (l.map .num)) := fun l => by
    show (keysOf (l.map D.int)).map NestedKey.tup = _
    rw [keys_ints]
    rfl
  refine ⟨[dInts s.b, dInts s.p], [.tup (s.b.map .num), .tup (s.p.map .num)], rfl, keysOf_of (e _) (keysOf_of (e _) rfl), ?_, ?_⟩
  · have h1 := depth_ints s.b
    have h2 := depth_ints s.p
    simp only [NestedKey.depth, NestedKey.depthAll]
    omega
  · simp [numKs, numK, nums_ints]
end Gh
namespace Gh
open PySem L2 Dl
variable [KOf]
theorem one_at {b x : Box} {i k : Nat} (hk : 1 ≤ k) (h : [b][i]? = some x) : (List.replicate k b)[i]? = some x := by
  have hi := (List.getElem?_eq_some_iff.mp h).1
  have i0 : i = 0 := by simp at hi; omega
  subst i0
  have e : b = x := Option.some.inj h
  rw [List.getElem?_replicate, if_pos (by omega), e]
theorem okHand_more {b : Box} {k : Nat} (hk : 1 ≤ k) {h : Hand} (ok : OkHand [b] h) : OkHand (List.replicate k b) h := by
  refine ⟨ok.len2, ok.len24, fun s hs => ?_, ok.inn⟩
  have := ok.ok s hs
  cases s with
  | put c n =>
    obtain ⟨x, h1, h2, h3⟩ := this
    exact ⟨x, h1, one_at hk h2, h3⟩
  | go c ns a =>
    obtain ⟨x, h1, h2, h3⟩ := this
    exact ⟨x, h1, one_at hk h2, h3⟩
  | inn => exact trivial
theorem okBoxes_rep {b : Box} (ob : OkBox b) {k : Nat} (h1 : 1 ≤ k) (h2 : k ≤ 12) : OkBoxes (List.replicate k b) := by
  refine ⟨by rw [List.length_replicate]; exact h1, by rw [List.length_replicate]; exact h2, fun x hx => ?_⟩
  rw [List.eq_of_mem_replicate hx]
  exact ob
structure GH (b : Box) (hs : List Hand) : Prop where
  l2 : 2 ≤ hs.length
  l4 : hs.length ≤ 4
  ok : ∀ h ∈ hs, OkHand [b] h
  sm : ∀ h ∈ hs, h.2.length ≤ 8
theorem GH.gate {b : Box} {hs : List Hand} (G : GH b hs) (ob : OkBox b) : OkGate ⟨[b], hs⟩ :=
  ⟨okBoxes_rep (k := 1) ob (Nat.le_refl 1) (by decide), by show 1 ≤ hs.length; have := G.l2; omega, G.l4, G.ok⟩
theorem GH.sz {b : Box} {hs : List Hand} (G : GH b hs) (ob : OkBox b) : sz1 ⟨[b], hs⟩ := sz1_le (k1 := 10) (n1 := 1) (k2 := 8) (fun x hx => by
  rw [List.mem_singleton.mp hx]
  have := ob.1
  have := ob.2.2
  omega) (by simp) G.sm (by decide) (by decide)
theorem GH.more {b : Box} {hs : List Hand} (G : GH b hs) (ob : OkBox b) {k : Nat} (h1 : 1 ≤ k) (h2 : k ≤ 12) : OkGate ⟨List.replicate k b, hs⟩ :=
  ⟨okBoxes_rep ob h1 h2, by show 1 ≤ hs.length; have := G.l2; omega, G.l4, fun h hh => okHand_more h1 (G.ok h hh)⟩
theorem GH.one {b : Box} {hs : List Hand} (G : GH b hs) (ob : OkBox b) : OkGate ⟨[b], hs.take 1⟩ :=
  ⟨okBoxes_rep (k := 1) ob (Nat.le_refl 1) (by decide), by show 1 ≤ (hs.take 1).length; rw [List.length_take]; have := G.l2; omega, by show (hs.take 1).length ≤ 4; rw [List.length_take]; omega, fun h hh => G.ok h (List.mem_of_mem_take hh)⟩
theorem GH.set {b : Box} {hs : List Hand} (G : GH b hs) {h0 : Hand} (h : hs[0]? = some h0) : GH b (hs.set 1 h0) := by
  have hm := List.mem_of_getElem? h
  refine ⟨by rw [List.length_set]; exact G.l2, by rw [List.length_set]; exact G.l4, fun x hx => ?_, fun x hx => ?_⟩
  · rcases List.mem_or_eq_of_mem_set hx with z | z
    · exact G.ok x z
    · rw [z]; exact G.ok h0 hm
  · rcases List.mem_or_eq_of_mem_set hx with z | z
    · exact G.sm x z
    · rw [z]; exact G.sm h0 hm
noncomputable def comesB (g : Gt) (i : Nat) : Bool := @decide (Comes g (begM g) i) (Classical.propDecidable _)
theorem comesB_iff {g : Gt} {i : Nat} : comesB g i = true ↔ Comes g (begM g) i := @decide_eq_true_iff _ (Classical.propDecidable _)
noncomputable def stayI (g : Gt) (n : Nat) : List Int := ((List.range n).filter fun k => !comesB g k).map fun (k : Nat) => (k : Int)
theorem stayI_yes {g : Gt} {i : Nat} (h : comesB g i = false) : stayI g (i + 1) = stayI g i ++ [(i : Int)] := by
  unfold stayI
  rw [List.range_succ, List.filter_append, List.map_append]
  simp [h]
theorem stayI_no {g : Gt} {i : Nat} (h : comesB g i = true) : stayI g (i + 1) = stayI g i := by
  unfold stayI
  rw [List.range_succ, List.filter_append, List.map_append]
  simp [h]
theorem stay_0 {g : Gt} (h : ¬ Comes g (begM g) 0) : ∃ r, stayI g 2 = 0 :: r := by
  have e0 : comesB g 0 = false := by
    cases z : comesB g 0 with
    | false => rfl
    | true => exact absurd (comesB_iff.mp z) h
  have e1 : stayI g 1 = [0] := stayI_yes e0
  cases z : comesB g 1 with
  | false => exact ⟨[1], by rw [stayI_yes z, e1]; rfl⟩
  | true => exact ⟨[], by rw [stayI_no z, e1]⟩
theorem stay_1 {g : Gt} (h0 : Comes g (begM g) 0) (h : ¬ Comes g (begM g) 1) : stayI g 2 = [1] := by
  have e1 : stayI g 1 = [] := stayI_no (comesB_iff.mpr h0)
  have e0 : comesB g 1 = false := by
    cases z : comesB g 1 with
    | false => rfl
    | true => exact absurd (comesB_iff.mp z) h
  rw [stayI_yes e0, e1]
  rfl
theorem stay_2 {g : Gt} (h0 : Comes g (begM g) 0) (h : Comes g (begM g) 1) : stayI g 2 = [] := by
  have e1 : stayI g 1 = [] := stayI_no (comesB_iff.mpr h0)
  rw [stayI_no (comesB_iff.mpr h), e1]
end Gh
namespace Gh
open PySem L2 Dl
variable [KOf]
theorem isIn_at {g : Gt} {s : Stt} {i : Nat} (h : atB isIn g s i = true) : ∃ hd x, g.hs[i]? = some hd ∧ s.p[i]? = some x ∧ x = (inAt hd : Nat) := by
  unfold atB at h
  split at h
  · rename_i hd x e1 e2
    exact ⟨hd, x, e1, e2, of_decide_eq_true h⟩
  · cases h
end Gh

/-! Small tries: the ways through all programs of a form. -/
namespace Dl
open PySem PySem.Spec PyProof.Rows L2
variable [KOf]
/-! ### xs.count(t) of texts -/
theorem strs_of_vals : ∀ {ys : List Str} {us : List Value}, Vals (ys.map V.str) us → StrsAre us ys
  | [], us, h => by
    cases h
    exact .nil
  | y :: r, us, h => by
    cases h with
    | cons r1 r2 =>
      obtain ⟨t, rfl⟩ := r1
      exact .cons y t (strs_of_vals r2)
theorem count_strs (k : Str) : ∀ {vs : List Value} {ys : List Str}, StrsAre vs ys → vs.countP (isStrOf k) = ys.count k
  | _, _, .nil => rfl
  | _, _, .cons n u h => by
    rw [List.countP_cons, List.count_cons, count_strs k h]
    rfl
def rCntS (K : PySem.W.Frag) : V → List V → Hp → VK → Prop := fun x xs H Q => ∃ (p : Addr) (ns : List Str) (k : Str), x = .ref p ∧ xs = [.str k] ∧ SqL K H p (ns.map V.str) ∧ Q (.int (ns.count k : Nat)) H
theorem mt_lcountS {X : Cx} : MtR X "list.count" (rCntS X.K) := by
  intro pins s σ H x xs v us Q I rx rxs h
  obtain ⟨p, ns, k, rfl, rfl, hs, q⟩ := h
  cases rx
  obtain ⟨u, rfl, ru⟩ := rxs.one
  obtain ⟨t, rfl⟩ := ru
  obtain ⟨its, rv, ⟨⟨cls, dd, data, sl⟩, n, ho, hc, hdn, hd⟩, hlen⟩ := I.list hs
  simp only at hc hd
  subst hc hd
  have hi := strs_of_vals rv
  refine call_meets PySem.F.slot_list_count ⟨_, ho, rfl⟩ PySem.F.entry_list_count (PySem.F.args_list_count_2 _ _)
    (SeqAt.list_countAt p its.toArray n dd sl (.str k t) (isStrOf k)) ⟨ho, fun y hy => (eq_isStrOf k t hi y (by simpa using hy)).at _ _, ?_⟩
  have ec : its.toArray.toList.countP (isStrOf k) = ns.count k := count_strs k hi
  refine ⟨.int (ns.count k : Nat), H, I.tok _, ⟨s.toks, ?_⟩, q⟩
  show Value.int ((its.toArray.toList.countP (isStrOf k) : Nat) : Int) s.toks = Value.int ((ns.count k : Nat) : Int) s.toks
  rw [ec]
theorem repL_strs {B : Addr → Prop} {H : Hp} : ∀ {ys : List Str} {vs : List V}, RepL B H vs (ys.map D.str) → vs = ys.map V.str
  | [], vs, h => by
    cases h
    rfl
  | y :: r, vs, h => by
    cases h with
    | cons r1 r2 =>
      cases r1
      rw [repL_strs r2]
      rfl
def wCntS (wo w : WE) : WE := fun ρ Φ => wo ρ fun d => match d with
  | .lst xs => w ρ fun y => ∃ (ys : List Str) (k : Str), xs = ys.map D.str ∧ y = .str k ∧ Φ (.int (ys.count k : Nat))
  | _ => False
section
variable {X : Cx} {E : XK} {o e : Expr} {to te : TE} {wo w : WE}
theorem de_countS {apos cpos : Pos} (K : PySem.W.Frag) (ho : DE X E o to wo) (he : DE X E e te w)
    (hst : starEach (e :: []) X.env = (false, eval e X.env) :: starEach [] X.env := by rfl) (hbase : attributeBase o "count" X.env (eval o X.env) = eval o X.env := by rfl)
    (hfew : ((backTo cpos (starEach (e :: []) X.env)).all (fun x => !x.1) && (backToKw cpos (keywordEach [] X.env)).all (fun x => x.1.isSome)
      && decide ((e :: []).length + ([] : List Keyword).length + (if ([] : List Keyword).isEmpty then 0 else 1) < 30)) = true := by rfl)
    (hline : (apos.endLine == cpos.line) = true := by rfl) (hplain : (backTo cpos (starEach [] X.env)).any (·.1) = false := by rfl) (hK : X.K = K := by rfl) (hk : K = KOf.K := by rfl) :
    DE X E (.Call (.Attribute o "count" apos) [e] [] cpos) (tBM K "list" (rCntS K) to (tCons te tNil)) (wCntS wo w) := by
  subst hk
  refine ⟨hK ▸ pe_bm PySem.F.plainAttrs_list PySem.F.slot_list_count PySem.F.type_list_count mt_lcountS ho.p (pa_cons he.p pa_nil hst) hbase hfew hline hst hplain, fun δ M σ H ρ R Φ Q h k => ?_⟩
  refine ho.a δ M σ H ρ R _ _ h fun v H1 d e1 r1 h1 => ?_
  cases r1 <;> first | exact False.elim h1 | skip
  rename_i a vs xs n s rl
  refine ⟨.inl ⟨rfl, _, SqL.of s⟩, ?_⟩
  refine he.a δ M σ H1 ρ (R.ext e1) _ _ h1 fun u H2 y e2 r2 h2 => ?_
  obtain ⟨ys, k', rfl, rfl, h2⟩ := h2
  cases r2
  have rl2 : Rep (Bn δ M) H2 (.ref a) (.lst (ys.map D.str)) := (Rep.lst n s rl).keep e2.kept
  cases rl2 with
  | lst n2 s2 rl3 =>
    have ev := repL_strs rl3
    subst ev
    exact ⟨a, ys, k', rfl, rfl, SqL.of s2, k _ H2 _ (e1.trans e2) (.int _) h2⟩
end
end Dl
namespace Gh
open PySem L2 Dl
variable [KOf]
/-! ### one of each -/
def chG {α : Type} (rows : List (List α)) (p : List α) : List (List α) := rows.flatMap fun row => p.map fun x => row ++ [x]
def choicesG {α : Type} (ps : List (List α)) : List (List α) := ps.foldl chG [[]]
def manyG {α : Type} (ps : List (List α)) : Nat := prodN (ps.map List.length)
theorem manyG_snoc {α : Type} (ps : List (List α)) (p : List α) : manyG (ps ++ [p]) = manyG ps * p.length := by
  unfold manyG
  rw [List.map_append]
  exact prodN_snoc _ _
theorem choicesG_snoc {α : Type} (ps : List (List α)) (p : List α) : choicesG (ps ++ [p]) = chG (choicesG ps) p := by
  unfold choicesG
  rw [List.foldl_append]
  rfl
theorem chG_len {α : Type} (rows : List (List α)) (p : List α) : (chG rows p).length = rows.length * p.length := flat_len fun x _ => List.length_map _
theorem choicesG_len {α : Type} (ps : List (List α)) : (choicesG ps).length = manyG ps := by
  induction ps using snocInd with
  | h0 => rfl
  | h1 ps p ih => rw [choicesG_snoc, chG_len, ih, manyG_snoc]
theorem foldl_ch {α : Type} : ∀ (ps : List (List α)) (rows : List (List α)), ps.foldl chG rows = rows.flatMap fun r => (choicesG ps).map fun q => r ++ q := by
  intro ps
  induction ps using snocInd with
  | h0 => intro rows; simp [choicesG]
  | h1 ps p ih =>
    intro rows
    rw [List.foldl_append, ih rows, choicesG_snoc]
    show chG _ p = _
    unfold chG
    rw [List.flatMap_assoc]
    congr 1
    funext r
    rw [List.flatMap_map, List.map_flatMap]
    congr 1
    funext q
    rw [List.map_map]
    congr 1
    funext x
    show r ++ q ++ [x] = r ++ (q ++ [x])
    rw [List.append_assoc]
theorem choicesG_cons {α : Type} (p : List α) (ps : List (List α)) : choicesG (p :: ps) = p.flatMap fun x => (choicesG ps).map (x :: ·) := by
  show ps.foldl chG (chG [[]] p) = _
  rw [foldl_ch]
  unfold chG
  rw [List.flatMap_cons, List.flatMap_nil, List.append_nil, List.flatMap_map]
  rfl
theorem chG_next {α : Type} {rows : List (List α)} {p row : List α} {i : Nat} (h : rows[i]? = some row) : chG (rows.take (i + 1)) p = chG (rows.take i) p ++ p.map fun x => row ++ [x] := by
  unfold chG
  rw [take_next' h, List.flatMap_append]
  simp
theorem chG_map {α β : Type} (f : α → β) (rows : List (List α)) (p : List α) : chG (rows.map (List.map f)) (p.map f) = (chG rows p).map (List.map f) := by
  unfold chG
  rw [List.flatMap_map, List.map_flatMap]
  congr 1
  funext r
  rw [List.map_map, List.map_map]
  congr 1
  funext x
  simp
theorem choicesG_map {α β : Type} (f : α → β) (ps : List (List α)) : choicesG (ps.map (List.map f)) = (choicesG ps).map (List.map f) := by
  induction ps using snocInd with
  | h0 => rfl
  | h1 ps p ih => rw [List.map_append, List.map_singleton, choicesG_snoc, choicesG_snoc, ih, chG_map]
theorem manyG_map {α β : Type} (f : α → β) (ps : List (List α)) : manyG (ps.map (List.map f)) = manyG ps := by
  unfold manyG
  rw [List.map_map]
  congr 1
  refine List.map_congr_left fun p _ => ?_
  exact List.length_map _
theorem manyG_take {α : Type} {ps : List (List α)} (h : ∀ p ∈ ps, p ≠ []) (i : Nat) : manyG (ps.take i) ≤ manyG ps := by
  have pos : ∀ qs : List (List α), (∀ p ∈ qs, p ≠ []) → 1 ≤ manyG qs := fun qs => by
    induction qs with
    | nil => exact fun _ => Nat.le_refl 1
    | cons q qs ih =>
      intro hq
      have h1 : 1 ≤ q.length := List.length_pos_iff.mpr (hq q List.mem_cons_self)
      exact Nat.mul_pos h1 (ih fun p hp => hq p (List.mem_cons_of_mem _ hp))
  have e : manyG ps = manyG (ps.take i) * manyG (ps.drop i) := by
    have mul : ∀ a b : List (List α), manyG (a ++ b) = manyG a * manyG b := fun a b => by
      induction a with
      | nil => show manyG b = 1 * manyG b; rw [Nat.one_mul]
      | cons q a ih => show q.length * manyG (a ++ b) = q.length * manyG a * manyG b; rw [ih, Nat.mul_assoc]
    rw [← mul, List.take_append_drop]
  rw [e]
  exact Nat.le_mul_of_pos_right _ (pos _ fun p hp => h p (List.mem_of_mem_drop hp))
theorem choicesG_row {α : Type} : ∀ {ps : List (List α)} {r : List α}, r ∈ choicesG ps → r.length = ps.length ∧ ∀ (i : Nat) (y : α) (p : List α), r[i]? = some y → ps[i]? = some p → y ∈ p
  | [], r, h => by
    have : r = [] := List.mem_singleton.mp h
    subst this
    exact ⟨rfl, fun i y p h => nomatch h⟩
  | q :: ps, r, h => by
    rw [choicesG_cons] at h
    obtain ⟨x, hx, h⟩ := List.mem_flatMap.mp h
    obtain ⟨r', hr, rfl⟩ := List.mem_map.mp h
    obtain ⟨h1, h2⟩ := choicesG_row hr
    refine ⟨congrArg (· + 1) h1, fun i y p e1 e2 => ?_⟩
    cases i with
    | zero => cases e1; cases e2; exact hx
    | succ i => exact h2 i y p e1 e2
def PP_many_choicesD (ss : List S) (Φ : D → Prop) : Prop := ∃ ps : List (List D), ss = [.d (.lst (ps.map .lst))] ∧ (∀ p ∈ ps, p.length ≤ 100) ∧ Φ (.int (manyG ps : Nat))
def PP_choicesD (ss : List S) (Φ : D → Prop) : Prop := ∃ ps : List (List D), ss = [.d (.lst (ps.map .lst))] ∧ (∀ p ∈ ps, p ≠ []) ∧ ps.length ≤ 100 ∧ manyG ps ≤ 5000 ∧ Φ (.lst ((choicesG ps).map .tup))
/-! ### the programs of a form -/
def putsL (m : Nat) : List Stp := (List.range (m + 1)).map fun (n : Nat) => .put 0 n
def goesL (m k : Nat) : List Stp := (List.range (m + 1)).map fun (n : Nat) => .go 0 [(n : Int)] k
def aheadL (m k : Nat) : Nat → List (List Stp)
  | 0 => []
  | a + 1 => (putsL m ++ goesL m k) :: aheadL m (k + 1) a
def partsM (m a f : Nat) : List (List Stp) := [[.go 0 [] 1]] ++ aheadL m 1 a ++ [[.inn]] ++ List.replicate f (putsL m)
def dParts (ps : List (List Stp)) : D := .lst (ps.map fun p => .lst (p.map dStp))
def PP_steps_tried (ss : List S) (Φ : D → Prop) : Prop := ∃ m a f : Nat, ss = [.d (.int m), .d (.int a), .d (.int f)] ∧ m ≤ 9 ∧ a ≤ 9 ∧ f ≤ 9 ∧ Φ (dParts (partsM m a f))
def twinG (m : Nat) (st : List Stp) : Gt := ⟨[(0, (m : Int))], [(1, st), (1, st)]⟩
def PP_twins (C : Addr) (ss : List S) (Φ : D → Prop) : Prop := ∃ (m : Nat) (st : List Stp), ss = [.d (.int m), .d (.tup (st.map dStp))] ∧ OkGate (twinG m st) ∧ st.length ≤ 100 ∧ Φ (dObj C (twinG m st))
/-- whether a hand alone comes within by this program, the box holding h -/
def alone : Int → List Stp → Bool
  | _, [] => false
  | _, .inn :: _ => true
  | _, .put _ n :: r => alone n r
  | h, .go _ ns _ :: r => if h ∈ ns then false else alone h r
def twoN (m a f : Nat) : Nat := (choicesG (partsM m a f)).countP (alone 0)
def PP_tries (ss : List S) (Φ : D → Prop) : Prop := ∃ m a f : Nat, ss = [.d (.int m), .d (.int a), .d (.int f)] ∧ m ≤ 9 ∧ a ≤ 9 ∧ f ≤ 9 ∧ manyG (partsM m a f) ≤ 4096 ∧
  Φ (.tup [.int (manyG (partsM m a f) : Nat), .int (twoN m a f : Nat), .int ((manyG (partsM m a f) : Nat) - (twoN m a f : Nat) : Int)])
def BadT (m a f : Int) : Prop := ¬ ((0 ≤ m ∧ m ≤ 9) ∧ (0 ≤ a ∧ a ≤ 9) ∧ (0 ≤ f ∧ f ≤ 9)) ∨ ∃ m' a' f' : Nat, m = m' ∧ a = a' ∧ f = f' ∧ m' ≤ 9 ∧ a' ≤ 9 ∧ f' ≤ 9 ∧ 4096 < manyG (partsM m' a' f')
def PP_triesX (aO : Addr) (ss : List S) (Φ : D → Prop) (Ψ : XD → Prop) : Prop := ∃ m a f : Int, ss = [.d (.int m), .d (.int a), .d (.int f)] ∧ BadT m a f ∧ Ψ ⟨.ref aO, none⟩
/-! ### the law's own -/
inductive LStp where
  | put (n : Int) | wait (n : Int)
def dLS : LStp → D
  | .put n => .tup [.str "put", .int n]
  | .wait n => .tup [.str "wait", .int n]
def goes : Int → List LStp → Bool
  | _, [] => true
  | _, .put n :: r => goes n r
  | h, .wait n :: r => if h = n then false else goes h r
def P_goes_alone (ss : List S) (Φ : D → Prop) : Prop := ∃ (m : Int) (row : List LStp), ss = [.d (.int m), .d (.lst (row.map dLS))] ∧ row.length ≤ 100 ∧ Φ (.bl (goes 0 row))
def lpart (m : Nat) : List LStp := (List.range (m + 1)).flatMap fun (n : Nat) => [.put n, .wait n]
def everyM (m a : Nat) : List (List LStp) := choicesG (List.replicate a (lpart m))
def P_every (ss : List S) (Φ : D → Prop) : Prop := ∃ m a : Nat, ss = [.d (.int m), .d (.int a)] ∧ m ≤ 9 ∧ a ≤ 9 ∧ (2 * (m + 1)) ^ a ≤ 5000 ∧ Φ (.lst ((everyM m a).map fun r => .lst (r.map dLS)))
def P_refusedT (ss : List S) (Φ : D → Prop) : Prop := ∃ m a f : Int, ss = [.d (.int m), .d (.int a), .d (.int f)] ∧ BadT m a f ∧ Φ (.bl true)
end Gh
namespace Gh
open PySem L2 Dl
variable [KOf]
/-! ### the counts agree -/
theorem countP_flat {α β : Type} (q : β → Bool) (f : α → List β) : ∀ l : List α, (l.flatMap f).countP q = (l.map fun x => (f x).countP q).sum
  | [] => rfl
  | x :: r => by rw [List.flatMap_cons, List.countP_append, countP_flat q f r, List.map_cons, List.sum_cons]
theorem sum_add {α : Type} (f g : α → Nat) : ∀ l : List α, (l.map fun x => f x + g x).sum = (l.map f).sum + (l.map g).sum
  | [] => rfl
  | x :: r => by
    simp only [List.map_cons, List.sum_cons]
    rw [sum_add f g r]
    omega
theorem sum_mul {α : Type} (f : α → Nat) (k : Nat) : ∀ l : List α, (l.map fun x => f x * k).sum = (l.map f).sum * k
  | [] => by simp
  | x :: r => by
    simp only [List.map_cons, List.sum_cons]
    rw [sum_mul f k r, Nat.add_mul]
theorem count_cons {α : Type} (q : List α → Bool) (p : List α) (ps : List (List α)) : (choicesG (p :: ps)).countP q = (p.map fun x => (choicesG ps).countP fun r => q (x :: r)).sum := by
  rw [choicesG_cons, countP_flat]
  congr 1
  refine List.map_congr_left fun x _ => ?_
  rw [List.countP_map]
  rfl
theorem countP_true {α : Type} (l : List α) : l.countP (fun _ => true) = l.length := by
  induction l with
  | nil => rfl
  | cons x r ih => rw [List.countP_cons, ih]; rfl
theorem countP_false {α : Type} (l : List α) : l.countP (fun _ => false) = 0 := by
  induction l with
  | nil => rfl
  | cons x r ih => rw [List.countP_cons, ih]; rfl
theorem many_reps {α : Type} (p : List α) : ∀ f : Nat, manyG (List.replicate f p) = p.length ^ f
  | 0 => rfl
  | f + 1 => by
    show p.length * manyG (List.replicate f p) = _
    rw [many_reps p f, Nat.pow_succ, Nat.mul_comm]
theorem puts_len (m : Nat) : (putsL m).length = m + 1 := by unfold putsL; rw [List.length_map, List.length_range]
theorem count_ahead (m f : Nat) : ∀ (a k : Nat) (h : Int), (choicesG (aheadL m k a ++ ([[.inn]] ++ List.replicate f (putsL m)))).countP (alone h) = (everyM m a).countP (goes h) * (m + 1) ^ f
  | 0, k, h => by
    have e1 : (everyM m 0).countP (goes h) = 1 := rfl
    rw [e1, Nat.one_mul]
    show (choicesG ([.inn] :: List.replicate f (putsL m))).countP (alone h) = _
    rw [count_cons]
    show (choicesG (List.replicate f (putsL m))).countP (fun r => true) + 0 = _
    rw [countP_true, choicesG_len, many_reps, puts_len]
    rfl
  | a + 1, k, h => by
    have ih := count_ahead m f a (k + 1)
    have e1 : (everyM m (a + 1)).countP (goes h) = ((List.range (m + 1)).map fun (n : Nat) => (everyM m a).countP (goes n)).sum + ((List.range (m + 1)).map fun (n : Nat) => if h = n then 0 else (everyM m a).countP (goes h)).sum := by
      show (choicesG (lpart m :: List.replicate a (lpart m))).countP (goes h) = _
      rw [count_cons]
      unfold lpart
      rw [List.map_flatMap, ← sum_add]
      have fl : ∀ (l : List Nat) (g : Nat → List Nat), (l.flatMap g).sum = (l.map fun x => (g x).sum).sum := fun l g => by
        induction l with
        | nil => rfl
        | cons x r ih => rw [List.flatMap_cons, List.sum_append, ih, List.map_cons, List.sum_cons]
      rw [fl]
      congr 1
      refine List.map_congr_left fun n _ => ?_
      have z : (List.countP (fun r => goes h (LStp.wait (n : Int) :: r)) (everyM m a)) = if h = n then 0 else (everyM m a).countP (goes h) := by
        by_cases hn : h = n
        · rw [if_pos hn]
          have : (fun r => goes h (LStp.wait (n : Int) :: r)) = fun _ => false := funext fun r => by show (if h = n then false else goes h r) = false; rw [if_pos hn]
          rw [this, countP_false]
        · rw [if_neg hn]
          have : (fun r => goes h (LStp.wait (n : Int) :: r)) = goes h := funext fun r => by show (if h = n then false else goes h r) = goes h r; rw [if_neg hn]
          rw [this]
      show List.sum [(everyM m a).countP (goes n), (everyM m a).countP (fun r => goes h (LStp.wait (n : Int) :: r))] = _
      rw [z]
      simp
    have e2 : ∀ (g : Int → Nat), True := fun _ => trivial
    show (choicesG ((putsL m ++ goesL m k) :: (aheadL m (k + 1) a ++ ([[.inn]] ++ List.replicate f (putsL m))))).countP (alone h) = _
    rw [count_cons, List.map_append, List.sum_append, e1, Nat.add_mul, ← sum_mul, ← sum_mul]
    unfold putsL goesL at *
    rw [List.map_map, List.map_map]
    have ad : ∀ {x y z w : Nat}, x = y → z = w → x + z = y + w := fun h1 h2 => by rw [h1, h2]
    refine ad ?_ ?_
    · congr 1
      refine List.map_congr_left fun n _ => ?_
      exact ih n
    · congr 1
      refine List.map_congr_left fun n _ => ?_
      have q := ih h
      show List.countP (fun r => alone h (Stp.go 0 [(n : Int)] k :: r)) _ = _
      by_cases hn : h = n
      · have : (fun r => alone h (Stp.go 0 [(n : Int)] k :: r)) = fun _ => false := funext fun r => by show (if h ∈ [(n : Int)] then false else alone h r) = false; rw [if_pos (by simp [hn])]
        rw [this, countP_false, if_pos hn, Nat.zero_mul]
      · have : (fun r => alone h (Stp.go 0 [(n : Int)] k :: r)) = alone h := funext fun r => by show (if h ∈ [(n : Int)] then false else alone h r) = alone h r; rw [if_neg (by simpa using hn)]
        rw [this, if_neg hn]
        exact q
theorem two_eq (m a f : Nat) : twoN m a f = (everyM m a).countP (goes 0) * (m + 1) ^ f := by
  unfold twoN
  have e : partsM m a f = [.go 0 [] 1] :: (aheadL m 1 a ++ ([[.inn]] ++ List.replicate f (putsL m))) := by
    unfold partsM
    simp [List.append_assoc]
  rw [e, count_cons, ← count_ahead m f a 1 0]
  show (List.sum [List.countP (fun r => alone 0 (Stp.go 0 [] 1 :: r)) _]) = _
  rw [List.sum_cons, List.sum_nil, Nat.add_zero]
  rfl
theorem ahead_len (m : Nat) : ∀ (a k : Nat), (aheadL m k a).length = a
  | 0, _ => rfl
  | a + 1, k => congrArg (· + 1) (ahead_len m a (k + 1))
theorem goes_len (m k : Nat) : (goesL m k).length = m + 1 := by unfold goesL; rw [List.length_map, List.length_range]
theorem manyG_app {α : Type} : ∀ a b : List (List α), manyG (a ++ b) = manyG a * manyG b
  | [], b => by show manyG b = 1 * manyG b; rw [Nat.one_mul]
  | q :: a, b => by show q.length * manyG (a ++ b) = q.length * manyG a * manyG b; rw [manyG_app a b, Nat.mul_assoc]
theorem ahead_many (m : Nat) : ∀ (a k : Nat), manyG (aheadL m k a) = (2 * (m + 1)) ^ a
  | 0, _ => rfl
  | a + 1, k => by
    show (putsL m ++ goesL m k).length * manyG (aheadL m (k + 1) a) = _
    rw [ahead_many m a (k + 1), List.length_append, puts_len, goes_len, Nat.pow_succ, Nat.mul_comm]
    congr 1
    omega
theorem lpart_len (m : Nat) : (lpart m).length = 2 * (m + 1) := by
  unfold lpart
  rw [flat_len (k := 2) fun x _ => rfl, List.length_range, Nat.mul_comm]
theorem every_len (m a : Nat) : (everyM m a).length = (2 * (m + 1)) ^ a := by
  unfold everyM
  rw [choicesG_len, many_reps, lpart_len]
theorem parts_many (m a f : Nat) : manyG (partsM m a f) = (2 * (m + 1)) ^ a * (m + 1) ^ f := by
  unfold partsM
  rw [manyG_app, manyG_app, manyG_app, ahead_many, many_reps, puts_len]
  show 1 * 1 * _ * (1 * 1) * _ = _
  simp only [Nat.one_mul, Nat.mul_one]
end Gh

/-! Twins: two hands of one tried program. -/
namespace Gh
open PySem L2 Dl
variable [KOf]
/-- what may stand at the place i -/
def FitS (m i : Nat) : Stp → Prop
  | .put b n => b = 0 ∧ 0 ≤ n ∧ n ≤ m
  | .go b ns c => b = 0 ∧ ((ns = [] ∧ c = 1 ∧ i = 0) ∨ ∃ n : Int, ns = [n] ∧ 0 ≤ n ∧ n ≤ m ∧ c = (i : Int) ∧ 1 ≤ i)
  | .inn => True
structure Fit (m k : Nat) (st : List Stp) : Prop where
  m9 : m ≤ 9
  l20 : st.length ≤ 20
  k0 : 0 < k
  fit : ∀ (i : Nat) (s : Stp), st[i]? = some s → FitS m i s
  inn : st[k]? = some .inn
  one : ∀ j : Nat, st[j]? = some .inn → j = k
theorem Fit.kl {m k : Nat} {st : List Stp} (F : Fit m k st) : k < st.length := (List.getElem?_eq_some_iff.mp F.inn).1
theorem Fit.hand {m k : Nat} {st : List Stp} (F : Fit m k st) : OkHand [(0, (m : Int))] (1, st) := by
  have hk := F.kl
  have k0 := F.k0
  refine ⟨by show 2 ≤ st.length; omega, by show st.length ≤ 24; have := F.l20; omega, fun s hs => ?_, k, k0, F.inn, F.one, Int.le_refl 1, by show (1 : Int) ≤ k; omega⟩
  obtain ⟨i, hi⟩ := List.getElem?_of_mem hs
  have hil : i < st.length := (List.getElem?_eq_some_iff.mp hi).1
  have f := F.fit i s hi
  cases s with
  | put b n =>
    obtain ⟨rfl, n0, n1⟩ := f
    exact ⟨(0, (m : Int)), Int.le_refl 0, rfl, n0, n1⟩
  | go b ns c =>
    obtain ⟨rfl, f⟩ := f
    rcases f with ⟨rfl, rfl, _⟩ | ⟨n, rfl, n0, n1, rfl, i1⟩
    · exact ⟨(0, (m : Int)), Int.le_refl 0, rfl, List.Pairwise.nil, (fun _ h => nomatch h), Int.le_refl 1, by show (1 : Int) < (st.length : Nat); omega⟩
    · refine ⟨(0, (m : Int)), Int.le_refl 0, rfl, List.pairwise_singleton _ _, fun x hx => ?_, by show (1 : Int) ≤ i; omega, by show (i : Int) < (st.length : Nat); omega⟩
      rw [List.mem_singleton.mp hx]
      exact ⟨n0, by show n ≤ (m : Int); omega⟩
  | inn => exact trivial
theorem Fit.gate {m k : Nat} {st : List Stp} (F : Fit m k st) : OkGate (twinG m st) := by
  have m9 := F.m9
  refine ⟨⟨Nat.le_refl 1, by show 1 ≤ 12; decide, fun b hb => ?_⟩, by show 1 ≤ 2; decide, by show 2 ≤ 4; decide, fun h hh => ?_⟩
  · rw [List.mem_singleton.mp hb]
    exact ⟨Int.le_refl 0, by show (0 : Int) ≤ m; omega, by show (m : Int) ≤ 9; omega⟩
  · have : h = (1, st) := by
      rcases List.mem_cons.mp hh with z | z
      · exact z
      · exact List.mem_singleton.mp z
    rw [this]
    exact F.hand
theorem Fit.sz {m k : Nat} {st : List Stp} (F : Fit m k st) : sz1 (twinG m st) := sz1_le (k1 := 10) (n1 := 1) (k2 := 20) (fun x hx => by
  rw [List.mem_singleton.mp hx]
  have := F.m9
  show ((m : Int) + 1).toNat ≤ 10
  omega) (by simp) (fun h hh => by
    have : h = (1, st) := by
      rcases List.mem_cons.mp hh with z | z
      · exact z
      · exact List.mem_singleton.mp z
    rw [this]
    exact F.l20) (by decide) (by decide)
theorem comes_step (g : Gt) (s : Stt) (h : Nat) : Comes g s h ↔ atB isIn g s h = true ∨ Comes g (doneM g s h) h := by
  constructor
  · rintro ⟨k, hk⟩
    cases k with
    | zero => exact .inl hk
    | succ k => exact .inr ⟨k, hk⟩
  · rintro (h1 | ⟨k, hk⟩)
    · exact ⟨0, h1⟩
    · exact ⟨k + 1, hk⟩
theorem never_fix {g : Gt} {s : Stt} {h : Nat} (e : doneM g s h = s) (n : atB isIn g s h = false) : ¬ Comes g s h := by
  rintro ⟨k, hk⟩
  have : ∀ k, walkM g h k s = s := fun k => by
    induction k with
    | zero => rfl
    | succ k ih => rw [walkM_succ, ih, e]
  rw [this k, n] at hk
  cases hk
theorem comes_alone {m k : Nat} {st : List Stp} (F : Fit m k st) {h : Nat} (hh : h < 2) : ∀ (rest : List Stp) (i : Nat) (v : Int) (s : Stt), st.drop i = rest → i ≤ k → s.b = [v] → s.p.length = 2 → s.p[h]? = some (i : Int) → (Comes (twinG m st) s h ↔ alone v rest = true)
  | [], i, v, s, hd, hi, _, _, _ => by
    have := F.kl
    have : (st.drop i).length = 0 := by rw [hd]; rfl
    rw [List.length_drop] at this
    omega
  | x :: r, i, v, s, hd, hi, hb, hp, hx => by
    have hkl := F.kl
    have hil : i < st.length := by omega
    have e0 : st[i]? = some x := by
      have : (st.drop i)[0]? = some x := by rw [hd]; rfl
      rwa [List.getElem?_drop] at this
    have er : st.drop (i + 1) = r := by
      rw [← List.drop_drop, hd]
      rfl
    have eh : (twinG m st).hs[h]? = some (1, st) := by
      match h, hh with
      | 0, _ => rfl
      | 1, _ => rfl
    have ein : inAt (1, st) = k := F.one _ (inAt_ok F.hand).1
    have eat : atB isIn (twinG m st) s h = decide ((i : Int) = (k : Nat)) := by
      unfold atB
      rw [eh, hx]
      show decide ((i : Int) = (inAt (1, st) : Nat)) = _
      rw [ein]
    have f := F.fit i x e0
    have ed : doneM (twinG m st) s h = stepM s h (1, st) i x := doneM_eq eh hx (by show st[((i : Nat) : Int).toNat]? = some x; rw [Int.toNat_natCast]; exact e0)
    have next : x ≠ .inn → i + 1 ≤ k ∧ atB isIn (twinG m st) s h = false ∧ nextAt (1, st) (i : Int) = ((i + 1 : Nat) : Int) := fun hn => by
      have ne : i ≠ k := fun z => by
        rw [z, F.inn] at e0
        exact hn (Option.some.inj e0).symm
      refine ⟨by omega, by rw [eat]; exact decide_eq_false (by omega), ?_⟩
      unfold nextAt
      show ((i : Int) + 1) % (st.length : Nat) = _
      rw [Int.emod_eq_of_lt (by omega) (by omega)]
      rfl
    have lp : ∀ w : Int, (s.p.set h w).length = 2 := fun w => by rw [List.length_set]; exact hp
    have gp : ∀ w : Int, (s.p.set h w)[h]? = some w := fun w => by rw [List.getElem?_set_self (by omega)]
    cases x with
    | inn =>
      have ik : i = k := F.one i e0
      exact ⟨fun _ => rfl, fun _ => ⟨0, by show atB isIn (twinG m st) s h = true; rw [eat]; exact decide_eq_true (by rw [ik])⟩⟩
    | put b n =>
      obtain ⟨h1, h2, h3⟩ := next (fun z => nomatch z)
      obtain ⟨rfl, _, _⟩ := f
      rw [comes_step, h2, ed]
      have ih := comes_alone F hh r (i + 1) n ⟨s.b.set 0 n, s.p.set h (nextAt (1, st) (i : Int))⟩ er h1 (by show s.b.set 0 n = [n]; rw [hb]; rfl) (lp _) (by show (s.p.set h _)[h]? = _; rw [gp, h3])
      exact ⟨fun z => ih.mp (z.elim (fun y => nomatch y) id), fun z => .inr (ih.mpr z)⟩
    | go b ns c =>
      obtain ⟨h1, h2, h3⟩ := next (fun z => nomatch z)
      obtain ⟨rfl, f⟩ := f
      have ev : s.b.getD (0 : Int).toNat 0 = v := by rw [hb]; rfl
      rcases f with ⟨rfl, rfl, rfl⟩ | ⟨n, rfl, _, _, rfl, i1⟩
      · rw [comes_step, h2, ed]
        have ih := comes_alone F hh r 1 v ⟨s.b, s.p.set h (nextAt (1, st) ((0 : Nat) : Int))⟩ er h1 hb (lp _) (by show (s.p.set h _)[h]? = _; rw [gp, h3])
        have e5 : stepM s h (1, st) ((0 : Nat) : Int) (.go 0 [] 1) = ⟨s.b, s.p.set h (nextAt (1, st) ((0 : Nat) : Int))⟩ := rfl
        rw [e5]
        exact ⟨fun z => ih.mp (z.elim (fun y => nomatch y) id), fun z => .inr (ih.mpr z)⟩
      · by_cases hv : v = n
        · have e6 : stepM s h (1, st) (i : Int) (.go 0 [n] (i : Int)) = s := by
            show (⟨s.b, s.p.set h (if s.b.getD (0 : Int).toNat 0 ∈ [n] then (i : Int) else nextAt (1, st) (i : Int))⟩ : Stt) = s
            rw [if_pos (by rw [ev, hv]; exact List.mem_singleton.mpr rfl)]
            have : s.p.set h (i : Int) = s.p := by
              refine List.ext_getElem? fun j => ?_
              by_cases hj : h = j
              · subst hj
                rw [gp, hx]
              · rw [List.getElem?_set_ne hj]
            rw [this]
          rw [e6] at ed
          have nv := never_fix ed h2
          have ea : alone v (.go 0 [n] (i : Int) :: r) = false := by
            show (if v ∈ [n] then false else alone v r) = false
            rw [if_pos (by rw [hv]; exact List.mem_singleton.mpr rfl)]
          rw [ea]
          exact ⟨fun z => absurd z nv, fun z => nomatch z⟩
        · have hm : ¬ v ∈ [n] := fun z => hv (List.mem_singleton.mp z)
          have e6 : stepM s h (1, st) (i : Int) (.go 0 [n] (i : Int)) = ⟨s.b, s.p.set h (nextAt (1, st) (i : Int))⟩ := by
            show (⟨s.b, s.p.set h (if s.b.getD (0 : Int).toNat 0 ∈ [n] then (i : Int) else nextAt (1, st) (i : Int))⟩ : Stt) = _
            rw [if_neg (by rw [ev]; exact hm)]
          rw [comes_step, h2, ed, e6]
          have ih := comes_alone F hh r (i + 1) v ⟨s.b, s.p.set h (nextAt (1, st) (i : Int))⟩ er h1 hb (lp _) (by show (s.p.set h _)[h]? = _; rw [gp, h3])
          have ea : alone v (.go 0 [n] (i : Int) :: r) = alone v r := by
            show (if v ∈ [n] then false else alone v r) = alone v r
            rw [if_neg hm]
          rw [ea]
          exact ⟨fun z => ih.mp (z.elim (fun y => nomatch y) id), fun z => .inr (ih.mpr z)⟩
theorem comes_twin {m k : Nat} {st : List Stp} (F : Fit m k st) {h : Nat} (hh : h < 2) : Comes (twinG m st) (begM (twinG m st)) h ↔ alone 0 st = true :=
  comes_alone F hh st 0 0 (begM (twinG m st)) rfl (Nat.zero_le _) rfl rfl (by
    match h, hh with
    | 0, _ => rfl
    | 1, _ => rfl)
theorem ahead_at (m : Nat) : ∀ (a k j : Nat), j < a → (aheadL m k a)[j]? = some (putsL m ++ goesL m (k + j))
  | 0, _, _, h => by omega
  | a + 1, k, 0, _ => rfl
  | a + 1, k, j + 1, h => by
    show (aheadL m (k + 1) a)[j]? = _
    rw [ahead_at m a (k + 1) j (by omega)]
    congr 3
    omega
theorem puts_mem {m : Nat} {x : Stp} (h : x ∈ putsL m) : ∃ n : Nat, n ≤ m ∧ x = .put 0 n := by
  obtain ⟨n, hn, rfl⟩ := List.mem_map.mp h
  exact ⟨n, by have := List.mem_range.mp hn; omega, rfl⟩
theorem goes_mem {m k : Nat} {x : Stp} (h : x ∈ goesL m k) : ∃ n : Nat, n ≤ m ∧ x = .go 0 [(n : Int)] k := by
  obtain ⟨n, hn, rfl⟩ := List.mem_map.mp h
  exact ⟨n, by have := List.mem_range.mp hn; omega, rfl⟩
theorem parts_len (m a f : Nat) : (partsM m a f).length = a + f + 2 := by
  unfold partsM
  simp [ahead_len]
  omega
theorem parts_at (m a f : Nat) {i : Nat} (hi : i < a + f + 2) : (i = 0 ∧ (partsM m a f)[i]? = some [.go 0 [] 1]) ∨ (1 ≤ i ∧ i ≤ a ∧ (partsM m a f)[i]? = some (putsL m ++ goesL m i)) ∨ (i = a + 1 ∧ (partsM m a f)[i]? = some [.inn]) ∨ (a + 1 < i ∧ (partsM m a f)[i]? = some (putsL m)) := by
  have e : partsM m a f = [.go 0 [] 1] :: (aheadL m 1 a ++ ([.inn] :: List.replicate f (putsL m))) := by
    unfold partsM
    simp [List.append_assoc]
  rw [e]
  cases i with
  | zero => exact .inl ⟨rfl, rfl⟩
  | succ i =>
    rw [List.getElem?_cons_succ]
    by_cases h1 : i < a
    · refine .inr (.inl ⟨by omega, by omega, ?_⟩)
      rw [List.getElem?_append_left (by rw [ahead_len]; exact h1), ahead_at m a 1 i h1]
      congr 3
      omega
    · rw [List.getElem?_append_right (by rw [ahead_len]; omega), ahead_len]
      by_cases h2 : i = a
      · refine .inr (.inr (.inl ⟨by omega, ?_⟩))
        rw [h2, Nat.sub_self]
        rfl
      · refine .inr (.inr (.inr ⟨by omega, ?_⟩))
        obtain ⟨j, hj⟩ : ∃ j, i - a = j + 1 := ⟨i - a - 1, by omega⟩
        rw [hj, List.getElem?_cons_succ, List.getElem?_replicate, if_pos (by omega)]
theorem row_fit {m a f : Nat} (m9 : m ≤ 9) (a9 : a ≤ 9) (f9 : f ≤ 9) {st : List Stp} (h : st ∈ choicesG (partsM m a f)) : Fit m (a + 1) st := by
  obtain ⟨hl, hm⟩ := choicesG_row h
  rw [parts_len] at hl
  have sees : ∀ (i : Nat) (s : Stp), st[i]? = some s → FitS m i s ∧ (s = .inn → i = a + 1) := fun i s hs => by
    have hi := (List.getElem?_eq_some_iff.mp hs).1
    rcases parts_at m a f (i := i) (by omega) with ⟨e1, e2⟩ | ⟨e0, e1, e2⟩ | ⟨e1, e2⟩ | ⟨e1, e2⟩
    · have := hm i s _ hs e2
      rw [List.mem_singleton.mp this]
      exact ⟨⟨rfl, .inl ⟨rfl, rfl, e1⟩⟩, fun z => nomatch z⟩
    · rcases List.mem_append.mp (hm i s _ hs e2) with q | q
      · obtain ⟨n, hn, rfl⟩ := puts_mem q
        exact ⟨⟨rfl, by omega, by omega⟩, fun z => nomatch z⟩
      · obtain ⟨n, hn, rfl⟩ := goes_mem q
        exact ⟨⟨rfl, .inr ⟨n, rfl, by omega, by omega, rfl, e0⟩⟩, fun z => nomatch z⟩
    · have := hm i s _ hs e2
      rw [List.mem_singleton.mp this]
      exact ⟨trivial, fun _ => e1⟩
    · obtain ⟨n, hn, rfl⟩ := puts_mem (hm i s _ hs e2)
      exact ⟨⟨rfl, by omega, by omega⟩, fun z => nomatch z⟩
  refine ⟨m9, by omega, by omega, fun i s hs => (sees i s hs).1, ?_, fun j hj => (sees j _ hj).2 rfl⟩
  obtain ⟨s, hs⟩ : ∃ s, st[a + 1]? = some s := ⟨_, List.getElem?_eq_getElem (by omega)⟩
  rcases parts_at m a f (i := a + 1) (by omega) with ⟨e1, e2⟩ | ⟨e0, e1, e2⟩ | ⟨e1, e2⟩ | ⟨e1, e2⟩
  · omega
  · omega
  · have := hm _ s _ hs e2
    rw [List.mem_singleton.mp this] at hs
    exact hs
  · omega
theorem parts_ne {m a f : Nat} : ∀ p ∈ partsM m a f, p ≠ [] := fun p hp => by
  obtain ⟨i, hi⟩ := List.getElem?_of_mem hp
  have hil := (List.getElem?_eq_some_iff.mp hi).1
  rw [parts_len] at hil
  have pn : putsL m ≠ [] := fun z => by have := puts_len m; rw [z] at this; cases this
  rcases parts_at m a f (i := i) hil with ⟨_, e⟩ | ⟨_, _, e⟩ | ⟨_, e⟩ | ⟨_, e⟩ <;> (rw [e] at hi; cases hi)
  · exact fun z => nomatch z
  · exact fun z => pn (List.append_eq_nil_iff.mp z).1
  · exact fun z => nomatch z
  · exact pn
theorem parts_small {m a f : Nat} (m9 : m ≤ 9) : ∀ p ∈ partsM m a f, p.length ≤ 100 := fun p hp => by
  obtain ⟨i, hi⟩ := List.getElem?_of_mem hp
  have hil := (List.getElem?_eq_some_iff.mp hi).1
  rw [parts_len] at hil
  rcases parts_at m a f (i := i) hil with ⟨_, e⟩ | ⟨_, _, e⟩ | ⟨_, e⟩ | ⟨_, e⟩ <;> (rw [e] at hi; cases hi)
  · simp
  · rw [List.length_append, puts_len, goes_len]; omega
  · simp
  · rw [puts_len]; omega
theorem ahead_snoc (m : Nat) : ∀ (a k : Nat), aheadL m k (a + 1) = aheadL m k a ++ [putsL m ++ goesL m (k + a)]
  | 0, k => rfl
  | a + 1, k => by
    show (putsL m ++ goesL m k) :: aheadL m (k + 1) (a + 1) = (putsL m ++ goesL m k) :: (aheadL m (k + 1) a ++ _)
    have e : k + 1 + a = k + (a + 1) := by omega
    rw [ahead_snoc m a (k + 1), e]
def dP (p : List Stp) : D := .lst (p.map dStp)
def dLR (r : List LStp) : D := .lst (r.map dLS)
def lpartN (j : Nat) : List LStp := (List.range j).flatMap fun (n : Nat) => [.put n, .wait n]
theorem lpartN_succ (j : Nat) : lpartN (j + 1) = lpartN j ++ [.put j, .wait j] := by
  unfold lpartN
  rw [List.range_succ, List.flatMap_append]
  rfl
theorem lpartN_len (j : Nat) : (lpartN j).length = 2 * j := by
  unfold lpartN
  rw [flat_len (k := 2) fun x _ => rfl, List.length_range, Nat.mul_comm]
theorem every_succ (m i : Nat) : everyM m (i + 1) = chG (everyM m i) (lpart m) := by
  unfold everyM
  rw [List.replicate_succ', choicesG_snoc]
def wordT (st : List Stp) : Str := if alone 0 st = true then "two" else "shut"
theorem word_two : ∀ l : List (List Stp), (l.map wordT).count ("two" : Str) = l.countP (alone 0)
  | [] => rfl
  | x :: r => by
    rw [List.map_cons, List.count_cons, List.countP_cons, word_two r]
    congr 1
    unfold wordT
    by_cases h : alone 0 x = true
    · rw [if_pos h, if_pos h]; rfl
    · rw [if_neg h, if_neg h]; rfl
theorem word_shut : ∀ l : List (List Stp), (l.map wordT).count ("shut" : Str) + l.countP (alone 0) = l.length
  | [] => rfl
  | x :: r => by
    have ih := word_shut r
    rw [List.map_cons, List.count_cons, List.countP_cons, List.length_cons]
    have e : (if wordT x == ("shut" : Str) then 1 else 0) + (if alone 0 x = true then 1 else 0) = 1 := by
      unfold wordT
      by_cases h : alone 0 x = true
      · rw [if_pos h, if_pos h]; rfl
      · rw [if_neg h, if_neg h]; rfl
    omega
theorem both3 {P G T : Nat → Nat → Nat → Prop} (h1 : ∀ x y z, P x y z → (∀ x y z, P x y z → G x y z) → T x y z) (h2 : ∀ x y z, P x y z → G x y z) : ∀ x y z, P x y z → T x y z := fun x y z h => h1 x y z h h2
structure OkT (m a f : Nat) : Prop where
  m9 : m ≤ 9
  a9 : a ≤ 9
  f9 : f ≤ 9
  sz : (2 * (m + 1)) ^ a * (m + 1) ^ f ≤ 4096
theorem okT_fin : ∀ (m : Fin 4) (a : Fin 4) (f : Fin 3), (m.1 = 3 → a.1 ≤ 2) → (2 ≤ m.1 → f.1 ≤ 1) → (2 * (m.1 + 1)) ^ a.1 * (m.1 + 1) ^ f.1 ≤ 4096 := by decide
theorem okT_all (m : Nat) (hm : m < 4) (a : Nat) (ha : a < 4) (f : Nat) (hf : f < 3) (h1 : m = 3 → a ≤ 2) (h2 : 2 ≤ m → f ≤ 1) : (2 * (m + 1)) ^ a * (m + 1) ^ f ≤ 4096 := okT_fin ⟨m, hm⟩ ⟨a, ha⟩ ⟨f, hf⟩ h1 h2
theorem okT_of (m a f : Int) (m0 : 0 ≤ m) (m1 : m < 4) (a0 : 0 ≤ a) (f0 : 0 ≤ f) (ha : a ≤ 3) (ha3 : m = 3 → a ≤ 2) (hf : f ≤ 2) (hf2 : 2 ≤ m → f ≤ 1) : OkT m.toNat a.toNat f.toNat :=
  ⟨by omega, by omega, by omega, okT_all _ (by omega) _ (by omega) _ (by omega) (fun z => by have := ha3 (by omega); omega) (fun z => by have := hf2 (by omega); omega)⟩
theorem OkT.ahead {m a f : Nat} (h : OkT m a f) : (2 * (m + 1)) ^ a ≤ 5000 := by
  have h1 := h.sz
  have h2 : 1 ≤ (m + 1) ^ f := Nat.one_le_pow _ _ (by omega)
  have := Nat.le_mul_of_pos_right ((2 * (m + 1)) ^ a) h2
  omega
end Gh

namespace Gh2
open Gh
open PySem L2 Dl
variable [KOf]
def top (i : Nat) : Stmt := PySem.Challenge.pw_gatehands_k15_small_tries_counted.main.body.getD i (.Pass ⟨0, 0, 0, 0⟩)
structure Txt (K : PySem.W.Frag) (mg : Str → Option Value) : Prop where
  len : mg "len" = none
  tuple : mg "tuple" = none
  list : mg "list" = none
  range : mg "range" = none
  int : mg "int" = none
  abs : mg "abs" = none
  enumerate : mg "enumerate" = none
  zip : mg "zip" = none
  isinstance : mg "isinstance" = none
  all : mg "all" = none
abbrev s_law_off : Stmt := top 45
abbrev N_law_off : List Str := ["_law_d", "_law_most", "_law_found"]
theorem sc_law_off : FnScope N_law_off ["_law_d", "_law_most"] (defScope s_law_off) := ⟨rfl, rfl, rfl, by decide +kernel, rfl, by decide +kernel, by decide +kernel⟩
abbrev s_law_dice : Stmt := top 44
abbrev N_law_dice : List Str := ["_law_script", "_law_k", "_law_found", "_law_cell"]
theorem sc_law_dice : FnScope N_law_dice ["_law_script", "_law_k"] (defScope s_law_dice) := ⟨rfl, rfl, rfl, by decide +kernel, rfl, by decide +kernel, by decide +kernel⟩
section
variable {mg : Str → Option Value} {base : Heap} {f f1 : Addr} {fd fd1 : FuncData}
theorem ixN_of {n j : Nat} (h : j < n) : ixN n (j : Int) = some j := by
  unfold ixN
  rw [if_pos (Int.natCast_nonneg j), if_pos (by omega)]
  simp
theorem Ext.dice {δ : Option Addr} {H : Hp} {a : Addr} {ns : List Int} (ha : δ = some a) (hl : 2 ≤ ns.length) : Ext δ H (upd H a (.lst (ns.map V.int))) :=
  ⟨fun b o e n => by rw [upd_ne (fun z => n (by rw [z]; exact ha))]; exact e, fun b hb _ => by
    rw [ha] at hb
    cases hb
    exact ⟨ns, upd_same, hl⟩⟩
theorem ok_law_off (F : Fun K "_law_off" "_law_off" s_law_off f fd) (T : Txt K mg) : FnOk Pr w K mg base CX0 1 f fd ["_law_d", "_law_most"] (spD 2 P_off) := by
  refine F.ok sc_law_off (fun vs H Q E h => ?_) (fun cdv A outer s H vs Q E hr h => ?_)
  · obtain ⟨_, _, _, _, h, _⟩ := h
    exact h
  · obtain ⟨δ, M, ss, Φ, hl, hp, no, hM, hd, ⟨m, rfl, m0, m1, hΦ⟩, k⟩ := h
    obtain ⟨v1, v2, rfl, r1, r2⟩ := paired2 hp
    cases r1 with
    | dice e1 d1 =>
    cases r2 with
    | d r2 =>
    cases r2
    rename_i a
    obtain ⟨ns, ha, hl2⟩ := d1
    obtain ⟨n0, n1, rs, rfl⟩ : ∃ n0 n1 rs, ns = n0 :: n1 :: rs := by
      match ns, hl2 with
      | n0 :: n1 :: rs, _ => exact ⟨n0, n1, rs, rfl⟩
    have out : ∀ H' ns' r, H' = upd H a (.lst (List.map V.int ns')) → 2 ≤ ns'.length → 0 ≤ r → r < m → Q (.int r) H' := fun H' ns' r e l r0 r1 => by
      subst e
      exact k _ _ _ (Ext.dice e1 l) (.int r) (hΦ r r0 r1)
    refine ⟨_, pss_cons (ps_if (PW.pt (pw_and (pt_cmpR op_eq (pe_ix ix_list (pv 0) pe_int (fun _ _ => rfl)) pe_int (nomark _)) (pw_and1 (pt_cmpR op_gt (pe_callB call_len_seq rfl T.len PySem.boot_len (pa_cons (pv 0) pa_nil)) pe_int (nomark _)))))
        (pss_one (ps_asg (pe_bm PySem.F.plainAttrs_list PySem.F.slot_list_pop PySem.F.type_list_pop mt_popAt (pv 0) (pa_cons pe_int pa_nil)) (pg_sub (pv 0) pe_int set_list))) pss_nil)
      (pss_cons (ps_if (pt_cmpR op_gt (pe_ix ix_list (pv 0) pe_int (fun _ _ => rfl)) pe_int (nomark _))
        (pss_cons (ps_set (i := 2) sc_law_off.nd rfl (Or.inl rfl) (pe_op op_mod (pe_ix ix_list (pv 0) pe_int (fun _ _ => rfl)) (pv 1)))
        (pss_cons (ps_asg (pe_op op_fdiv (pe_ix ix_list (pv 0) pe_int (fun _ _ => rfl)) (pv 1)) (pg_sub (pv 0) pe_int set_list))
        (pss_one (ps_ret (pv 2))))) pss_nil)
      (pss_cons (ps_asg (pe_op op_mod (pe_op op_add (pe_op op_mul (pe_ix ix_list (pv 0) pe_int (fun _ _ => rfl)) pe_int) pe_int) pe_int) (pg_sub (pv 0) pe_int set_list))
      (pss_one (ps_ret (pe_op op_mod (pe_op op_fdiv (pe_ix ix_list (pv 0) pe_int (fun _ _ => rfl)) pe_int) (pv 1)))))), ?_⟩
    have hmm : ∀ x : Int, 0 ≤ x % m ∧ x % m < m := fun x => ⟨Int.emod_nonneg _ (by omega), Int.emod_lt_of_pos _ m0⟩
    refine ⟨_, rfl, a, _, 1, .int n1, rfl, rfl, SqL.of ha, at_of (j := 1) rfl rfl, rfl, _, rfl, iteD (fun e => ?_) (fun e => ?_)⟩
    · refine ⟨_, rfl, a, _, rfl, .inl (SqL.of ha), _, _, rfl, rfl, _, rfl, iteD (fun e => ?_) (fun e => ?_)⟩
      · obtain ⟨n2, rt, rfl⟩ : ∃ n2 rt, rs = n2 :: rt := by
          match rs, e with
          | n2 :: rt, _ => exact ⟨n2, rt, rfl⟩
          | [], e => exact absurd e (by simp)
        refine ⟨_, rfl, .inl ⟨rfl, _, SqL.of ha⟩, a, _, 2, 2, .int n2, rfl, rfl, ha, by decide, by decide, ?_, rfl, ?_⟩
        · show seqIndex? 2 (List.map V.int (n0 :: n1 :: n2 :: rt)).length = some 2
          simp [seqIndex?]
          omega
        refine ⟨_, rfl, a, _, 1, 1, rfl, rfl, upd_same, ixN_of (j := 1) (by simp), ?_⟩
        have h1 : (upd (upd H a (.lst (List.eraseIdx (List.map V.int (n0 :: n1 :: n2 :: rt)) 2))) a (.lst (List.set (List.eraseIdx (List.map V.int (n0 :: n1 :: n2 :: rt)) 2) 1 (.int n2)))) a = some (.lst (List.map V.int (n0 :: n2 :: rt))) := upd_same
        refine ⟨_, rfl, a, _, 1, .int n2, rfl, rfl, SqL.of h1, at_of (j := 1) rfl rfl, _, _, rfl, rfl, _, rfl, iteD (fun e => ?_) (fun e => ?_)⟩
        · refine ⟨_, rfl, a, _, 1, .int n2, rfl, rfl, SqL.of h1, at_of (j := 1) rfl rfl, _, rfl, _, _, rfl, rfl, m0, ?_⟩
          refine ⟨_, rfl, a, _, 1, .int n2, rfl, rfl, SqL.of h1, at_of (j := 1) rfl rfl, _, rfl, _, _, rfl, rfl, ⟨m0, by omega⟩, ?_⟩
          refine ⟨_, rfl, a, _, 1, 1, rfl, rfl, h1, ixN_of (j := 1) (by simp), ?_⟩
          refine ⟨_, rfl, out _ (n0 :: (n2 / m) :: rt) _ (by rw [upd_upd, upd_upd]; rfl) (by simp) (hmm _).1 (hmm _).2⟩
        · refine ⟨_, rfl, a, _, 0, .int n0, rfl, rfl, SqL.of h1, at_of (j := 0) rfl rfl, _, _, rfl, rfl, .inr ⟨by decide, by decide⟩, _, _, rfl, rfl, _, _, rfl, rfl, by show (0 : Int) < 2147483647; decide, ?_⟩
          refine ⟨_, rfl, a, _, 0, 0, rfl, rfl, h1, ixN_of (j := 0) (by simp), ?_⟩
          refine ⟨_, rfl, a, _, 0, _, rfl, rfl, SqL.of upd_same, at_of (j := 0) rfl rfl, _, _, rfl, rfl, ⟨by decide, by decide⟩, ?_⟩
          refine ⟨_, rfl, _, _, rfl, rfl, m0, out _ (((n0 * 48271 + 11) % 2147483647) :: n2 :: rt) _ (by rw [upd_upd, upd_upd]; rfl) (by simp) (hmm _).1 (hmm _).2⟩
      · refine ⟨_, rfl, a, _, 1, .int n1, rfl, rfl, SqL.of ha, at_of (j := 1) rfl rfl, _, _, rfl, rfl, _, rfl, iteD (fun e => ?_) (fun e => ?_)⟩
        · refine ⟨_, rfl, a, _, 1, .int n1, rfl, rfl, SqL.of ha, at_of (j := 1) rfl rfl, _, rfl, _, _, rfl, rfl, m0, ?_⟩
          refine ⟨_, rfl, a, _, 1, .int n1, rfl, rfl, SqL.of ha, at_of (j := 1) rfl rfl, _, rfl, _, _, rfl, rfl, ⟨m0, by omega⟩, ?_⟩
          refine ⟨_, rfl, a, _, 1, 1, rfl, rfl, ha, ixN_of (j := 1) (by simp), ?_⟩
          refine ⟨_, rfl, out _ (n0 :: (n1 / m) :: rs) _ rfl (by simp) (hmm _).1 (hmm _).2⟩
        · refine ⟨_, rfl, a, _, 0, .int n0, rfl, rfl, SqL.of ha, at_of (j := 0) rfl rfl, _, _, rfl, rfl, .inr ⟨by decide, by decide⟩, _, _, rfl, rfl, _, _, rfl, rfl, by show (0 : Int) < 2147483647; decide, ?_⟩
          refine ⟨_, rfl, a, _, 0, 0, rfl, rfl, ha, ixN_of (j := 0) (by simp), ?_⟩
          refine ⟨_, rfl, a, _, 0, _, rfl, rfl, SqL.of upd_same, at_of (j := 0) rfl rfl, _, _, rfl, rfl, ⟨by decide, by decide⟩, ?_⟩
          refine ⟨_, rfl, _, _, rfl, rfl, m0, out _ (((n0 * 48271 + 11) % 2147483647) :: n1 :: rs) _ rfl (by simp) (hmm _).1 (hmm _).2⟩
    · refine ⟨_, rfl, a, _, 1, .int n1, rfl, rfl, SqL.of ha, at_of (j := 1) rfl rfl, _, _, rfl, rfl, _, rfl, iteD (fun e => ?_) (fun e => ?_)⟩
      · refine ⟨_, rfl, a, _, 1, .int n1, rfl, rfl, SqL.of ha, at_of (j := 1) rfl rfl, _, rfl, _, _, rfl, rfl, m0, ?_⟩
        refine ⟨_, rfl, a, _, 1, .int n1, rfl, rfl, SqL.of ha, at_of (j := 1) rfl rfl, _, rfl, _, _, rfl, rfl, ⟨m0, by omega⟩, ?_⟩
        refine ⟨_, rfl, a, _, 1, 1, rfl, rfl, ha, ixN_of (j := 1) (by simp), ?_⟩
        refine ⟨_, rfl, out _ (n0 :: (n1 / m) :: rs) _ rfl (by simp) (hmm _).1 (hmm _).2⟩
      · refine ⟨_, rfl, a, _, 0, .int n0, rfl, rfl, SqL.of ha, at_of (j := 0) rfl rfl, _, _, rfl, rfl, .inr ⟨by decide, by decide⟩, _, _, rfl, rfl, _, _, rfl, rfl, by show (0 : Int) < 2147483647; decide, ?_⟩
        refine ⟨_, rfl, a, _, 0, 0, rfl, rfl, ha, ixN_of (j := 0) (by simp), ?_⟩
        refine ⟨_, rfl, a, _, 0, _, rfl, rfl, SqL.of upd_same, at_of (j := 0) rfl rfl, _, _, rfl, rfl, ⟨by decide, by decide⟩, ?_⟩
        refine ⟨_, rfl, _, _, rfl, rfl, m0, out _ (((n0 * 48271 + 11) % 2147483647) :: n1 :: rs) _ rfl (by simp) (hmm _).1 (hmm _).2⟩
def spDice (K : PySem.W.Frag) : Sp := fun vs H Q _ => ∃ (a : Addr) (ns : List Int) (k : Int), vs = [.ref a, .int k] ∧ SqL K H a (ns.map V.int) ∧ ns.length ≤ 63 ∧
  ∀ (p : Addr) (H' : Hp) (ms : List Int), H p = none → Same H H' → H' p = some (.lst (ms.map V.int)) → 2 ≤ ms.length → Q (.ref p) H'
theorem int_at {ns : List Int} {i : Nat} {y : V} (h : (ns.map V.int)[i]? = some y) : i < ns.length ∧ ∃ z, y = V.int z := by
  have hl : i < (ns.map V.int).length := (List.getElem?_eq_some_iff.mp h).1
  rw [List.length_map] at hl
  refine ⟨hl, ?_⟩
  rw [List.getElem?_map, List.getElem?_eq_getElem hl] at h
  exact ⟨_, (Option.some.inj h).symm⟩
theorem ok_law_dice (F : Fun K "_law_dice" "_law_dice" s_law_dice f fd) (T : Txt K mg) : FnOk Pr w K mg base CX0 1 f fd ["_law_script", "_law_k"] (spDice K) := by
  refine F.ok sc_law_dice (fun vs H Q E h => ?_) (fun cdv A outer s H vs Q E hr h => ?_)
  · obtain ⟨_, _, _, rfl, _⟩ := h
    rfl
  · obtain ⟨a, ns, k, rfl, hS, hl, hQ⟩ := h
    refine ⟨_, pss_cons (ps_set (i := 2) sc_law_dice.nd rfl (Or.inl rfl) (pv 1))
      (pss_cons (ps_for PassesOwn.never rfl (pi_list (pv 0)) (pg_name (i := 3) sc_law_dice.nd rfl (Or.inl rfl))
        (pss_one (ps_set (i := 2) sc_law_dice.nd rfl (Or.inl rfl) (pe_op op_mod (pe_op op_add (pe_op op_mul (pv 2) pe_int) (pe_callB call_abs rfl T.abs (by decide +kernel) (pa_cons (pv 3) pa_nil))) pe_int))))
      (pss_one (ps_ret (pe_op op_cat (pe_lst (pa_cons (pv 2) (pa_cons pe_int pa_nil)))
        (pe_lc (own := [("_law_cell", 3)]) (g := gName 3) rfl sc_law_dice.nd (pi_list (pv 0)) (blkOk_by (own := [("_law_cell", 3)]) (N := N_law_dice) (sc := defScope s_law_dice) (by decide +kernel)) (fun _ _ _ _ _ => pg_name (i := 3) sc_law_dice.nd rfl (Or.inl rfl))
          (fun _ _ _ _ _ => pts_one (pt_cmpR op_ge (pv 3) (pe_op op_pow pe_int pe_int) (nomark _))) (fun _ _ _ _ _ => pv 3)))))), ?_⟩
    refine ⟨_, rfl, ?_⟩
    refine ⟨_, rfl, a, rfl, ⟨_, hS⟩, for_list (K := K) (a := a) (xs := ns.map V.int) (fun i σ H2 => H2 = H ∧ ∃ (z : Int) (c : Option V), σ = [some (.ref a), some (.int k), some (.int z), c]) ⟨rfl, k, none, rfl⟩ (fun i σ H2 _ ⟨e, _⟩ => by rw [e]; exact hS) ?_ ?_⟩
    · rintro i y σ H2 hi ⟨rfl, z, c, rfl⟩
      obtain ⟨_, c, rfl⟩ := int_at hi
      exact ⟨_, rfl, _, _, rfl, rfl, .inr ⟨by decide, by decide⟩, _, rfl, _, rfl, _, _, rfl, rfl, _, _, rfl, rfl, by show (0 : Int) < 2147483647; decide, rfl, _, _, rfl⟩
    · rintro σ H2 ⟨rfl, z, c, rfl⟩
      refine ⟨_, rfl, by show 2 ≤ sizeLine; decide, fun p hp => ?_⟩
      refine ⟨_, rfl, a, rfl, ⟨_, (show Same H2 _ from fun b o e => by rw [upd_ne (ne_of_none e hp)]; exact e).seq hS⟩, fun D hD => ?_⟩
      have hDp : D ≠ p := fun e => by rw [e, upd_same] at hD; cases hD
      have hDH : H2 D = none := by rw [upd_ne hDp] at hD; exact hD
      have keep : ∀ o o', Same H2 (upd (upd H2 p o) D o') := fun o o' b u e => by rw [upd_ne (ne_of_none e hDH), upd_ne (ne_of_none e hp)]; exact e
      refine lc_list (K := K) (a := a) (xs := ns.map V.int) (fun i H3 => ∃ ms : List Int, ms.length ≤ i ∧ H3 = upd (upd H2 p (.lst [.int z, .int 0])) D (.lst (ms.map V.int))) ⟨[], Nat.le_refl _, rfl⟩ (fun i H3 _ ⟨ms, _, e⟩ => by rw [e]; exact (keep _ _).seq hS) ?_ ?_
      · rintro i y H3 hi ⟨ms, hm, rfl⟩
        obtain ⟨hi', c, rfl⟩ := int_at hi
        refine ⟨rfl, _, rfl, _, _, rfl, rfl, ⟨by decide, by decide, by decide⟩, _, _, rfl, rfl, _, rfl, iteD (fun _ => ?_) (fun _ => ?_)⟩
        · refine ⟨_, rfl, _, upd_same, by rw [List.length_map]; exact Dl.sz_lt (by omega), ms ++ [c], by rw [List.length_append]; exact Nat.succ_le_succ hm, ?_⟩
          rw [upd_upd, List.map_append]
          rfl
        · exact ⟨ms, Nat.le_succ_of_le hm, rfl⟩
      · rintro H3 ⟨ms, hm, rfl⟩
        rw [List.length_map] at hm
        refine ⟨p, D, _, _, rfl, rfl, by rw [upd_ne (Ne.symm hDp)]; exact upd_same, upd_same, by rw [List.length_map]; exact Dl.sz_of (by show 2 + ms.length ≤ 100000; omega), fun q hq => ?_⟩
        have hqH : H2 q = none := by
          cases e : H2 q with
          | none => rfl
          | some o => rw [keep _ _ q o e] at hq; cases hq
        refine hQ q _ (z :: 0 :: ms) hqH (fun b u e => ?_) upd_same (by simp)
        rw [upd_ne (ne_of_none e hqH)]
        exact keep _ _ b u e
end
end Gh2
namespace Gh
open PySem L2 Dl
variable [KOf]
def top (i : Nat) : Stmt := PySem.Challenge.pw_gatehands_k15_small_tries_counted.main.body.getD i (.Pass ⟨0, 0, 0, 0⟩)
structure Txt (K : PySem.W.Frag) (mg : Str → Option Value) (cG cM : Addr) : Prop where
  len : mg "len" = none
  tuple : mg "tuple" = none
  list : mg "list" = none
  range : mg "range" = none
  int : mg "int" = none
  abs : mg "abs" = none
  enumerate : mg "enumerate" = none
  zip : mg "zip" = none
  isinstance : mg "isinstance" = none
  all : mg "all" = none
  bool : mg "bool" = none
  str : mg "str" = none
  dict : mg "dict" = none
  any : mg "any" = none
  set : mg "set" = none
  clGate : Cls K cG
  noGate_pairs : NoAttr K cG "pairs"
  noGate_programs : NoAttr K cG "programs"
  noGate_knocks : NoAttr K cG "knocks"
  noGate_insides : NoAttr K cG "insides"
  c_MOST_BOXES : ∃ t, mg "MOST_BOXES" = some (.int 12 t)
  c_MOST_IN_BOX : ∃ t, mg "MOST_IN_BOX" = some (.int 9 t)
  c_MOST_HANDS : ∃ t, mg "MOST_HANDS" = some (.int 4 t)
  c_FEWEST_STEPS : ∃ t, mg "FEWEST_STEPS" = some (.int 2 t)
  c_MOST_STEPS : ∃ t, mg "MOST_STEPS" = some (.int 24 t)
  c_MOST_TRIED : ∃ t, mg "MOST_TRIED" = some (.int 9 t)
  c_MOST_GATES : ∃ t, mg "MOST_GATES" = some (.int 4096 t)
  d_IN : GlD mg "IN" (.tup [.str "in"])
  d_IDLE : GlD mg "IDLE" (.tup [.str "go", .int 0, .tup [], .int 1])
abbrev s_law_alike : Stmt := top 46
abbrev N_law_alike : List Str := ["_law_found", "_law_due", "_law_name", "_law_k"]
theorem sc_law_alike : FnScope N_law_alike ["_law_found", "_law_due"] (defScope s_law_alike) := ⟨rfl, rfl, rfl, by decide +kernel, rfl, by decide +kernel, by decide +kernel⟩
abbrev s_replaced : Stmt := top 33
abbrev N_replaced : List Str := ["numbers", "at", "number"]
theorem sc_replaced : FnScope N_replaced ["numbers", "at", "number"] (defScope s_replaced) := ⟨rfl, rfl, rfl, by decide +kernel, rfl, by decide +kernel, by decide +kernel⟩
abbrev s_Gate_many : Stmt := inClass (top 19) 3
abbrev N_Gate_many : List Str := ["self"]
theorem sc_Gate_many : FnScope N_Gate_many ["self"] (defScope s_Gate_many) := ⟨rfl, rfl, rfl, by decide +kernel, rfl, by decide +kernel, by decide +kernel⟩
abbrev s_begin : Stmt := top 29
abbrev N_begin : List Str := ["gate", "first", "most"]
theorem sc_begin : FnScope N_begin ["gate"] (defScope s_begin) := ⟨rfl, rfl, rfl, by decide +kernel, rfl, by decide +kernel, by decide +kernel⟩
abbrev s_within : Stmt := top 31
abbrev N_within : List Str := ["gate", "state", "hand", "place"]
theorem sc_within : FnScope N_within ["gate", "state"] (defScope s_within) := ⟨rfl, rfl, rfl, by decide +kernel, rfl, by decide +kernel, by decide +kernel⟩
abbrev s_can_be_put : Stmt := top 25
abbrev N_can_be_put : List Str := ["boxes", "box", "number"]
theorem sc_can_be_put : FnScope N_can_be_put ["boxes", "box", "number"] (defScope s_can_be_put) := ⟨rfl, rfl, rfl, by decide +kernel, rfl, by decide +kernel, by decide +kernel⟩
abbrev s_can_be_read : Stmt := top 26
abbrev N_can_be_read : List Str := ["boxes", "box", "numbers", "last", "number"]
theorem sc_can_be_read : FnScope N_can_be_read ["boxes", "box", "numbers"] (defScope s_can_be_read) := ⟨rfl, rfl, rfl, by decide +kernel, rfl, by decide +kernel, by decide +kernel⟩
abbrev s_can_be_step : Stmt := top 24
abbrev N_can_be_step : List Str := ["boxes", "many", "step"]
theorem sc_can_be_step : FnScope N_can_be_step ["boxes", "many", "step"] (defScope s_can_be_step) := ⟨rfl, rfl, rfl, by decide +kernel, rfl, by decide +kernel, by decide +kernel⟩
abbrev s_places_of_in : Stmt := top 27
abbrev N_places_of_in : List Str := ["steps", "number", "step"]
theorem sc_places_of_in : FnScope N_places_of_in ["steps"] (defScope s_places_of_in) := ⟨rfl, rfl, rfl, by decide +kernel, rfl, by decide +kernel, by decide +kernel⟩
abbrev s_check_program : Stmt := top 22
abbrev N_check_program : List Str := ["boxes", "hand", "steps", "number", "step"]
theorem sc_check_program : FnScope N_check_program ["boxes", "hand", "steps"] (defScope s_check_program) := ⟨rfl, rfl, rfl, by decide +kernel, rfl, by decide +kernel, by decide +kernel⟩
abbrev s_check_knock : Stmt := top 23
abbrev N_check_knock : List Str := ["hand", "knock", "steps", "places"]
theorem sc_check_knock : FnScope N_check_knock ["hand", "knock", "steps"] (defScope s_check_knock) := ⟨rfl, rfl, rfl, by decide +kernel, rfl, by decide +kernel, by decide +kernel⟩
abbrev s_check_boxes : Stmt := top 20
abbrev N_check_boxes : List Str := ["boxes", "number", "first", "most"]
theorem sc_check_boxes : FnScope N_check_boxes ["boxes"] (defScope s_check_boxes) := ⟨rfl, rfl, rfl, by decide +kernel, rfl, by decide +kernel, by decide +kernel⟩
abbrev s_check_hands : Stmt := top 21
abbrev N_check_hands : List Str := ["boxes", "hands", "number", "knock", "steps"]
theorem sc_check_hands : FnScope N_check_hands ["boxes", "hands"] (defScope s_check_hands) := ⟨rfl, rfl, rfl, by decide +kernel, rfl, by decide +kernel, by decide +kernel⟩
abbrev s_Gate_init : Stmt := inClass (top 19) 0
abbrev N_Gate_init : List Str := ["self", "boxes", "hands", "knock", "steps"]
theorem sc_Gate_init : FnScope N_Gate_init ["self", "boxes", "hands"] (defScope s_Gate_init) := ⟨rfl, rfl, rfl, by decide +kernel, rfl, by decide +kernel, by decide +kernel⟩
abbrev s_check_hand : Stmt := top 32
abbrev N_check_hand : List Str := ["gate", "hand"]
theorem sc_check_hand : FnScope N_check_hand ["gate", "hand"] (defScope s_check_hand) := ⟨rfl, rfl, rfl, by decide +kernel, rfl, by decide +kernel, by decide +kernel⟩
abbrev s_done : Stmt := top 30
abbrev N_done : List Str := ["gate", "state", "hand", "boxes", "places", "program", "step", "behind"]
theorem sc_done : FnScope N_done ["gate", "state", "hand"] (defScope s_done) := ⟨rfl, rfl, rfl, by decide +kernel, rfl, by decide +kernel, by decide +kernel⟩
abbrev s_many_choices : Stmt := top 1
abbrev N_many_choices : List Str := ["parts", "many", "part"]
theorem sc_many_choices : FnScope N_many_choices ["parts"] (defScope s_many_choices) := ⟨rfl, rfl, rfl, by decide +kernel, rfl, by decide +kernel, by decide +kernel⟩
abbrev s_choices : Stmt := top 2
abbrev N_choices : List Str := ["parts", "rows", "part", "row", "one"]
theorem sc_choices : FnScope N_choices ["parts"] (defScope s_choices) := ⟨rfl, rfl, rfl, by decide +kernel, rfl, by decide +kernel, by decide +kernel⟩
abbrev s_law_is : Stmt := top 47
abbrev N_law_is : List Str := ["_law_e", "_law_word", "_law_kinds", "_law_words", "_law_one"]
theorem sc_law_is : FnScope N_law_is ["_law_e", "_law_word"] (defScope s_law_is) := ⟨rfl, rfl, rfl, by decide +kernel, rfl, by decide +kernel, by decide +kernel⟩
abbrev s_Gate_boxes : Stmt := inClass (top 19) 1
abbrev N_Gate_boxes : List Str := ["self"]
theorem sc_Gate_boxes : FnScope N_Gate_boxes ["self"] (defScope s_Gate_boxes) := ⟨rfl, rfl, rfl, by decide +kernel, rfl, by decide +kernel, by decide +kernel⟩
abbrev s_states_alone : Stmt := top 39
abbrev N_states_alone : List Str := ["gate", "hand", "states", "seen"]
theorem sc_states_alone : FnScope N_states_alone ["gate", "hand"] (defScope s_states_alone) := ⟨rfl, rfl, rfl, by decide +kernel, rfl, by decide +kernel, by decide +kernel⟩
abbrev s_steps_ahead_of_put : Stmt := top 40
abbrev N_steps_ahead_of_put : List Str := ["gate", "states", "number", "state"]
theorem sc_steps_ahead_of_put : FnScope N_steps_ahead_of_put ["gate", "states"] (defScope s_steps_ahead_of_put) := ⟨rfl, rfl, rfl, by decide +kernel, rfl, by decide +kernel, by decide +kernel⟩
abbrev s_breaker : Stmt := top 37
abbrev N_breaker : List Str := ["gate", "first", "second", "hand", "states", "ahead"]
theorem sc_breaker : FnScope N_breaker ["gate"] (defScope s_breaker) := ⟨rfl, rfl, rfl, by decide +kernel, rfl, by decide +kernel, by decide +kernel⟩
abbrev s_steps_tried : Stmt := top 41
abbrev N_steps_tried : List Str := ["most", "ahead", "after", "numbers", "puts", "parts", "place", "number"]
theorem sc_steps_tried : FnScope N_steps_tried ["most", "ahead", "after"] (defScope s_steps_tried) := ⟨rfl, rfl, rfl, by decide +kernel, rfl, by decide +kernel, by decide +kernel⟩
abbrev s_twins : Stmt := top 42
abbrev N_twins : List Str := ["most", "steps", "hand"]
theorem sc_twins : FnScope N_twins ["most", "steps"] (defScope s_twins) := ⟨rfl, rfl, rfl, by decide +kernel, rfl, by decide +kernel, by decide +kernel⟩
abbrev s_tries : Stmt := top 38
abbrev N_tries : List Str := ["most", "ahead", "after", "parts", "words", "number", "steps"]
theorem sc_tries : FnScope N_tries ["most", "ahead", "after"] (defScope s_tries) := ⟨rfl, rfl, rfl, by decide +kernel, rfl, by decide +kernel, by decide +kernel⟩
abbrev s_law_goes_alone : Stmt := top 48
abbrev N_law_goes_alone : List Str := ["_law_most", "_law_steps", "_law_held", "_law_step"]
theorem sc_law_goes_alone : FnScope N_law_goes_alone ["_law_most", "_law_steps"] (defScope s_law_goes_alone) := ⟨rfl, rfl, rfl, by decide +kernel, rfl, by decide +kernel, by decide +kernel⟩
abbrev s_law_every : Stmt := top 49
abbrev N_law_every : List Str := ["_law_most", "_law_ahead", "_law_rows", "_law_turn", "_law_more", "_law_row", "_law_number"]
theorem sc_law_every : FnScope N_law_every ["_law_most", "_law_ahead"] (defScope s_law_every) := ⟨rfl, rfl, rfl, by decide +kernel, rfl, by decide +kernel, by decide +kernel⟩
abbrev s_law_refused : Stmt := top 50
abbrev N_law_refused : List Str := ["_law_most", "_law_ahead", "_law_after", "_law_e"]
theorem sc_law_refused : FnScope N_law_refused ["_law_most", "_law_ahead", "_law_after"] (defScope s_law_refused) := ⟨rfl, rfl, rfl, by decide +kernel, rfl, by decide +kernel, by decide +kernel⟩
abbrev s_law : Stmt := top 51
abbrev N_law : List Str := ["_law_script", "_law_d", "_law_most", "_law_ahead", "_law_after", "_law_good", "_law_times", "_law_turn", "_law_whole", "_law_some", "_law_bad", "_law_row"]
theorem sc_law : FnScope N_law ["_law_script"] (defScope s_law) := ⟨rfl, rfl, rfl, by decide +kernel, rfl, by decide +kernel, by decide +kernel⟩
section
variable {mg : Str → Option Value} {base : Heap} {f cG cM : Addr} {fd : FuncData}
theorem st_law_alike {n : Nat} (F : Fun K "_law_alike" "_law_alike" s_law_alike f fd) (T : Txt K mg cG cM) (G_law_alike : Gd Pr w K mg base CX0 n "_law_alike" ["_law_found", "_law_due"] (spD 2 (P_alike n)) f fd) : FnOk Pr w K mg base CX0 (n + 1) f fd ["_law_found", "_law_due"] (spD 2 (P_alike (n + 1))) := by
  refine fn_D F sc_law_alike rfl (fun cdv A outer s H Eo hr => ⟨_, _, (dss_cons (ds_if (dt_cmp op_isN ar_isN (de_var 1) de_non (nomark _))
      (dss_one (ds_ret (de_cmp op_isN ar_isN (de_var 0) de_non (nomark _))))
      dss_nil)
    (dss_cons (ds_if (dt_val (dk_isi K .bool (de_var 1) rfl T.isinstance rfl T.bool))
      (dss_one (ds_ret (de_and (dk_isi K .bool (de_var 0) rfl T.isinstance rfl T.bool) (de_one (de_cmp (opk_eq K hr.units) ar_eqU (de_var 0) (de_var 1) (nomark _))))))
      dss_nil)
    (dss_cons (ds_if (dt_val (dk_isi K .int (de_var 1) rfl T.isinstance rfl T.int))
      (dss_one (ds_ret (de_and (dk_isi K .int (de_var 0) rfl T.isinstance rfl T.int) (de_and (de_not (dk_isi K .bool (de_var 0) rfl T.isinstance rfl T.bool)) (de_one (de_cmp (opk_eq K hr.units) ar_eqU (de_var 0) (de_var 1) (nomark _)))))))
      dss_nil)
    (dss_cons (ds_if (dt_val (dk_isi K .str (de_var 1) rfl T.isinstance rfl T.str))
      (dss_one (ds_ret (de_and (dk_isi K .str (de_var 0) rfl T.isinstance rfl T.str) (de_one (de_cmp (opk_eq K hr.units) ar_eqU (de_var 0) (de_var 1) (nomark _))))))
      dss_nil)
    (dss_cons (ds_if (dt_val (dk_isi K .dict (de_var 1) rfl T.isinstance rfl T.dict))
      (dss_cons ds_never
      (dss_one ds_never))
      dss_nil)
    (dss_cons (ds_if (DW.pt (dw_or (dt_cmp (opk_ne K hr.units) ar_neU (dk_isi K .tuple (de_var 1) rfl T.isinstance rfl T.tuple) (dk_isi K .tuple (de_var 0) rfl T.isinstance rfl T.tuple) (nomark _)) (dw_or1 (dt_cmp (opk_ne K hr.units) ar_neU (dk_isi K .list (de_var 1) rfl T.isinstance rfl T.list) (dk_isi K .list (de_var 0) rfl T.isinstance rfl T.list) (nomark _)))))
      (dss_one (ds_ret de_bl))
      dss_nil)
    (dss_cons (ds_if (dt_cmp (opk_ne K hr.units) ar_neU (de_callB (cr_len K) ac_len rfl T.len PySem.boot_len (da_cons (de_var 0) da_nil)) (de_callB (cr_len K) ac_len rfl T.len PySem.boot_len (da_cons (de_var 1) da_nil)) (nomark _))
      (dss_one (ds_ret de_bl))
      dss_nil)
    (dss_one (ds_ret (de_callB (crk_all K rfl) ac_all rfl T.all (by decide +kernel) (da_cons (DF.de (df_lc rfl sc_law_alike.nd (own := [("_law_k", 3)]) (di_range1 rfl T.range (da_cons (de_callB (cr_len K) ac_len rfl T.len PySem.boot_len (da_cons (de_var 1) da_nil)) da_nil)) (blkOk_by (own := [("_law_k", 3)]) (N := N_law_alike) (sc := defScope s_law_alike) (by decide +kernel)) (fun _ _ _ _ _ => (dg_name (i := 3) sc_law_alike.nd rfl (Or.inl rfl))) (fun _ _ _ _ _ => dts_nil) (fun _ _ _ _ _ => (de_call G_law_alike.ok (hr.mono (Nat.le_refl _)) rfl G_law_alike.m G_law_alike.kp G_law_alike.b (da_cons (dk_ix K (de_var 0) (de_var 3)) (da_cons (dk_ix K (de_var 1) (de_var 3)) da_nil)))))) da_nil))))))))))), ?_⟩)
  intro ss Φ hl hP
  obtain ⟨a, rfl, hv, hQ⟩ := hP
  cases a with
  | obj => exact hv.elim
  | dcI => exact hv.elim
  | dcT => exact hv.elim
  | raw => exact hv.elim
  | non => exact hQ
  | bl b => show Φ (.bl (decide (b = b))); rw [decide_eq_true rfl]; exact hQ
  | int i => show Φ (.bl (decide (i = i))); rw [decide_eq_true rfl]; exact hQ
  | str x => show Φ (.bl (decide (x = x))); rw [decide_eq_true rfl]; exact hQ
  | lst xs =>
    obtain ⟨hlen, hx⟩ := hv
    refine iteN (fun z => absurd rfl z) (fun _ => ?_)
    refine ⟨⟨by omega, by omega⟩, by rw [rangeD_len]; omega, fun i acc => acc = List.replicate i (.bl true), rfl, ?_, ?_⟩
    · rintro i x acc hi rfl
      obtain ⟨hi, rfl⟩ := rangeD_at hi
      have hi : i < xs.length := by omega
      have e := List.getElem?_eq_getElem hi
      refine ⟨xs[i], atI_i (by omega) (by rw [← e]; congr 1; omega), xs[i], atI_i (by omega) (by rw [← e]; congr 1; omega), ?_⟩
      exact ⟨xs[i], rfl, hx _ (List.getElem_mem hi), List.replicate_succ'.symm⟩
    · rintro acc rfl
      refine ⟨List.replicate (rangeD 0 (xs.length : Int).toNat).length true, by rw [List.map_replicate], ?_⟩
      have e : ∀ m : Nat, (List.replicate m true).all id = true := fun m => by induction m with
        | zero => rfl
        | succ m ih => rw [List.replicate_succ, List.all_cons, ih]; rfl
      rw [e]
      exact hQ
  | tup xs =>
    obtain ⟨hlen, hx⟩ := hv
    refine iteN (fun z => absurd rfl z) (fun _ => ?_)
    refine ⟨⟨by omega, by omega⟩, by rw [rangeD_len]; omega, fun i acc => acc = List.replicate i (.bl true), rfl, ?_, ?_⟩
    · rintro i x acc hi rfl
      obtain ⟨hi, rfl⟩ := rangeD_at hi
      have hi : i < xs.length := by omega
      have e := List.getElem?_eq_getElem hi
      refine ⟨xs[i], atI_i (by omega) (by rw [← e]; congr 1; omega), xs[i], atI_i (by omega) (by rw [← e]; congr 1; omega), ?_⟩
      exact ⟨xs[i], rfl, hx _ (List.getElem_mem hi), List.replicate_succ'.symm⟩
    · rintro acc rfl
      refine ⟨List.replicate (rangeD 0 (xs.length : Int).toNat).length true, by rw [List.map_replicate], ?_⟩
      have e : ∀ m : Nat, (List.replicate m true).all id = true := fun m => by induction m with
        | zero => rfl
        | succ m ih => rw [List.replicate_succ, List.all_cons, ih]; rfl
      rw [e]
      exact hQ

theorem ok_law_alike (F : Fun K "_law_alike" "_law_alike" s_law_alike f fd) (T : Txt K mg cG cM) (m : mg "_law_alike" = some (.ref f)) (kp : PySem.W.keepIn K (.ref f) = true) (b : Binds K fd ["_law_found", "_law_due"] []) : ∀ n : Nat, FnOk Pr w K mg base CX0 n f fd ["_law_found", "_law_due"] (spD 2 (P_alike n))
  | 0 => ⟨fun vs H Q E h => by obtain ⟨_, _, _, _, _, _, _, _, _, ⟨_, _, z, _⟩, _⟩ := h; exact z.elim, fun A outer s H args us vs Q E _ _ _ _ h => by obtain ⟨_, _, _, _, _, _, _, _, _, ⟨_, _, z, _⟩, _⟩ := h; exact z.elim⟩
  | n + 1 => st_law_alike F T ⟨ok_law_alike F T m kp b n, m, kp, b⟩
theorem ok_replaced (F : Fun K "replaced" "replaced" s_replaced f fd) (T : Txt K mg cG cM) : FnOk Pr w K mg base CX0 1 f fd ["numbers", "at", "number"] (spD 3 PP_replaced) := by
  refine fn_D F sc_replaced rfl (fun cdv A outer s H Eo hr => ⟨_, _, (dss_one (ds_ret (de_op (opk_add K) ar_addU (de_op (opk_add K) ar_addU (dk_sl K (de_var 0) do_none (do_some (de_var 1))) (de_tup (da_cons (de_var 2) da_nil))) (dk_sl K (de_var 0) (do_some (de_op (opk_add K) ar_addU (de_var 1) de_int)) do_none)))), ?_⟩)
  intro ss Φ hl hP
  obtain ⟨l, i, v, rfl, h0, hi, h100, hQ⟩ := hP
  have n1 : ¬ (HT.sIx (l.map D.int).length 0 none = 0 ∧ HT.sIx (l.map D.int).length (l.map D.int).length (some i) = (l.map D.int).length) := by
    rintro ⟨_, h⟩
    have h' : (if i < 0 then (i + ((l.map D.int).length : Int)).toNat else min i.toNat (l.map D.int).length) = (l.map D.int).length := h
    rw [if_neg (by omega), List.length_map] at h'
    omega
  have n2 : ¬ (HT.sIx (l.map D.int).length 0 (some (i + 1)) = 0 ∧ HT.sIx (l.map D.int).length (l.map D.int).length none = (l.map D.int).length) := by
    rintro ⟨h, _⟩
    have h' : (if i + 1 < 0 then (i + 1 + ((l.map D.int).length : Int)).toNat else min (i + 1).toNat (l.map D.int).length) = 0 := h
    rw [if_neg (by omega), List.length_map] at h'
    omega
  have c1 : ∀ lo hi, (cutG (l.map D.int) lo hi).length ≤ 100 := fun lo hi => Nat.le_trans (cut_len1 lo hi) (by rw [List.length_map]; exact h100)
  have a1 := c1 none (some i)
  have a2 := c1 (some (i + 1)) none
  refine ⟨n1, by simp, by simp; omega, n2, by simp; omega, ?_⟩
  have e : cutG (l.map D.int) none (some i) ++ [D.int v] ++ cutG (l.map D.int) (some (i + 1)) none = (l.set i.toNat v).map .int := by
    rw [cut_set h0 (by rw [List.length_map]; exact hi), set_ints]
  show Φ (.tup (cutG (l.map D.int) none (some i) ++ [D.int v] ++ cutG (l.map D.int) (some (i + 1)) none))
  rw [e]
  exact hQ
theorem ok_Gate_many (F : Fun K "many" "Gate.many" s_Gate_many f fd) (T : Txt K mg cG cM) : FnOk Pr w K mg base CX0 1 f fd ["self"] (spD 1 (PP_Gate_many cG)) := by
  refine fn_D F sc_Gate_many rfl (fun cdv A outer s H Eo hr => ⟨_, _, (dss_one (ds_ret (de_callB (cr_len K) ac_len rfl T.len PySem.boot_len (da_cons (dk_fld K T.clGate T.noGate_programs (de_var 0)) da_nil)))), ?_⟩)
  intro ss Φ hl hP
  obtain ⟨g, rfl, hQ⟩ := hP
  refine ⟨rfl, dProgs g, rfl, ?_⟩
  show Φ (.int ((g.hs.map fun h => D.tup (h.2.map dStp)).length : Nat))
  rw [List.length_map]
  exact hQ
theorem ok_begin {f_Gate_many : Addr} {fd_Gate_many : FuncData} (F : Fun K "begin" "begin" s_begin f fd) (T : Txt K mg cG cM) (G_Gate_many : Md Pr w K mg base CX0 1 cG "many" ["self"] (spD 1 (PP_Gate_many cG)) f_Gate_many fd_Gate_many) : FnOk Pr w K mg base CX0 2 f fd ["gate"] (spD 1 (PP_begin cG)) := by
  refine fn_D F sc_begin rfl (fun cdv A outer s H Eo hr => ⟨_, _, (dss_one (ds_ret (de_tup (da_cons (de_callTy (cr_tuple K) ac_tuple rfl T.tuple (by decide +kernel) (da_cons (DF.de (df_lc rfl sc_begin.nd (own := [("first", 1), ("most", 2)]) (dk_seq K (dk_fld K T.clGate T.noGate_pairs (de_var 0))) (blkOk_by (own := [("first", 1), ("most", 2)]) (N := N_begin) (sc := defScope s_begin) (by decide +kernel)) (fun _ _ _ _ _ => (dk_tup (n := 2) K rfl (dgs_cons (dg_name (i := 1) sc_begin.nd rfl (Or.inl rfl)) (dgs_cons (dg_name (i := 2) sc_begin.nd rfl (Or.inl rfl)) dgs_nil)))) (fun _ _ _ _ _ => dts_nil) (fun _ _ _ _ _ => (de_var 1)))) da_nil)) (da_cons (de_op (opk_mul K) ar_mulU (de_tup (da_cons de_int da_nil)) (de_meth0 (de_var 0) T.clGate G_Gate_many.me G_Gate_many.ok (hr.mono (by decide)) G_Gate_many.b)) da_nil))))), ?_⟩)
  intro ss Φ hl hP
  obtain ⟨g, rfl, og, hQ⟩ := hP
  have hb := og.bs.2.1
  have hh := og.h4
  have h1 := og.h1
  refine ⟨rfl, .tup (g.bs.map dBox), rfl, by rw [List.length_map]; omega, fun i acc => acc = ((g.bs.map (·.1)).take i).map .int, rfl, ?_, ?_⟩
  · rintro i x acc hx rfl
    obtain ⟨b, e, rfl⟩ := map_at hx
    refine ⟨rfl, ?_⟩
    exact (take_map (by rw [List.getElem?_map, e]; rfl)).symm
  rintro acc rfl
  refine ⟨by simp, rfl, rfl, g, rfl, ⟨by simp, by omega, by omega, by simp⟩, by simp, ?_⟩
  have e1 : ((g.bs.map (·.1)).take (g.bs.map dBox).length) = g.bs.map (·.1) := List.take_of_length_le (by simp)
  have e2 : (List.replicate ((g.hs.length : Nat) : Int).toNat [D.int 0]).flatten = (g.hs.map fun _ => (0 : Int)).map .int := by
    have e3 : ((g.hs.length : Nat) : Int).toNat = g.hs.length := by omega
    rw [e3, List.map_map]
    clear hQ hl og hb hh h1 e1 e3
    induction g.hs with
    | nil => rfl
    | cons h r ih =>
      rw [List.length_cons, List.replicate_succ, List.flatten_cons, ih]
      rfl
  show Φ (.tup [.tup (((g.bs.map (·.1)).take (g.bs.map dBox).length).map .int), .tup (List.replicate ((g.hs.length : Nat) : Int).toNat [D.int 0]).flatten])
  rw [e1, e2]
  exact hQ
theorem ok_within (F : Fun K "within" "within" s_within f fd) (T : Txt K mg cG cM) : FnOk Pr w K mg base CX0 1 f fd ["gate", "state"] (spD 2 (PP_within cG)) := by
  refine fn_D F sc_within rfl (fun cdv A outer s H Eo hr => ⟨_, _, (dss_one (ds_ret (DF.de (df_lc rfl sc_within.nd (own := [("hand", 2), ("place", 3)]) (dk_enum K rfl T.enumerate (da_cons (dk_ix K (de_var 1) de_int) da_nil)) (blkOk_by (own := [("hand", 2), ("place", 3)]) (N := N_within) (sc := defScope s_within) (by decide +kernel)) (fun _ _ _ _ _ => (dk_tup (n := 2) K rfl (dgs_cons (dg_name (i := 2) sc_within.nd rfl (Or.inl rfl)) (dgs_cons (dg_name (i := 3) sc_within.nd rfl (Or.inl rfl)) dgs_nil)))) (fun _ _ _ _ _ => (dts_one (dt_cmp (opk_eq K hr.units) ar_eqU (de_var 3) (dk_ix K (dk_fld K T.clGate T.noGate_insides (de_var 0)) (de_var 2)) (nomark _)))) (fun _ _ _ _ _ => (de_var 2)))))), ?_⟩)
  intro ss Φ hl hP
  obtain ⟨g, s, rfl, og, os, hQ⟩ := hP
  have h4 := og.h4
  have hn : s.p.length = g.hs.length := os.lp
  refine ⟨dInts s.p, rfl, by rw [enumD_len, List.length_map]; omega, fun i acc => acc = handsD isIn g s i, rfl, ?_, ?_⟩
  · rintro i x acc hx rfl
    obtain ⟨y, hy, rfl⟩ := enumD_at hx
    obtain ⟨x, ex, rfl⟩ := map_at hy
    have hi : i < g.hs.length := by rw [← hn]; exact (List.getElem?_eq_some_iff.mp ex).1
    obtain ⟨h, eh⟩ : ∃ h, g.hs[i]? = some h := ⟨_, List.getElem?_eq_getElem hi⟩
    refine ⟨rfl, rfl, .tup (g.hs.map fun h => .int (inAt h)), rfl, .int (inAt h), atI_map eh, iteD (fun h1 => ?_) (fun h1 => ?_)⟩
    · exact handsD_yes eh ex (decide_eq_true h1)
    · exact handsD_no eh ex (by unfold isIn; rw [decide_eq_false h1]; exact Bool.false_ne_true)
  · rintro acc rfl
    rw [enumD_len, List.length_map, hn]
    exact hQ
theorem ok_can_be_put (F : Fun K "can_be_put" "can_be_put" s_can_be_put f fd) (T : Txt K mg cG cM) : FnOk Pr w K mg base CX0 1 f fd ["boxes", "box", "number"] (spD 3 PP_can_be_put) := by
  refine fn_D F sc_can_be_put rfl (fun cdv A outer s H Eo hr => ⟨_, _, (dss_one (ds_ret (de_and (de_chain op_le ar_le op_lt ar_lt de_int (de_var 1) (de_callB (cr_len K) ac_len rfl T.len PySem.boot_len (da_cons (de_var 0) da_nil))) (de_one (de_chain op_le ar_le op_le ar_le de_int (de_var 2) (dk_ix K (dk_ix K (de_var 0) (de_var 1)) de_int)))))), ?_⟩)
  intro ss Φ hl hP
  obtain ⟨bs, b, n, rfl, hlen, hQ⟩ := hP
  have hml : (bs.map dBox).length = bs.length := List.length_map _
  refine iteD (fun h0 => ?_) (fun h0 => ?_)
  · refine iteD (fun h1 => ?_) (fun h1 => ?_)
    · rw [hml] at h1
      have hb : b.toNat < bs.length := by omega
      obtain ⟨x, ex⟩ : ∃ x, bs[b.toNat]? = some x := ⟨_, List.getElem?_eq_getElem hb⟩
      have e : okStpB bs 0 (.put b n) = decide (0 ≤ n ∧ n ≤ x.2) := by
        simp only [okStpB, ex]
        by_cases h : 0 ≤ n ∧ n ≤ x.2
        · rw [decide_eq_true h, decide_eq_true ⟨h0, h⟩]
        · rw [decide_eq_false h, decide_eq_false fun z => h z.2]
      rw [e] at hQ
      refine iteD (fun h2 => ?_) (fun h2 => ?_)
      · refine ⟨dBox x, atI_mapI h0 ex, .int x.2, rfl, ?_⟩
        have e2 : decide (0 ≤ n ∧ n ≤ x.2) = decide (n ≤ x.2) := by
          by_cases h : n ≤ x.2
          · rw [decide_eq_true h, decide_eq_true ⟨h2, h⟩]
          · rw [decide_eq_false h, decide_eq_false fun z => h z.2]
        rw [e2] at hQ
        exact hQ
      · rw [decide_eq_false fun z => h2 z.1] at hQ
        exact hQ
    · have e : okStpB bs 0 (.put b n) = false := by
        rw [hml] at h1
        have : bs[b.toNat]? = none := List.getElem?_eq_none (by omega)
        simp only [okStpB, this]
      rw [e] at hQ
      exact hQ
  · have e : okStpB bs 0 (.put b n) = false := by
      cases e : bs[b.toNat]? with
      | none => simp only [okStpB, e]
      | some x =>
        simp only [okStpB, e]
        exact decide_eq_false fun z => h0 z.1
    rw [e] at hQ
    exact hQ
theorem ok_can_be_read (F : Fun K "can_be_read" "can_be_read" s_can_be_read f fd) (T : Txt K mg cG cM) : FnOk Pr w K mg base CX0 1 f fd ["boxes", "box", "numbers"] (spD 3 PP_can_be_read) := by
  refine fn_D F sc_can_be_read rfl (fun cdv A outer s H Eo hr => ⟨_, _, (dss_cons (ds_if (dt_not (dt_chain op_le ar_le op_lt ar_lt de_int (de_var 1) (de_callB (cr_len K) ac_len rfl T.len PySem.boot_len (da_cons (de_var 0) da_nil))))
      (dss_one (ds_ret de_bl))
      dss_nil)
    (dss_cons (ds_set (i := 3) sc_can_be_read.nd rfl (Or.inl rfl) (de_neg de_int))
    (dss_cons (ds_for (ix := [4]) PassesOwn.never rfl (dk_seq K (de_var 2)) (dg_name (i := 4) sc_can_be_read.nd rfl (Or.inl rfl))
      (dss_cons (ds_if (dt_not (dt_chain op_lt ar_lt op_le ar_le (de_var 3) (de_var 4) (dk_ix K (dk_ix K (de_var 0) (de_var 1)) de_int)))
        (dss_one (ds_ret de_bl))
        dss_nil)
      (dss_one (ds_set (i := 3) sc_can_be_read.nd rfl (Or.inl rfl) (de_var 4)))))
    (dss_one (ds_ret de_bl))))), ?_⟩)
  intro ss Φ hl hP
  obtain ⟨bs, b, ns, rfl, hlen, hQ⟩ := hP
  have hml : (bs.map dBox).length = bs.length := List.length_map _
  have no : ¬ (0 ≤ b ∧ b < (bs.length : Int)) → rdB bs b ns = false := fun h => by
    by_cases h0 : 0 ≤ b
    · have : bs[b.toNat]? = none := List.getElem?_eq_none (by omega)
      simp only [rdB, this]
    · cases e : bs[b.toNat]? with
      | none => simp only [rdB, e]
      | some x =>
        simp only [rdB, e]
        exact decide_eq_false fun z => h0 z.1
  have bad : ∀ {b' : Bool}, b' = false → Φ (.bl (rdB bs b ns)) → rdB bs b ns = b' → Φ (.bl false) := fun {b'} e h h' => by rw [h', e] at h; exact h
  refine iteD (fun h0 => ?_) (fun h0 => ?_)
  · refine iteN (fun h1 => ?_) (fun h1 => ?_)
    rotate_left
    · rw [hml] at h1
      have hb : b.toNat < bs.length := by omega
      obtain ⟨x, ex⟩ : ∃ x, bs[b.toNat]? = some x := ⟨_, List.getElem?_eq_getElem hb⟩
      have er : rdB bs b ns = decide (ns.Pairwise (· < ·) ∧ ∀ n ∈ ns, 0 ≤ n ∧ n ≤ x.2) := by
        simp only [rdB, ex]
        by_cases h : ns.Pairwise (· < ·) ∧ ∀ n ∈ ns, 0 ≤ n ∧ n ≤ x.2
        · rw [decide_eq_true h, decide_eq_true ⟨h0, h⟩]
        · rw [decide_eq_false h, decide_eq_false fun z => h z.2]
      refine ⟨fun i l => ∃ (last : Int) (a : Option S), l = [some (.d (dBoxes bs)), some (.d (.int b)), some (.d (dInts ns)), some (.d (.int last)), a] ∧ (ns.take i).Pairwise (· < ·) ∧ (∀ n ∈ ns.take i, 0 ≤ n ∧ n ≤ last ∧ n ≤ x.2) ∧ -1 ≤ last ∧ (i = 0 → last = -1) ∧ (0 < i → last ∈ ns.take i), ⟨-1, none, rfl, .nil, fun _ h => absurd h (by simp), Int.le_refl _, fun _ => rfl, fun h => absurd h (Nat.lt_irrefl _)⟩, ?_, ?_⟩
      · rintro i y l' hy ⟨last, a, rfl, hpw, hle, h1l, hz, hin⟩
        obtain ⟨n, en, rfl⟩ := map_at hy
        have et : ns.take (i + 1) = ns.take i ++ [n] := by rw [List.take_add_one, en]; rfl
        refine iteD (fun h2 => ?_) (fun h2 => ?_)
        · refine ⟨dBox x, atI_mapI h0 ex, .int x.2, rfl, ?_⟩
          refine iteN (fun h3 => ?_) (fun h3 => ?_)
          · refine bad rfl hQ ?_
            rw [er]
            exact decide_eq_false fun z => h3 (z.2 n (List.mem_of_getElem? en)).2
          · refine ⟨n, some (.d (.int n)), rfl, ?_, ?_, by omega, fun z => absurd z (Nat.succ_ne_zero _), fun _ => by rw [et]; simp⟩
            · rw [et]
              refine List.pairwise_append.mpr ⟨hpw, List.pairwise_singleton _ _, fun u hu v hv => ?_⟩
              rw [List.mem_singleton.mp hv]
              have := hle u hu
              omega
            · intro m hm
              rw [et] at hm
              rcases List.mem_append.mp hm with w | w
              · have := hle m w
                omega
              · rw [List.mem_singleton.mp w]
                omega
        · refine L2.iteT ?_
          refine bad rfl hQ ?_
          rw [er]
          refine decide_eq_false fun z => h2 ?_
          rcases Nat.eq_zero_or_pos i with h | h
          · rw [hz h]
            have := (z.2 n (List.mem_of_getElem? en)).1
            omega
          · have hl := hin h
            have p := z.1
            have : (ns.take (i + 1)).Pairwise (· < ·) := p.sublist (List.take_sublist _ _)
            rw [et] at this
            exact (List.pairwise_append.mp this).2.2 last hl n (List.mem_singleton_self _)
      · rintro l' ⟨last, a, rfl, hpw, hle, h1l, hz, hin⟩
        rw [List.length_map, List.take_length] at hpw hle
        have : rdB bs b ns = true := by
          rw [er]
          exact decide_eq_true ⟨hpw, fun n hn => ⟨(hle n hn).1, (hle n hn).2.2⟩⟩
        rw [this] at hQ
        exact hQ
    · rw [hml] at h1
      exact bad rfl hQ (no fun z => h1 z.2)
  · exact bad rfl hQ (no fun z => h0 z.1)
theorem ok_can_be_step {f_can_be_put : Addr} {fd_can_be_put : FuncData} {f_can_be_read : Addr} {fd_can_be_read : FuncData} (F : Fun K "can_be_step" "can_be_step" s_can_be_step f fd) (T : Txt K mg cG cM) (G_can_be_put : Gd Pr w K mg base CX0 1 "can_be_put" ["boxes", "box", "number"] (spD 3 PP_can_be_put) f_can_be_put fd_can_be_put) (G_can_be_read : Gd Pr w K mg base CX0 1 "can_be_read" ["boxes", "box", "numbers"] (spD 3 PP_can_be_read) f_can_be_read fd_can_be_read) : FnOk Pr w K mg base CX0 2 f fd ["boxes", "many", "step"] (spD 3 PP_can_be_step) := by
  refine fn_D F sc_can_be_step rfl (fun cdv A outer s H Eo hr => ⟨_, _, (dss_cons (ds_if (dt_cmp (opk_eq K hr.units) ar_eqU (dk_ix K (de_var 2) de_int) de_str (nomark _))
      (dss_one (ds_ret (de_call G_can_be_put.ok (hr.mono (by decide)) rfl G_can_be_put.m G_can_be_put.kp G_can_be_put.b (da_cons (de_var 0) (da_cons (dk_ix K (de_var 2) de_int) (da_cons (dk_ix K (de_var 2) de_int) da_nil))))))
      dss_nil)
    (dss_cons (ds_if (dt_cmp (opk_eq K hr.units) ar_eqU (dk_ix K (de_var 2) de_int) de_str (nomark _))
      (dss_one (ds_ret (de_and (de_call G_can_be_read.ok (hr.mono (by decide)) rfl G_can_be_read.m G_can_be_read.kp G_can_be_read.b (da_cons (de_var 0) (da_cons (dk_ix K (de_var 2) de_int) (da_cons (dk_ix K (de_var 2) de_int) da_nil)))) (de_one (de_chain op_le ar_le op_lt ar_lt de_int (dk_ix K (de_var 2) de_int) (de_var 1))))))
      dss_nil)
    (dss_one (ds_ret (de_cmp (opk_eq K hr.units) ar_eqU (de_var 2) (de_globD T.d_IN) (nomark _)))))), ?_⟩)
  intro ss Φ hl hP
  obtain ⟨bs, many, s, rfl, hlen, hQ⟩ := hP
  cases s with
  | put b n =>
    refine ⟨.str "put", rfl, .int b, rfl, .int n, rfl, bs, b, n, rfl, hlen, ?_⟩
    exact hQ
  | go b ns a =>
    rw [okStpB_go] at hQ
    refine ⟨.str "go", rfl, ?_⟩
    refine ⟨.str "go", rfl, .int b, rfl, dInts ns, rfl, bs, b, ns, rfl, hlen, ?_⟩
    show if rdB bs b ns = true then _ else _
    by_cases h : rdB bs b ns = true
    · rw [if_pos h]
      rw [h, Bool.true_and] at hQ
      refine ⟨.int a, rfl, iteD (fun h1 => ?_) (fun h1 => ?_)⟩
      · have e : decide (1 ≤ a ∧ a < many) = decide (a < many) := by
          by_cases h2 : a < many
          · rw [decide_eq_true h2, decide_eq_true ⟨h1, h2⟩]
          · rw [decide_eq_false h2, decide_eq_false fun z => h2 z.2]
        rw [e] at hQ
        exact hQ
      · rw [decide_eq_false fun z => h1 z.1] at hQ
        exact hQ
    · rw [if_neg h]
      have h' : rdB bs b ns = false := by simpa using h
      rw [h', Bool.false_and] at hQ
      exact hQ
  | inn =>
    refine ⟨.str "in", rfl, ?_⟩
    refine ⟨.str "in", rfl, ?_⟩
    show wEqU (dStp .inn) (.tup [.str "in"]) _
    exact eq_in hQ
theorem ok_places_of_in (F : Fun K "places_of_in" "places_of_in" s_places_of_in f fd) (T : Txt K mg cG cM) : FnOk Pr w K mg base CX0 1 f fd ["steps"] (spD 1 PP_places_of_in) := by
  refine fn_D F sc_places_of_in rfl (fun cdv A outer s H Eo hr => ⟨_, _, (dss_one (ds_ret (DF.de (df_lc rfl sc_places_of_in.nd (own := [("number", 1), ("step", 2)]) (dk_enum K rfl T.enumerate (da_cons (de_var 0) da_nil)) (blkOk_by (own := [("number", 1), ("step", 2)]) (N := N_places_of_in) (sc := defScope s_places_of_in) (by decide +kernel)) (fun _ _ _ _ _ => (dk_tup (n := 2) K rfl (dgs_cons (dg_name (i := 1) sc_places_of_in.nd rfl (Or.inl rfl)) (dgs_cons (dg_name (i := 2) sc_places_of_in.nd rfl (Or.inl rfl)) dgs_nil)))) (fun _ _ _ _ _ => (dts_one (dt_cmp (opk_eq K hr.units) ar_eqU (de_var 2) (de_globD T.d_IN) (nomark _)))) (fun _ _ _ _ _ => (de_var 1)))))), ?_⟩)
  intro ss Φ hl hP
  obtain ⟨l, rfl, hlen, hQ⟩ := hP
  refine ⟨by rw [enumD_len, List.length_map]; omega, fun i acc => acc = insD l i, rfl, ?_, ?_⟩
  · rintro i x acc hx rfl
    obtain ⟨y, hy, rfl⟩ := enumD_at hx
    obtain ⟨s, es, rfl⟩ := map_at hy
    refine ⟨rfl, ?_⟩
    refine eq_in (s := s) (Φ := fun d => match d with
      | .bl k => if k = true then insD l i ++ [.int (i : Int)] = insD l (i + 1) else insD l i = insD l (i + 1)
      | _ => False) (iteD (fun h1 => ?_) (fun h1 => ?_))
    · exact insD_yes (by rw [es, h1])
    · exact insD_no (by rw [es]; exact fun z => h1 (Option.some.inj z))
  · rintro acc rfl
    rw [enumD_len, List.length_map]
    exact hQ
theorem ok_check_program {f_can_be_step : Addr} {fd_can_be_step : FuncData} (F : Fun K "check_program" "check_program" s_check_program f fd) (T : Txt K mg cG cM) (G_can_be_step : Gd Pr w K mg base CX0 2 "can_be_step" ["boxes", "many", "step"] (spD 3 PP_can_be_step) f_can_be_step fd_can_be_step) : FnOk Pr w K mg base CX0 3 f fd ["boxes", "hand", "steps"] (spD 3 PP_check_program) := by
  refine fn_D F sc_check_program rfl (fun cdv A outer s H Eo hr => ⟨_, _, (dss_cons (ds_if (dt_not (dt_chain op_le ar_le op_le ar_le (de_globI rfl T.c_FEWEST_STEPS.choose_spec) (de_callB (cr_len K) ac_len rfl T.len PySem.boot_len (da_cons (de_var 2) da_nil)) (de_globI rfl T.c_MOST_STEPS.choose_spec)))
      (dss_one ds_never)
      dss_nil)
    (dss_one (ds_for (ix := [3, 4]) PassesOwn.never rfl (dk_enum K rfl T.enumerate (da_cons (de_var 2) da_nil)) (dk_tup (n := 2) K rfl (dgs_cons (dg_name (i := 3) sc_check_program.nd rfl (Or.inl rfl)) (dgs_cons (dg_name (i := 4) sc_check_program.nd rfl (Or.inl rfl)) dgs_nil)))
      (dss_one (ds_if (dt_not (dt_val (de_call G_can_be_step.ok (hr.mono (by decide)) rfl G_can_be_step.m G_can_be_step.kp G_can_be_step.b (da_cons (de_var 0) (da_cons (de_callB (cr_len K) ac_len rfl T.len PySem.boot_len (da_cons (de_var 2) da_nil)) (da_cons (de_var 4) da_nil))))))
        (dss_one ds_never)
        dss_nil))))), ?_⟩)
  intro ss Φ hl hP
  obtain ⟨bs, h, i, rfl, ob, oh, hQ⟩ := hP
  have h2 := oh.len2
  have h24 := oh.len24
  have hml : (h.2.map dStp).length = h.2.length := List.length_map _
  refine iteD (fun h0 => ?_) (fun h0 => absurd (by rw [hml]; omega) h0)
  refine iteN (fun h1 => absurd (by rw [hml]; omega) h1) (fun h1 => ?_)
  refine ⟨fun k l => ∃ a b : Option S, l = [some (.d (dBoxes bs)), some (.d (.int i)), some (.d (.lst (h.2.map dStp))), a, b], ⟨none, none, rfl⟩, ?_, ?_⟩
  · rintro k x l' hx ⟨a, b, rfl⟩
    obtain ⟨y, hy, rfl⟩ := enumD_at hx
    obtain ⟨s, es, rfl⟩ := map_at hy
    refine ⟨rfl, bs, _, s, rfl, by have := ob.2.1; omega, ?_⟩
    have e : okStpB bs ((h.2.map dStp).length : Int) s = true := by rw [hml]; exact okStpB_of (oh.ok s (List.mem_of_getElem? es))
    rw [e]
    exact ⟨_, _, rfl⟩
  · rintro l' ⟨a, b, rfl⟩
    exact hQ
theorem ok_check_knock {f_places_of_in : Addr} {fd_places_of_in : FuncData} (F : Fun K "check_knock" "check_knock" s_check_knock f fd) (T : Txt K mg cG cM) (G_places_of_in : Gd Pr w K mg base CX0 1 "places_of_in" ["steps"] (spD 1 PP_places_of_in) f_places_of_in fd_places_of_in) : FnOk Pr w K mg base CX0 2 f fd ["hand", "knock", "steps"] (spD 3 PP_check_knock) := by
  refine fn_D F sc_check_knock rfl (fun cdv A outer s H Eo hr => ⟨_, _, (dss_cons (ds_set (i := 3) sc_check_knock.nd rfl (Or.inl rfl) (de_call G_places_of_in.ok (hr.mono (by decide)) rfl G_places_of_in.m G_places_of_in.kp G_places_of_in.b (da_cons (de_var 2) da_nil)))
    (dss_cons (ds_if (DW.pt (dw_or (dt_cmp (opk_ne K hr.units) ar_neU (de_callB (cr_len K) ac_len rfl T.len PySem.boot_len (da_cons (de_var 3) da_nil)) de_int (nomark _)) (dw_or1 (dt_cmp (opk_eq K hr.units) ar_eqU (dk_ix K (de_var 3) de_int) de_int (nomark _)))))
      (dss_one ds_never)
      dss_nil)
    (dss_one (ds_if (dt_not (dt_chain op_le ar_le op_le ar_le de_int (de_var 1) (dk_ix K (de_var 3) de_int)))
      (dss_one ds_never)
      dss_nil)))), ?_⟩)
  intro ss Φ hl hP
  obtain ⟨bs, h, i, rfl, oh, hQ⟩ := hP
  have h24 := oh.len24
  obtain ⟨a1, a2, a3, a4, a5⟩ := inAt_ok oh
  have hi : inAt h < h.2.length := (List.getElem?_eq_some_iff.mp a1).1
  refine ⟨h.2, rfl, by omega, ?_⟩
  rw [insD_one a1 a3, if_pos hi]
  refine ⟨.int (inAt h), rfl, ?_⟩
  refine iteD (fun h0 => absurd h0 (by omega)) (fun _ => ?_)
  refine iteD (fun h1 => ?_) (fun h1 => absurd a4 h1)
  refine ⟨.int (inAt h), rfl, ?_⟩
  refine iteN (fun h2 => absurd a5 h2) (fun h2 => ?_)
  exact hQ
theorem ok_check_boxes (F : Fun K "check_boxes" "check_boxes" s_check_boxes f fd) (T : Txt K mg cG cM) : FnOk Pr w K mg base CX0 1 f fd ["boxes"] (spD 1 PP_check_boxes) := by
  refine fn_D F sc_check_boxes rfl (fun cdv A outer s H Eo hr => ⟨_, _, (dss_cons (ds_if (dt_not (dt_chain op_le ar_le op_le ar_le de_int (de_callB (cr_len K) ac_len rfl T.len PySem.boot_len (da_cons (de_var 0) da_nil)) (de_globI rfl T.c_MOST_BOXES.choose_spec)))
      (dss_one ds_never)
      dss_nil)
    (dss_one (ds_for (ix := [1, 2, 3]) PassesOwn.never rfl (dk_enum K rfl T.enumerate (da_cons (de_var 0) da_nil)) (dk_tup (n := 2) K rfl (dgs_cons (dg_name (i := 1) sc_check_boxes.nd rfl (Or.inl rfl)) (dgs_cons (dk_tup (n := 2) K rfl (dgs_cons (dg_name (i := 2) sc_check_boxes.nd rfl (Or.inl rfl)) (dgs_cons (dg_name (i := 3) sc_check_boxes.nd rfl (Or.inl rfl)) dgs_nil))) dgs_nil)))
      (dss_one (ds_if (dt_not (dt_chain3 op_le ar_le op_le ar_le op_le ar_le de_int (de_var 2) (de_var 3) (de_globI rfl T.c_MOST_IN_BOX.choose_spec)))
        (dss_one ds_never)
        dss_nil))))), ?_⟩)
  intro ss Φ hl hP
  obtain ⟨bs, rfl, ob, hQ⟩ := hP
  obtain ⟨o1, o2, o3⟩ := ob
  have hml : (bs.map dBox).length = bs.length := List.length_map _
  refine iteD (fun h0 => ?_) (fun h0 => absurd (by rw [hml]; omega) h0)
  refine iteN (fun h1 => absurd (by rw [hml]; omega) h1) (fun h1 => ?_)
  refine ⟨fun k l => ∃ a b c : Option S, l = [some (.d (dBoxes bs)), a, b, c], ⟨none, none, none, rfl⟩, ?_, ?_⟩
  · rintro k x l' hx ⟨a, b, c, rfl⟩
    obtain ⟨y, hy, rfl⟩ := enumD_at hx
    obtain ⟨s, es, rfl⟩ := map_at hy
    obtain ⟨p1, p2, p3⟩ := o3 s (List.mem_of_getElem? es)
    refine ⟨rfl, rfl, ?_⟩
    refine iteD (fun q1 => ?_) (fun q1 => absurd p1 q1)
    refine iteD (fun q2 => ?_) (fun q2 => absurd p2 q2)
    refine iteN (fun q3 => absurd p3 q3) (fun q3 => ?_)
    exact ⟨_, _, _, rfl⟩
  · rintro l' ⟨a, b, c, rfl⟩
    exact hQ
theorem ok_check_hands {f_check_program : Addr} {fd_check_program : FuncData} {f_check_knock : Addr} {fd_check_knock : FuncData} (F : Fun K "check_hands" "check_hands" s_check_hands f fd) (T : Txt K mg cG cM) (G_check_program : Gd Pr w K mg base CX0 3 "check_program" ["boxes", "hand", "steps"] (spD 3 PP_check_program) f_check_program fd_check_program) (G_check_knock : Gd Pr w K mg base CX0 2 "check_knock" ["hand", "knock", "steps"] (spD 3 PP_check_knock) f_check_knock fd_check_knock) : FnOk Pr w K mg base CX0 4 f fd ["boxes", "hands"] (spD 2 PP_check_hands) := by
  refine fn_D F sc_check_hands rfl (fun cdv A outer s H Eo hr => ⟨_, _, (dss_cons (ds_if (dt_not (dt_chain op_le ar_le op_le ar_le de_int (de_callB (cr_len K) ac_len rfl T.len PySem.boot_len (da_cons (de_var 1) da_nil)) (de_globI rfl T.c_MOST_HANDS.choose_spec)))
      (dss_one ds_never)
      dss_nil)
    (dss_one (ds_for (ix := [2, 3, 4]) PassesOwn.never rfl (dk_enum K rfl T.enumerate (da_cons (de_var 1) da_nil)) (dk_tup (n := 2) K rfl (dgs_cons (dg_name (i := 2) sc_check_hands.nd rfl (Or.inl rfl)) (dgs_cons (dk_tup (n := 2) K rfl (dgs_cons (dg_name (i := 3) sc_check_hands.nd rfl (Or.inl rfl)) (dgs_cons (dg_name (i := 4) sc_check_hands.nd rfl (Or.inl rfl)) dgs_nil))) dgs_nil)))
      (dss_cons (ds_expr (de_call G_check_program.ok (hr.mono (by decide)) rfl G_check_program.m G_check_program.kp G_check_program.b (da_cons (de_var 0) (da_cons (de_var 2) (da_cons (de_var 4) da_nil)))))
      (dss_one (ds_expr (de_call G_check_knock.ok (hr.mono (by decide)) rfl G_check_knock.m G_check_knock.kp G_check_knock.b (da_cons (de_var 2) (da_cons (de_var 3) (da_cons (de_var 4) da_nil)))))))))), ?_⟩)
  intro ss Φ hl hP
  obtain ⟨g, rfl, og, hQ⟩ := hP
  have h1 := og.h1
  have h4 := og.h4
  have hml : (g.hs.map dHand).length = g.hs.length := List.length_map _
  refine iteD (fun h0 => ?_) (fun h0 => absurd (by rw [hml]; omega) h0)
  refine iteN (fun h1 => absurd (by rw [hml]; omega) h1) (fun h1 => ?_)
  refine ⟨fun k l => ∃ a b c : Option S, l = [some (.d (dBoxes g.bs)), some (.d (.lst (g.hs.map dHand))), a, b, c], ⟨none, none, none, rfl⟩, ?_, ?_⟩
  · rintro k x l' hx ⟨a, b, c, rfl⟩
    obtain ⟨y, hy, rfl⟩ := enumD_at hx
    obtain ⟨h, eh, rfl⟩ := map_at hy
    have oh := og.hs h (List.mem_of_getElem? eh)
    refine ⟨rfl, rfl, g.bs, h, _, rfl, og.bs, oh, ?_⟩
    exact ⟨g.bs, h, _, rfl, oh, _, _, _, rfl⟩
  · rintro l' ⟨a, b, c, rfl⟩
    exact hQ
theorem ok_Gate_init {f_check_boxes : Addr} {fd_check_boxes : FuncData} {f_check_hands : Addr} {fd_check_hands : FuncData} {f_places_of_in : Addr} {fd_places_of_in : FuncData} (F : Fun K "__init__" "Gate.__init__" s_Gate_init f fd) (T : Txt K mg cG cM) (G_check_boxes : Gd Pr w K mg base CX0 1 "check_boxes" ["boxes"] (spD 1 PP_check_boxes) f_check_boxes fd_check_boxes) (G_check_hands : Gd Pr w K mg base CX0 4 "check_hands" ["boxes", "hands"] (spD 2 PP_check_hands) f_check_hands fd_check_hands) (G_places_of_in : Gd Pr w K mg base CX0 1 "places_of_in" ["steps"] (spD 1 PP_places_of_in) f_places_of_in fd_places_of_in) : FnOk Pr w K mg base CX0 5 f fd ["self", "boxes", "hands"] (spInit cG 2 P_init) := by
  refine fn_init F sc_Gate_init rfl (by decide) (fun cdv A outer s H E hr => ⟨_, _, (in_expr (de_call G_check_boxes.ok (hr.mono (by decide)) rfl G_check_boxes.m G_check_boxes.kp G_check_boxes.b (da_cons (de_var 1) da_nil))
    (in_expr (de_call G_check_hands.ok (hr.mono (by decide)) rfl G_check_hands.m G_check_hands.kp G_check_hands.b (da_cons (de_var 1) (da_cons (de_var 2) da_nil)))
    (in_fld K T.clGate T.noGate_pairs (de_callTy (cr_tuple K) ac_tuple rfl T.tuple (by decide +kernel) (da_cons (de_var 1) da_nil))
    (in_fld K T.clGate T.noGate_programs (de_callTy (cr_tuple K) ac_tuple rfl T.tuple (by decide +kernel) (da_cons (DF.de (df_lc rfl sc_Gate_init.nd (own := [("knock", 3), ("steps", 4)]) (dk_seq K (de_var 2)) (blkOk_by (own := [("knock", 3), ("steps", 4)]) (N := N_Gate_init) (sc := defScope s_Gate_init) (by decide +kernel)) (fun _ _ _ _ _ => (dk_tup (n := 2) K rfl (dgs_cons (dg_name (i := 3) sc_Gate_init.nd rfl (Or.inl rfl)) (dgs_cons (dg_name (i := 4) sc_Gate_init.nd rfl (Or.inl rfl)) dgs_nil)))) (fun _ _ _ _ _ => dts_nil) (fun _ _ _ _ _ => (de_callTy (cr_tuple K) ac_tuple rfl T.tuple (by decide +kernel) (da_cons (de_var 4) da_nil))))) da_nil))
    (in_fld K T.clGate T.noGate_knocks (de_callTy (cr_tuple K) ac_tuple rfl T.tuple (by decide +kernel) (da_cons (DF.de (df_lc rfl sc_Gate_init.nd (own := [("knock", 3), ("steps", 4)]) (dk_seq K (de_var 2)) (blkOk_by (own := [("knock", 3), ("steps", 4)]) (N := N_Gate_init) (sc := defScope s_Gate_init) (by decide +kernel)) (fun _ _ _ _ _ => (dk_tup (n := 2) K rfl (dgs_cons (dg_name (i := 3) sc_Gate_init.nd rfl (Or.inl rfl)) (dgs_cons (dg_name (i := 4) sc_Gate_init.nd rfl (Or.inl rfl)) dgs_nil)))) (fun _ _ _ _ _ => dts_nil) (fun _ _ _ _ _ => (de_var 3)))) da_nil))
    (in_fld K T.clGate T.noGate_insides (de_callTy (cr_tuple K) ac_tuple rfl T.tuple (by decide +kernel) (da_cons (DF.de (df_lc rfl sc_Gate_init.nd (own := [("knock", 3), ("steps", 4)]) (dk_seq K (de_var 2)) (blkOk_by (own := [("knock", 3), ("steps", 4)]) (N := N_Gate_init) (sc := defScope s_Gate_init) (by decide +kernel)) (fun _ _ _ _ _ => (dk_tup (n := 2) K rfl (dgs_cons (dg_name (i := 3) sc_Gate_init.nd rfl (Or.inl rfl)) (dgs_cons (dg_name (i := 4) sc_Gate_init.nd rfl (Or.inl rfl)) dgs_nil)))) (fun _ _ _ _ _ => dts_nil) (fun _ _ _ _ _ => (dk_ix K (de_call G_places_of_in.ok (hr.mono (by decide)) rfl G_places_of_in.m G_places_of_in.kp G_places_of_in.b (da_cons (de_var 4) da_nil)) de_int)))) da_nil))
    in_nil)))))), ?_⟩)
  rintro ss Φ Ψ hl ⟨g, rfl, og, hQ⟩
  have h4 := og.h4
  have hml : (g.hs.map dHand).length = g.hs.length := List.length_map _
  have step : ∀ (F : Hand → D) (i : Nat) (h : Hand), g.hs[i]? = some h → (g.hs.take i).map F ++ [F h] = (g.hs.take (i + 1)).map F := fun F i h e => (take_map e).symm
  refine ⟨g.bs, rfl, og.bs, ?_⟩
  refine ⟨g, rfl, og, ?_⟩
  refine ⟨⟨by first | (simp; done) | (simp; decide +kernel), by decide⟩, ?_⟩
  refine ⟨by rw [hml]; omega, fun i acc => acc = (g.hs.take i).map fun h => D.tup (h.2.map dStp), rfl, ?_, ?_⟩
  · rintro i x acc hx rfl
    obtain ⟨h, eh, rfl⟩ := map_at hx
    refine ⟨rfl, ?_⟩
    exact step (fun h => D.tup (h.2.map dStp)) i h eh
  rintro acc rfl
  refine ⟨⟨by first | (simp; done) | (simp; decide +kernel), by decide⟩, ?_⟩
  refine ⟨by rw [hml]; omega, fun i acc => acc = (g.hs.take i).map fun h => D.int h.1, rfl, ?_, ?_⟩
  · rintro i x acc hx rfl
    obtain ⟨h, eh, rfl⟩ := map_at hx
    refine ⟨rfl, ?_⟩
    exact step (fun h => D.int h.1) i h eh
  rintro acc rfl
  refine ⟨⟨by first | (simp; done) | (simp; decide +kernel), by decide⟩, ?_⟩
  refine ⟨by rw [hml]; omega, fun i acc => acc = (g.hs.take i).map fun h => D.int (inAt h), rfl, ?_, ?_⟩
  · rintro i x acc hx rfl
    obtain ⟨h, eh, rfl⟩ := map_at hx
    have oh := og.hs h (List.mem_of_getElem? eh)
    have h24 := oh.len24
    obtain ⟨a1, a2, a3, a4, a5⟩ := inAt_ok oh
    have hi : inAt h < h.2.length := (List.getElem?_eq_some_iff.mp a1).1
    refine ⟨rfl, h.2, rfl, by omega, ?_⟩
    rw [insD_one a1 a3, if_pos hi]
    refine ⟨.int (inAt h), rfl, ?_⟩
    exact step (fun h => D.int (inAt h)) i h eh
  rintro acc rfl
  refine ⟨⟨by first | (simp; done) | (simp; decide +kernel), by decide⟩, ?_⟩
  rw [hml, List.take_length] at *
  exact hQ
theorem ok_check_hand {aN f_Gate_many : Addr} {fd_Gate_many : FuncData} (F : Fun K "check_hand" "check_hand" s_check_hand f fd) (T : Txt K mg cG cM) (gN : mg "NoHand" = some (.ref aN)) (qe : PySem.W.excIn K aN He.veBase "ValueError.__new__" = true) (kN : PySem.W.keepIn K (.ref aN) = true) (sN : PySem.W.subIn K (.ref aN) (.type "BaseException") = some true) (tN : PySem.W.typeIn K (.ref aN) = some (.type "type")) (G_Gate_many : Md Pr w K mg base CX0 1 cG "many" ["self"] (spD 1 (PP_Gate_many cG)) f_Gate_many fd_Gate_many) : FnOk Pr w K mg base (L2N.CX Pr w) 3 f fd ["gate", "hand"] (spX 2 (PP_check_hand cG aN)) := by
  refine fn_N F sc_check_hand rfl (fun cdv A outer s H E hr => ⟨_, _, (dss_one (ds_if (dt_not (dt_chain op_le ar_le op_lt ar_lt de_int (de_var 1) (de_meth0 (de_var 0) T.clGate G_Gate_many.me G_Gate_many.ok (hr.mono (by decide)) G_Gate_many.b))) (dss_one (ds_raise rfl (L2N.takes_of rfl rfl rfl rfl) (L2N.pmk_own PySem.F.excBase_ValueError qe gN kN (L2.raises_own sN tN) rfl))) dss_nil)), ?_⟩)
  intro ss Φ Ψ hl hP
  obtain ⟨g, h, rfl, og, hle, hy, hn⟩ := hP
  refine iteD (fun h0 => ?_) (fun h0 => ?_)
  · refine ⟨rfl, rfl, g, rfl, ?_⟩
    refine iteN (fun h1 => hn fun z => h1 z.2) (fun h1 => hy ⟨h0, h1⟩)
  · exact hn fun z => h0 z.1
theorem ok_done {aN f_check_hand f_replaced : Addr} {fd_check_hand fd_replaced : FuncData} (F : Fun K "done" "done" s_done f fd) (T : Txt K mg cG cM) (G_check_hand : Gd Pr w K mg base (L2N.CX Pr w) 3 "check_hand" ["gate", "hand"] (spX 2 (PP_check_hand cG aN)) f_check_hand fd_check_hand) (G_replaced : Gd Pr w K mg base CX0 1 "replaced" ["numbers", "at", "number"] (spD 3 PP_replaced) f_replaced fd_replaced) : FnOk Pr w K mg base (L2N.CX Pr w) 4 f fd ["gate", "state", "hand"] (spX 3 (PP_done cG aN)) := by
  refine fn_N F sc_done rfl (fun cdv A outer s H E hr => ⟨_, _, (dss_cons (ds_expr (de_callX G_check_hand.ok (hr.mono (by decide)) rfl G_check_hand.m G_check_hand.kp G_check_hand.b (L2N.passes_call (W := fun cls d _ H => E cls d H) (L2N.takes_of rfl rfl rfl rfl) (fun _ _ _ _ h => h)) (da_cons (de_var 0) (da_cons (de_var 2) da_nil))))
    (dss_cons (ds_asg (ix := [3, 4]) (de_var 1) (dk_tup (n := 2) K rfl (dgs_cons (dg_name (i := 3) sc_done.nd rfl (Or.inl rfl)) (dgs_cons (dg_name (i := 4) sc_done.nd rfl (Or.inl rfl)) dgs_nil))))
    (dss_cons (ds_set (i := 5) sc_done.nd rfl (Or.inl rfl) (dk_ix K (dk_fld K T.clGate T.noGate_programs (de_var 0)) (de_var 2)))
    (dss_cons (ds_set (i := 6) sc_done.nd rfl (Or.inl rfl) (dk_ix K (de_var 5) (dk_ix K (de_var 4) (de_var 2))))
    (dss_cons (ds_set (i := 7) sc_done.nd rfl (Or.inl rfl) (de_op op_mod ar_mod (de_op (opk_add K) ar_addU (dk_ix K (de_var 4) (de_var 2)) de_int) (de_callB (cr_len K) ac_len rfl T.len PySem.boot_len (da_cons (de_var 5) da_nil))))
    (dss_cons (ds_if (dt_cmp (opk_eq K hr.units) ar_eqU (dk_ix K (de_var 6) de_int) de_str (nomark _))
      (dss_one (ds_set (i := 3) sc_done.nd rfl (Or.inl rfl) (de_call G_replaced.ok (hr.mono (by decide)) rfl G_replaced.m G_replaced.kp G_replaced.b (da_cons (de_var 3) (da_cons (dk_ix K (de_var 6) de_int) (da_cons (dk_ix K (de_var 6) de_int) da_nil))))))
      (dss_one (ds_if (DW.pt (dw_and (dt_cmp (opk_eq K hr.units) ar_eqU (dk_ix K (de_var 6) de_int) de_str (nomark _)) (dw_and1 (dt_cmp (opk_in K) ar_in (dk_ix K (de_var 3) (dk_ix K (de_var 6) de_int)) (dk_ix K (de_var 6) de_int) (by rfl)))))
        (dss_one (ds_set (i := 7) sc_done.nd rfl (Or.inl rfl) (dk_ix K (de_var 6) de_int)))
        dss_nil)))
    (dss_one (ds_ret (de_tup (da_cons (de_var 3) (da_cons (de_call G_replaced.ok (hr.mono (by decide)) rfl G_replaced.m G_replaced.kp G_replaced.b (da_cons (de_var 4) (da_cons (de_var 2) (da_cons (de_var 7) da_nil)))) da_nil))))))))))), ?_⟩)
  rintro ss Φ Ψ hl ⟨g, s, hh, rfl, og, os, hle, h1, h2⟩
  refine ⟨g, hh, rfl, og, hle, fun hv => ?_, h2⟩
  have hQ := h1 hv
  obtain ⟨i, rfl⟩ : ∃ i : Nat, hh = (i : Int) := ⟨hh.toNat, by omega⟩
  have hi : i < g.hs.length := by omega
  rw [Int.toNat_natCast] at hQ
  have h4 := og.h4
  have b12 := og.bs.2.1
  obtain ⟨h, eh⟩ : ∃ h, g.hs[i]? = some h := ⟨_, List.getElem?_eq_getElem hi⟩
  have hpl : i < s.p.length := by rw [os.lp]; exact hi
  obtain ⟨x, ex⟩ : ∃ x, s.p[i]? = some x := ⟨_, List.getElem?_eq_getElem hpl⟩
  obtain ⟨x0, x1⟩ := os.pl i x h ex eh
  have oh := og.hs h (List.mem_of_getElem? eh)
  have hl2 := oh.len2
  have hx : x.toNat < h.2.length := by omega
  obtain ⟨st, est⟩ : ∃ st, h.2[x.toNat]? = some st := ⟨_, List.getElem?_eq_getElem hx⟩
  have hst := oh.ok st (List.mem_of_getElem? est)
  have e := doneM_eq eh ex est
  rw [e] at hQ
  have lb := os.lb
  have lp := os.lp
  have o3 : (h.2.map dStp).length = h.2.length := List.length_map _
  refine ⟨rfl, ?_⟩
  refine ⟨rfl, dProgs g, rfl, .tup (h.2.map dStp), atI_map eh, ?_⟩
  refine ⟨.int x, atI_map ex, dStp st, atI_mapI x0 est, ?_⟩
  refine ⟨.int x, atI_map ex, by rw [o3]; show (0 : Int) < h.2.length; omega, ?_⟩
  have en : (x + 1) % ((h.2.map dStp).length : Int) = nextAt h x := by rw [o3]; rfl
  have hpi : (i : Int).toNat < s.p.length := by rw [Int.toNat_natCast]; exact hpl
  cases st with
  | put b n =>
    obtain ⟨y, b0, hb, n0, n1⟩ := hst
    have := (List.getElem?_eq_some_iff.mp hb).1
    refine ⟨.str "put", rfl, ?_⟩
    refine ⟨.int b, rfl, .int n, rfl, s.b, b, n, rfl, b0, by omega, by omega, ?_⟩
    refine ⟨s.p, i, (x + 1) % ((h.2.map dStp).length : Int), rfl, by omega, hpi, by omega, by simp, ?_⟩
    rw [en, Int.toNat_natCast]
    exact hQ
  | go b ns a =>
    obtain ⟨y, b0, hb, _, _, a1, a2⟩ := hst
    have hbl : b.toNat < s.b.length := by rw [os.lb]; exact (List.getElem?_eq_some_iff.mp hb).1
    obtain ⟨z, ez⟩ : ∃ z, s.b[b.toNat]? = some z := ⟨_, List.getElem?_eq_getElem hbl⟩
    have egd : s.b.getD b.toNat 0 = z := by rw [List.getD_eq_getElem?_getD, ez]; rfl
    refine ⟨.str "go", rfl, ?_⟩
    refine ⟨.str "go", rfl, ?_⟩
    refine ⟨.int b, rfl, .int z, atI_mapI b0 ez, dInts ns, rfl, ⟨rfl, ints_flat ns⟩, iteC (p := z ∈ ns) (ints_in ns z) (fun hin => ?_) (fun hin => ?_)⟩
    · refine ⟨.int a, rfl, s.p, i, a, rfl, by omega, hpi, by omega, by simp, ?_⟩
      rw [Int.toNat_natCast]
      have e2 : stepM s i h x (.go b ns a) = ⟨s.b, s.p.set i a⟩ := by
        show Stt.mk s.b (s.p.set i (if s.b.getD b.toNat 0 ∈ ns then a else nextAt h x)) = _
        rw [egd, if_pos hin]
      rw [e2] at hQ
      exact hQ
    · refine ⟨s.p, i, (x + 1) % ((h.2.map dStp).length : Int), rfl, by omega, hpi, by omega, by simp, ?_⟩
      rw [en, Int.toNat_natCast]
      have e2 : stepM s i h x (.go b ns a) = ⟨s.b, s.p.set i (nextAt h x)⟩ := by
        show Stt.mk s.b (s.p.set i (if s.b.getD b.toNat 0 ∈ ns then a else nextAt h x)) = _
        rw [egd, if_neg hin]
      rw [e2] at hQ
      exact hQ
  | inn =>
    refine ⟨.str "in", rfl, ?_⟩
    refine ⟨.str "in", rfl, ?_⟩
    refine ⟨s.p, i, (x + 1) % ((h.2.map dStp).length : Int), rfl, by omega, hpi, by omega, by simp, ?_⟩
    rw [en, Int.toNat_natCast]
    exact hQ
theorem ok_many_choices (F : Fun K "many_choices" "many_choices" s_many_choices f fd) (T : Txt K mg cG cM) : FnOk Pr w K mg base CX0 1 f fd ["parts"] (spD 1 PP_many_choicesD) := by
  refine fn_D F sc_many_choices rfl (fun cdv A outer s H Eo hr => ⟨_, _, (dss_cons (ds_set (i := 1) sc_many_choices.nd rfl (Or.inl rfl) de_int)
    (dss_cons (ds_for (ix := [2]) PassesOwn.never rfl (dk_seq K (de_var 0)) (dg_name (i := 2) sc_many_choices.nd rfl (Or.inl rfl))
      (dss_one (ds_aug (i := 1) ip_mul ipi_mul sc_many_choices.nd rfl (Or.inl rfl) (de_callB (cr_len K) ac_len rfl T.len PySem.boot_len (da_cons (de_var 2) da_nil)))))
    (dss_one (ds_ret (de_var 1))))), ?_⟩)
  intro ss Φ hl hP
  obtain ⟨ps, rfl, hps, hQ⟩ := hP
  refine ⟨fun i l => ∃ a, l = [some (.d (.lst (ps.map .lst))), some (.d (.int (manyG (ps.take i) : Nat))), a], ⟨none, rfl⟩, ?_, ?_⟩
  · rintro i x l' hx ⟨a, rfl⟩
    obtain ⟨p, hp, rfl⟩ := map_at hx
    have h100 := hps p (List.mem_of_getElem? hp)
    refine ⟨Or.inr ?_, some (.d (.lst p)), ?_⟩
    · omega
    · show [_, some (S.d (D.int _)), _] = [_, _, _]
      rw [take_next' hp, manyG_snoc, Int.natCast_mul]
  · rintro l' ⟨a, rfl⟩
    show Φ _
    rw [List.length_map, List.take_length]
    exact hQ
theorem ok_choices (F : Fun K "choices" "choices" s_choices f fd) (T : Txt K mg cG cM) : FnOk Pr w K mg base CX0 1 f fd ["parts"] (spD 1 PP_choicesD) := by
  refine fn_D F sc_choices rfl (fun cdv A outer s H Eo hr => ⟨_, _, (dss_cons (ds_set (i := 1) sc_choices.nd rfl (Or.inl rfl) (DF.de (df_lst (da_cons (de_tup da_nil) da_nil))))
    (dss_cons (ds_for (ix := [2]) PassesOwn.never rfl (dk_seq K (de_var 0)) (dg_name (i := 2) sc_choices.nd rfl (Or.inr rfl))
      (dss_one (ds_setLc2 (i := 1) rfl rfl (sw_true rfl rfl rfl (by decide +kernel)) (own := [("row", 3), ("one", 4)]) (vs1 := [4]) rfl sc_choices.nd (dk_seq K (de_var 1)) (blkOk_by (own := [("row", 3), ("one", 4)]) (N := N_choices) (sc := defScope s_choices) (by decide +kernel)) (by decide) (fun _ _ _ _ _ => (dg_name (i := 3) sc_choices.nd rfl (Or.inl rfl))) (fun _ _ _ _ _ => dts_nil) (fun _ _ _ _ _ => (dk_seq K (de_var 2))) (fun _ _ _ _ _ => (dg_name (i := 4) sc_choices.nd rfl (Or.inl rfl))) (fun _ _ _ _ _ => dts_nil) (fun _ _ _ _ _ => (de_op (opk_add K) ar_addU (de_var 3) (de_tup (da_cons (de_var 4) da_nil)))))))
    (dss_one (ds_ret (de_var 1))))), ?_⟩)
  intro ss Φ hl hP
  obtain ⟨ps, rfl, hne, h100, h5, hQ⟩ := hP
  refine ⟨by simp, by simp, ?_⟩
  refine ⟨fun i l => ∃ a b c, l = [some (.d (.lst (ps.map .lst))), some (.d (.lst ((choicesG (ps.take i)).map .tup))), a, b, c], ⟨none, none, none, rfl⟩, ?_, ?_⟩
  · rintro i x l' hx ⟨a, b, c, rfl⟩
    obtain ⟨p, hp, rfl⟩ := map_at hx
    have e1 : choicesG (ps.take (i + 1)) = chG (choicesG (ps.take i)) p := by rw [take_next' hp, choicesG_snoc]
    have hlen : (chG (choicesG (ps.take i)) p).length ≤ 5000 := by
      rw [← e1, choicesG_len]
      exact Nat.le_trans (manyG_take hne _) h5
    refine ⟨fun k acc => acc = (chG ((choicesG (ps.take i)).take k) p).map .tup, rfl, ?_, ?_⟩
    · rintro k x acc hx rfl
      obtain ⟨row, hr, rfl⟩ := map_at hx
      have hrow : row.length ≤ 1000 := by
        have := (choicesG_row (List.mem_of_getElem? hr)).1
        rw [List.length_take] at this
        omega
      refine ⟨fun j acc => acc = (chG ((choicesG (ps.take i)).take k) p ++ (p.take j).map fun x => row ++ [x]).map .tup, ?_, ?_, ?_⟩
      · simp
      · rintro j y acc hy rfl
        refine ⟨by simp, by simp; omega, ?_, ?_⟩
        · have e2 : (chG ((choicesG (ps.take i)).take k) p).length + p.length = (chG ((choicesG (ps.take i)).take (k + 1)) p).length := by
            rw [chG_next hr, List.length_append, List.length_map]
          have e3 : (chG ((choicesG (ps.take i)).take (k + 1)) p).length ≤ (chG (choicesG (ps.take i)) p).length := by
            rw [chG_len, chG_len, List.length_take]
            exact Nat.mul_le_mul_right _ (Nat.min_le_right _ _)
          have hj := (List.getElem?_eq_some_iff.mp hy).1
          rw [List.length_map, List.length_append, List.length_map, List.length_take]
          omega
        · show _ ++ [D.tup (row ++ [y])] = _
          rw [take_next' hy]
          simp
      · rintro acc rfl
        rw [List.take_length, chG_next hr]
    · rintro acc rfl
      refine ⟨some (.d (.lst p)), b, c, ?_⟩
      rw [List.length_map, List.take_length, ← e1]
      rfl
  · rintro l' ⟨a, b, c, rfl⟩
    show Φ _
    rw [List.length_map, List.take_length]
    exact hQ
section
open PySem.Spec PyProof.Rows HotX L2H
theorem ok_law_is_other {ea : EA} {D : Addr} (F : Fun K "_law_is" "_law_is" s_law_is f fd) (T : Txt K mg cG cM) (ET : ETx mg ea) (C : IsC K ea D false false false false true false) : FnE Pr w K mg base CX0 1 f fd ["_law_e", "_law_word"] (fun p => L2N.Zn (.ref D) none p.2) fun a => spD 2 (P_is0 a "other") := by
  refine fn_DE F sc_law_is rfl (fun cdv A outer s H Eo p hot hz hr => ?_)
  have hc : HotC (cxH CX0 Pr w K mg base N_law_is "_law_is" (defScope s_law_is) f cdv A outer s H Eo p).nox := ⟨p, hot, List.mem_singleton.mpr rfl⟩
  have hp : p ∈ (cxH CX0 Pr w K mg base N_law_is "_law_is" (defScope s_law_is) f cdv A outer s H Eo p).nox.pn := List.mem_singleton.mpr rfl
  have hf : ∃ vs, p.2.data = .fields vs := ⟨_, hot.2.choose_spec.1⟩
  refine ⟨_, _, (dss_cons (ds_set (i := 2) sc_law_is.nd rfl (Or.inl rfl) (DF.de (df_lst (da_cons (de_isE hp C.c hz.zc hf rfl T.isinstance (de_var 0) (pe_glob rfl ET.x_BadGate (v := .ref ea.BadGate) rfl) (fun _ z => z) C.k_BadGate) (da_cons (de_isE hp C.c hz.zc hf rfl T.isinstance (de_var 0) (pe_glob rfl ET.x_NoHand (v := .ref ea.NoHand) rfl) (fun _ z => z) C.k_NoHand) (da_cons (de_isE hp C.c hz.zc hf rfl T.isinstance (de_var 0) (pe_glob rfl ET.x_TooMany (v := .ref ea.TooMany) rfl) (fun _ z => z) C.k_TooMany) (da_cons (de_isE hp C.c hz.zc hf rfl T.isinstance (de_var 0) (pe_glob rfl ET.x_TwoWithin (v := .ref ea.TwoWithin) rfl) (fun _ z => z) C.k_TwoWithin) da_nil)))))))
    (dss_cons (ds_set (i := 2) sc_law_is.nd rfl (Or.inl rfl) (de_op (opk_add K) ar_addU (de_var 2) (DF.de (df_lst (da_cons (de_isE hp C.c hz.zc hf rfl T.isinstance (de_var 0) (pe_glob rfl ET.x_OtherGate (v := .ref ea.OtherGate) rfl) (fun _ z => z) C.k_OtherGate) (da_cons (de_isE hp C.c hz.zc hf rfl T.isinstance (de_var 0) (pe_glob rfl ET.x_BadText (v := .ref ea.BadText) rfl) (fun _ z => z) C.k_BadText) da_nil))))))
    (dss_cons (ds_set (i := 3) sc_law_is.nd rfl (Or.inl rfl) (DF.de (df_lst (da_cons de_str (da_cons de_str (da_cons de_str (da_cons de_str (da_cons de_str (da_cons de_str da_nil)))))))))
    (dss_one (ds_ret (de_and (de_isE hp C.c hz.zc hf rfl T.isinstance (de_var 0) (pe_bltn (v := .ty "ValueError") rfl ET.ValueError (by decide +kernel) rfl) (fun _ z => z) C.k_ValueError) (de_one (de_cmp (opk_eq K hr.units) ar_eqU (de_var 2) (DF.de (df_lcH (own := [("_law_one", 4)]) hc sc_law_is.nd (de_var 3) (blkOk_by (own := [("_law_one", 4)]) (N := N_law_is) (sc := defScope s_law_is) (by decide +kernel)) (fun _ _ _ _ _ => (dg_name (i := 4) sc_law_is.nd rfl (Or.inl rfl))) (fun _ _ _ _ _ => (de_cmp (opk_eq K hr.units) ar_eqU (de_var 1) (de_var 4) (nomark _))))) (nomark _))))))))), ?_⟩
  rintro ss Φ hl ⟨rfl, hQ⟩
  refine ⟨rfl, rfl, rfl, rfl, by simp, ?_⟩
  refine ⟨rfl, rfl, by simp, by simp, ?_⟩
  refine ⟨by simp, ?_⟩
  refine ⟨rfl, ?_⟩
  refine ⟨by simp, fun i acc => acc = (((["gate", "hand", "many", "two", "other", "text"] : List Str).take i).map fun x => decide (("other" : Str) = x)).map Dl.D.bl, rfl, ?_, ?_⟩
  · rintro i x acc hx rfl
    rcases i with _ | _ | _ | _ | _ | _ | i
    iterate 6 (cases hx; exact rfl)
    cases hx
  · have d : (((["gate", "hand", "many", "two", "other", "text"] : List Str).take 6).map fun x => decide (("other" : Str) = x)) = [false, false, false, false, true, false] := by decide +kernel
    intro acc h
    have h' : acc = List.map Dl.D.bl [false, false, false, false, true, false] := h.trans (congrArg (List.map Dl.D.bl) d)
    subst h'
    refine ⟨⟨rfl, rfl, rfl, rfl⟩, ?_⟩
    have e : PyData.eqv (Dl.D.lst (List.map Dl.D.bl [false, false, false, false, true, false])).py (Dl.D.lst (List.map Dl.D.bl [false, false, false, false, true, false])).py = true := by rfl
    show Φ (.bl (PyData.eqv (Dl.D.lst (List.map Dl.D.bl [false, false, false, false, true, false])).py (Dl.D.lst (List.map Dl.D.bl [false, false, false, false, true, false])).py))
    rw [e]
    exact hQ
end
theorem ok_Gate_boxes (F : Fun K "boxes" "Gate.boxes" s_Gate_boxes f fd) (T : Txt K mg cG cM) : FnOk Pr w K mg base CX0 1 f fd ["self"] (spF 1 (PP_Gate_boxes cG)) := by
  refine fn_F F sc_Gate_boxes rfl (fun cdv A outer s H Eo hr => ⟨_, _, (dsf_retF (dk_listOf K rfl T.list (by decide +kernel) (da_cons (dk_fld K T.clGate T.noGate_pairs (de_var 0)) da_nil))), ?_⟩)
  intro ss Φ hl hP
  obtain ⟨g, rfl, hQ⟩ := hP
  exact ⟨rfl, _, rfl, hQ⟩
theorem ok_states_alone {f_begin : Addr} {fd_begin : FuncData} {f_within : Addr} {fd_within : FuncData} {f_done : Addr} {fd_done : FuncData} (F : Fun K "states_alone" "states_alone" s_states_alone f fd) (T : Txt K mg cG cM) (G_begin : Gd Pr w K mg base CX0 2 "begin" ["gate"] (spD 1 (PP_begin cG)) f_begin fd_begin) (G_within : Gd Pr w K mg base CX0 1 "within" ["gate", "state"] (spD 2 (PP_within cG)) f_within fd_within) (G_done : Gd Pr w K mg base CX0 4 "done" ["gate", "state", "hand"] (spD 3 (PP_done0 cG)) f_done fd_done) : FnOk Pr w K mg base CX0 5 f fd ["gate", "hand"] (spF 2 (PP_states_alone cG)) := by
  refine fn_F F sc_states_alone rfl (fun cdv A outer s H Eo hr => ⟨_, _, (dsf_cons (ds_own (i := 2) sc_states_alone.nd rfl (Or.inl rfl) (df_lst (da_cons (de_call G_begin.ok (hr.mono (by decide)) rfl G_begin.m G_begin.kp G_begin.b (da_cons (de_var 0) da_nil)) da_nil)))
    (dsf_cons (ds_obj (i := 3) sc_states_alone.nd rfl (Or.inl rfl) (do_newS rfl T.set))
    (dsf_cons (ds_while PassesOwn.never (DW.pt (dw_and (dt_cmp (opk_notin K) ar_in (de_var 1) (de_call G_within.ok (hr.mono (by decide)) rfl G_within.m G_within.kp G_within.b (da_cons (de_var 0) (da_cons (dk_ixOwn K 2 (de_neg de_int)) da_nil))) (by rfl)) (dw_and1 (dt_notInS hr.units (dk_ixOwn K 2 (de_neg de_int)) (de_varO 3)))))
    (dss_cons (ds_addS hr.units (de_varO 3) (dk_ixOwn K 2 (de_neg de_int)))
    (dss_one (ds_append 2 (de_call G_done.ok (hr.mono (by decide)) rfl G_done.m G_done.kp G_done.b (da_cons (de_var 0) (da_cons (dk_ixOwn K 2 (de_neg de_int)) (da_cons (de_var 1) da_nil))))))))
    (dsf_ret 2)))), ?_⟩)
  intro ss Φ hl hP
  obtain ⟨g, h, rfl, og, sz, hh, hQ⟩ := hP
  have o0 : OkStt g (begM g) := begM_ok og
  refine ⟨g, rfl, og, by simp, fun p _ => ?_⟩
  refine fun q _ => ?_
  refine ⟨fun m l => ∃ (k : Nat) (p q : Addr), m + k = 2001 ∧ l = [some (.d (dObj cG g)), some (.d (.int (h : Nat))), some (.own p (aloneD g h k)), some (.obj q (.st ((List.range k).map fun j => dStt (walkM g h j (begM g)))))] ∧ (∀ j, j < k → atB isIn g (walkM g h j (begM g)) h = false) ∧ ∀ i j, i < j → j < k → walkM g h i (begM g) ≠ walkM g h j (begM g), ⟨2001, 0, p, q, rfl, rfl, fun j z => absurd z (Nat.not_lt_zero _), fun i j _ z => absurd z (Nat.not_lt_zero _)⟩, ?_⟩
  rintro m l ⟨k, p, q, hm, rfl, hn, hd⟩
  have o := walkM_ok og (h := h) k o0
  have hk := walk_few og sz o0 hh hd
  refine ⟨_, aloneD_last g h k, g, _, rfl, og, o, ⟨rfl, handsD_flat _ _ _ _⟩, ?_⟩
  refine iteC (p := atB isIn g (walkM g h k (begM g)) h = false) ?_ (fun hi => ?_) (fun hi => ?_)
  · show (!((handsD isIn g (walkM g h k (begM g)) g.hs.length).any fun y => eqF y (.int (h : Int)))) = _
    rw [handsD_any hh]
    cases atB isIn g (walkM g h k (begM g)) h <;> rfl
  · refine ⟨_, aloneD_last g h k, q, 3, _, rfl, .inl rfl, numD_stt _, fun hm' => ?_, fun hm' => ?_⟩
    · refine hQ k ⟨hn, fun _ => ?_, hk⟩
      obtain ⟨j, hj, e⟩ := List.mem_map.mp hm'
      have hj := List.mem_range.mp hj
      refine ring_never hj (dStt_inj e) hn
    · refine ⟨q, 3, _, rfl, .inl rfl, _, aloneD_last g h k, numD_stt _, by rw [List.length_map, List.length_range]; omega, fun z => absurd z hm', fun _ => ?_⟩
      refine ⟨_, aloneD_last g h k, g, _, h, rfl, og, o, hh, by rw [aloneD_len]; omega, m - 1, by omega, k + 1, p, q, by omega, ?_, fun j hj => ?_, fun i j hij hj => ?_⟩
      · rw [aloneD_succ, walkM_succ, List.range_succ, List.map_append]
        rfl
      · rcases Nat.lt_or_ge j k with z | z
        · exact hn j z
        · rw [show j = k by omega]; exact hi
      · rcases Nat.lt_or_ge j k with z | z
        · exact hd i j hij z
        · have ej : j = k := by omega
          subst ej
          intro e
          exact hm' (List.mem_map.mpr ⟨i, List.mem_range.mpr hij, congrArg dStt e⟩)
  · exact hQ k ⟨hn, fun z => absurd z hi, hk⟩
theorem ok_steps_ahead_of_put (F : Fun K "steps_ahead_of_put" "steps_ahead_of_put" s_steps_ahead_of_put f fd) (T : Txt K mg cG cM) : FnOk Pr w K mg base CX0 1 f fd ["gate", "states"] (spD 2 (PP_steps_ahead cG)) := by
  refine fn_D F sc_steps_ahead_of_put rfl (fun cdv A outer s H Eo hr => ⟨_, _, (dss_cons (ds_for (ix := [2, 3]) PassesOwn.never rfl (dk_enum K rfl T.enumerate (da_cons (de_var 1) da_nil)) (dk_tup (n := 2) K rfl (dgs_cons (dg_name (i := 2) sc_steps_ahead_of_put.nd rfl (Or.inl rfl)) (dgs_cons (dg_name (i := 3) sc_steps_ahead_of_put.nd rfl (Or.inl rfl)) dgs_nil)))
      (dss_one (ds_if (dt_cmp (opk_eq K hr.units) ar_eqU (dk_ix K (dk_ix K (dk_ix K (dk_fld K T.clGate T.noGate_programs (de_var 0)) de_int) (dk_ix K (dk_ix K (de_var 3) de_int) de_int)) de_int) de_str (nomark _))
        (dss_one (ds_ret (de_var 2)))
        dss_nil)))
    (dss_one (ds_ret (de_op op_sub ar_sub (de_callB (cr_len K) ac_len rfl T.len PySem.boot_len (da_cons (de_var 1) da_nil)) de_int)))), ?_⟩)
  intro ss Φ hl hP
  obtain ⟨g, n, rfl, og, hn, hQ⟩ := hP
  have o0 : OkStt g (begM g) := begM_ok og
  have h1 := og.h1
  refine ⟨fun i l => (∃ a b, l = [some (.d (dObj cG g)), some (.d (.lst (aloneD g 0 n))), a, b]) ∧ ∀ j, j < i → putB g (walkM g 0 j (begM g)) = false, ⟨⟨none, none, rfl⟩, fun j z => absurd z (Nat.not_lt_zero _)⟩, ?_, ?_⟩
  · rintro i x l' hx ⟨⟨a, b, rfl⟩, hp⟩
    obtain ⟨y, hy, rfl⟩ := enumD_at hx
    have hi : i ≤ n := by
      have := (List.getElem?_eq_some_iff.mp hy).1
      rw [aloneD_len] at this
      omega
    rw [aloneD_at g 0 hi] at hy
    cases hy
    have o := walkM_ok og (h := 0) i o0
    obtain ⟨hd, x, st, e1, e2, e3, _⟩ := st_at og o (h := 0) (by omega)
    have hx0 := (o.pl 0 x hd e2 e1).1
    have hpt : putB g (walkM g 0 i (begM g)) = isPut st := by
      unfold putB
      rw [e1, e2]
      simp only [e3]
      rfl
    refine ⟨rfl, ?_⟩
    refine ⟨rfl, dProgs g, rfl, D.tup (hd.2.map dStp), atI_map (i := 0) (f := fun h : Hand => D.tup (h.2.map dStp)) e1, dInts (walkM g 0 i (begM g)).p, rfl, .int x, atI_map (i := 0) e2, dStp st, atI_mapI hx0 e3, ?_⟩
    cases st with
    | put b' n' =>
      refine ⟨.str "put", rfl, ?_⟩
      exact hQ i hi hp (.inl hpt)
    | go b' ns c =>
      refine ⟨.str "go", rfl, ?_⟩
      refine ⟨⟨_, _, rfl⟩, fun j hj => ?_⟩
      rcases Nat.lt_or_ge j i with z | z
      · exact hp j z
      · rw [show j = i by omega]; exact hpt
    | inn =>
      refine ⟨.str "in", rfl, ?_⟩
      refine ⟨⟨_, _, rfl⟩, fun j hj => ?_⟩
      rcases Nat.lt_or_ge j i with z | z
      · exact hp j z
      · rw [show j = i by omega]; exact hpt
  · rintro l' ⟨⟨a, b, rfl⟩, hp⟩
    rw [enumD_len, aloneD_len] at hp
    show Φ (.int (((aloneD g 0 n).length : Int) - 1))
    have e : ((aloneD g 0 n).length : Int) - 1 = n := by rw [aloneD_len]; omega
    rw [e]
    exact hQ n (Nat.le_refl n) (fun j hj => hp j (by omega)) (.inr ⟨rfl, hp n (by omega)⟩)
theorem ok_breaker {f_Gate_many : Addr} {fd_Gate_many : FuncData} {f_Gate_boxes : Addr} {fd_Gate_boxes : FuncData} {f_states_alone : Addr} {fd_states_alone : FuncData} {f_within : Addr} {fd_within : FuncData} {f_steps_ahead_of_put : Addr} {fd_steps_ahead_of_put : FuncData} (F : Fun K "breaker" "breaker" s_breaker f fd) (T : Txt K mg cG cM) (G_Gate_many : Md Pr w K mg base CX0 1 cG "many" ["self"] (spD 1 (PP_Gate_many cG)) f_Gate_many fd_Gate_many) (G_Gate_boxes : Md Pr w K mg base CX0 1 cG "boxes" ["self"] (spF 1 (PP_Gate_boxes cG)) f_Gate_boxes fd_Gate_boxes) (G_states_alone : Gd Pr w K mg base CX0 5 "states_alone" ["gate", "hand"] (spF 2 (PP_states_alone cG)) f_states_alone fd_states_alone) (G_within : Gd Pr w K mg base CX0 1 "within" ["gate", "state"] (spD 2 (PP_within cG)) f_within fd_within) (G_steps_ahead_of_put : Gd Pr w K mg base CX0 1 "steps_ahead_of_put" ["gate", "states"] (spD 2 (PP_steps_ahead cG)) f_steps_ahead_of_put fd_steps_ahead_of_put) : FnOk Pr w K mg base CX0 6 f fd ["gate"] (spD 1 (PP_breaker cG)) := by
  refine fn_D F sc_breaker rfl (fun cdv A outer s H Eo hr => ⟨_, _, (dss_cons (ds_if (DW.pt (dw_or (dt_cmp op_lt ar_lt (de_meth0 (de_var 0) T.clGate G_Gate_many.me G_Gate_many.ok (hr.mono (by decide)) G_Gate_many.b) de_int (nomark _)) (dw_or1 (dt_cmp (opk_ne K hr.units) ar_neU (de_callB (cr_len K) ac_len rfl T.len PySem.boot_len (da_cons (DF.de (df_meth0 (de_var 0) T.clGate G_Gate_boxes.me G_Gate_boxes.ok (hr.mono (by decide)) G_Gate_boxes.b)) da_nil)) de_int (nomark _)))))
      (dss_one ds_never)
      dss_nil)
    (dss_cons (ds_par rfl sc_breaker.nd (i := 1) (j := 2) rfl rfl (by decide) rfl rfl (da_cons (DF.de (df_call G_states_alone.ok (hr.mono (by decide)) rfl G_states_alone.m G_states_alone.kp G_states_alone.b (da_cons (de_var 0) (da_cons de_int da_nil)))) (da_cons (DF.de (df_call G_states_alone.ok (hr.mono (by decide)) rfl G_states_alone.m G_states_alone.kp G_states_alone.b (da_cons (de_var 0) (da_cons de_int da_nil)))) da_nil)))
    (dss_cons (ds_for (ix := [3, 4]) PassesOwn.never rfl (dk_seq K (de_tup (da_cons (de_tup (da_cons de_int (da_cons (de_var 1) da_nil))) (da_cons (de_tup (da_cons de_int (da_cons (de_var 2) da_nil))) da_nil)))) (dk_tup (n := 2) K rfl (dgs_cons (dg_name (i := 3) sc_breaker.nd rfl (Or.inl rfl)) (dgs_cons (dg_name (i := 4) sc_breaker.nd rfl (Or.inl rfl)) dgs_nil)))
      (dss_one (ds_if (dt_cmp (opk_notin K) ar_in (de_var 3) (de_call G_within.ok (hr.mono (by decide)) rfl G_within.m G_within.kp G_within.b (da_cons (de_var 0) (da_cons (dk_ix K (de_var 4) (de_neg de_int)) da_nil))) (by rfl))
        (dss_one (ds_ret (de_tup (da_cons de_str (da_cons (de_var 3) da_nil)))))
        dss_nil)))
    (dss_cons (ds_set (i := 5) sc_breaker.nd rfl (Or.inl rfl) (de_call G_steps_ahead_of_put.ok (hr.mono (by decide)) rfl G_steps_ahead_of_put.m G_steps_ahead_of_put.kp G_steps_ahead_of_put.b (da_cons (de_var 0) (da_cons (de_var 1) da_nil))))
    (dss_one (ds_ret (de_tup (da_cons de_str (da_cons (de_op (opk_add K) ar_addU (de_op (opk_add K) ar_addU (de_op (opk_mul K) ar_mulU (DF.de (df_lst (da_cons de_int da_nil))) (de_var 5)) (de_op (opk_mul K) ar_mulU (DF.de (df_lst (da_cons de_int da_nil))) (de_op op_sub ar_sub (de_callB (cr_len K) ac_len rfl T.len PySem.boot_len (da_cons (de_var 2) da_nil)) de_int))) (de_op (opk_mul K) ar_mulU (DF.de (df_lst (da_cons de_int da_nil))) (de_op op_sub ar_sub (de_op op_sub ar_sub (de_callB (cr_len K) ac_len rfl T.len PySem.boot_len (da_cons (de_var 1) da_nil)) de_int) (de_var 5)))) da_nil))))))))), ?_⟩)
  intro ss Φ hl hP
  obtain ⟨g, rfl, og, sz, h2, h1, hs0, hs1, hQ⟩ := hP
  have o0 : OkStt g (begM g) := begM_ok og
  have h4 := og.h4
  refine ⟨rfl, rfl, g, rfl, ?_⟩
  refine iteDF (by omega) ?_
  refine ⟨rfl, rfl, g, rfl, ?_⟩
  have e1 : (g.bs.map dBox).length = 1 := by rw [List.length_map]; exact h1
  refine iteC (p := False) (by rw [e1]; rfl) (fun z => z.elim) (fun _ => ?_)
  refine ⟨g, 0, rfl, og, sz, by omega, fun n0 A0 => ⟨g, 1, rfl, og, sz, by omega, fun n1 A1 => ?_⟩⟩
  have q0 := walkM_ok og (h := 0) n0 o0
  have q1 := walkM_ok og (h := 1) n1 o0
  refine ⟨by simp, by simp, by simp, fun i l => (∃ a b : Option S, l = [some (.d (dObj cG g)), some (.d (.lst (aloneD g 0 n0))), some (.d (.lst (aloneD g 1 n1))), a, b, none]) ∧ (0 < i → atB isIn g (walkM g 0 n0 (begM g)) 0 = true) ∧ (1 < i → atB isIn g (walkM g 1 n1 (begM g)) 1 = true), ⟨⟨none, none, rfl⟩, fun z => absurd z (Nat.lt_irrefl _), fun z => absurd z (by decide)⟩, ?_, ?_⟩
  · rintro i x l' hx ⟨⟨a, b, rfl⟩, i0, i1⟩
    rcases i with _ | _ | i
    · cases hx
      refine ⟨rfl, _, aloneD_last g 0 n0, g, _, rfl, og, q0, ⟨rfl, handsD_flat _ _ _ _⟩, ?_⟩
      refine iteC (p := atB isIn g (walkM g 0 n0 (begM g)) 0 = false) ?_ (fun hi => ?_) (fun hi => ?_)
      · show (!((handsD isIn g (walkM g 0 n0 (begM g)) g.hs.length).any fun y => eqF y (.int ((0 : Nat) : Int)))) = _
        rw [handsD_any (by omega)]
        cases atB isIn g (walkM g 0 n0 (begM g)) 0 <;> rfl
      · exact ⟨by simp, hs0 (A0.2.1 hi)⟩
      · refine ⟨⟨_, _, rfl⟩, fun _ => by simpa using hi, fun z => absurd z (by decide)⟩
    · cases hx
      have w0 := i0 (by decide)
      refine ⟨rfl, _, aloneD_last g 1 n1, g, _, rfl, og, q1, ⟨rfl, handsD_flat _ _ _ _⟩, ?_⟩
      refine iteC (p := atB isIn g (walkM g 1 n1 (begM g)) 1 = false) ?_ (fun hi => ?_) (fun hi => ?_)
      · show (!((handsD isIn g (walkM g 1 n1 (begM g)) g.hs.length).any fun y => eqF y (.int ((1 : Nat) : Int)))) = _
        rw [handsD_any (by omega)]
        cases atB isIn g (walkM g 1 n1 (begM g)) 1 <;> rfl
      · exact ⟨by simp, hs1 ⟨n0, w0⟩ (A1.2.1 hi)⟩
      · refine ⟨⟨_, _, rfl⟩, fun _ => w0, fun _ => by simpa using hi⟩
    · cases hx
  · rintro l' ⟨⟨a, b, rfl⟩, i0, i1⟩
    have w0 := i0 (by show 0 < 2; decide)
    have w1 := i1 (by show 1 < 2; decide)
    refine ⟨g, n0, rfl, og, A0.2.2, fun a ha hp hq => ?_⟩
    have a0 := A0.2.2
    have a1 := A1.2.2
    have l1 : ((((aloneD g 1 n1).length : Nat) : Int) - 1).toNat = n1 := by rw [aloneD_len]; omega
    have l0 : ((((aloneD g 0 n0).length : Nat) : Int) - 1 - (a : Int)).toNat = n0 - a := by rw [aloneD_len]; omega
    have b1 : -(2 ^ 63) ≤ (((aloneD g 1 n1).length : Nat) : Int) - 1 ∧ (((aloneD g 1 n1).length : Nat) : Int) - 1 < 2 ^ 63 := by rw [aloneD_len]; omega
    have b0 : -(2 ^ 63) ≤ (((aloneD g 0 n0).length : Nat) : Int) - 1 - (a : Int) ∧ (((aloneD g 0 n0).length : Nat) : Int) - 1 - (a : Int) < 2 ^ 63 := by rw [aloneD_len]; omega
    refine ⟨by simp, ⟨by omega, by omega, by show 1 * ((a : Int)).toNat ≤ 100000; omega⟩, ?_⟩
    refine ⟨by simp, ⟨b1.1, b1.2, ?_⟩, ?_, ?_⟩
    · show 1 * ((((aloneD g 1 n1).length : Nat) : Int) - 1).toNat ≤ 100000
      rw [l1]; omega
    · show ((List.replicate ((a : Int)).toNat [D.int 0]).flatten).length + ((List.replicate ((((aloneD g 1 n1).length : Nat) : Int) - 1).toNat [D.int 1]).flatten).length ≤ 100000
      rw [l1, rep_flat, rep_flat, List.length_replicate, List.length_replicate]; omega
    refine ⟨by simp, ⟨b0.1, b0.2, ?_⟩, ?_, ?_⟩
    · show 1 * ((((aloneD g 0 n0).length : Nat) : Int) - 1 - (a : Int)).toNat ≤ 100000
      rw [l0]; omega
    · show ((List.replicate ((a : Int)).toNat [D.int 0]).flatten ++ (List.replicate ((((aloneD g 1 n1).length : Nat) : Int) - 1).toNat [D.int 1]).flatten).length + ((List.replicate ((((aloneD g 0 n0).length : Nat) : Int) - 1 - (a : Int)).toNat [D.int 0]).flatten).length ≤ 100000
      rw [l1, l0, List.length_append, rep_flat, rep_flat, rep_flat, List.length_replicate, List.length_replicate, List.length_replicate]; omega
    refine ⟨by simp, ?_⟩
    have e : (List.replicate ((a : Int)).toNat [D.int 0]).flatten ++ (List.replicate ((((aloneD g 1 n1).length : Nat) : Int) - 1).toNat [D.int 1]).flatten ++ (List.replicate ((((aloneD g 0 n0).length : Nat) : Int) - 1 - (a : Int)).toNat [D.int 0]).flatten = (breakW a n1 (n0 - a)).map D.int := by
      rw [l1, l0, rep_flat, rep_flat, rep_flat, Int.toNat_natCast]
      unfold breakW
      rw [List.map_append, List.map_append, List.map_replicate, List.map_replicate, List.map_replicate]
    show Φ (.tup [.str "two", .lst ((List.replicate ((a : Int)).toNat [D.int 0]).flatten ++ (List.replicate ((((aloneD g 1 n1).length : Nat) : Int) - 1).toNat [D.int 1]).flatten ++ (List.replicate ((((aloneD g 0 n0).length : Nat) : Int) - 1 - (a : Int)).toNat [D.int 0]).flatten)])
    rw [e]
    have t := break_two og h2 h1 w0 w1 ha hp (hq.imp id fun z => z.1)
    refine hQ ⟨n0, w0⟩ ⟨n1, w1⟩ _ (fun w hw => ?_) ?_ t.1 t.2
    · unfold breakW at hw
      rcases List.mem_append.mp hw with z | z
      · rcases List.mem_append.mp z with z | z
        · rw [List.eq_of_mem_replicate z]; omega
        · rw [List.eq_of_mem_replicate z]; omega
      · rw [List.eq_of_mem_replicate z]; omega
    · unfold breakW
      rw [List.length_append, List.length_append, List.length_replicate, List.length_replicate, List.length_replicate]
      omega
theorem ok_steps_tried (F : Fun K "steps_tried" "steps_tried" s_steps_tried f fd) (T : Txt K mg cG cM) : FnOk Pr w K mg base CX0 1 f fd ["most", "ahead", "after"] (spD 3 PP_steps_tried) := by
  refine fn_D F sc_steps_tried rfl (fun cdv A outer s H Eo hr => ⟨_, _, (dss_cons (ds_set (i := 3) sc_steps_tried.nd rfl (Or.inl rfl) (DF.de (df_listRange1 rfl rfl T.list rfl T.range (de_op (opk_add K) ar_addU (de_var 0) de_int))))
    (dss_cons (ds_setLc (i := 4) rfl sc_steps_tried.nd rfl rfl (sw_true rfl rfl rfl (by decide +kernel)) (own := [("number", 7)]) (dk_seq K (de_var 3)) (blkOk_by (own := [("number", 7)]) (N := N_steps_tried) (sc := defScope s_steps_tried) (by decide +kernel)) (fun _ _ _ _ _ => (dg_name (i := 7) sc_steps_tried.nd rfl (Or.inl rfl))) (fun _ _ _ _ _ => dts_nil) (fun _ _ _ _ _ => (de_tup (da_cons de_str (da_cons de_int (da_cons (de_var 7) da_nil))))))
    (dss_cons (ds_own (i := 5) sc_steps_tried.nd rfl (Or.inl rfl) (df_lst (da_cons (DF.de (df_lst (da_cons (de_globD T.d_IDLE) da_nil))) da_nil)))
    (dss_cons (ds_for (ix := [6]) PassesOwn.never rfl (di_range2 rfl T.range (da_cons de_int (da_cons (de_op (opk_add K) ar_addU (de_var 1) de_int) da_nil))) (dg_name (i := 6) sc_steps_tried.nd rfl (Or.inr rfl))
      (dss_one (ds_append 5 (de_op (opk_add K) ar_addU (de_var 4) (DF.de (df_lc rfl sc_steps_tried.nd (own := [("number", 7)]) (dk_seq K (de_var 3)) (blkOk_by (own := [("number", 7)]) (N := N_steps_tried) (sc := defScope s_steps_tried) (by decide +kernel)) (fun _ _ _ _ _ => (dg_name (i := 7) sc_steps_tried.nd rfl (Or.inl rfl))) (fun _ _ _ _ _ => dts_nil) (fun _ _ _ _ _ => (de_tup (da_cons de_str (da_cons de_int (da_cons (de_tup (da_cons (de_var 7) da_nil)) (da_cons (de_var 6) da_nil))))))))))))
    (dss_frz 5 (dss_one (ds_ret (de_op (opk_add K) ar_addU (de_op (opk_add K) ar_addU (de_var 5) (DF.de (df_lst (da_cons (DF.de (df_lst (da_cons (de_globD T.d_IN) da_nil))) da_nil)))) (de_op (opk_mul K) ar_mulU (DF.de (df_lst (da_cons (de_var 4) da_nil))) (de_var 2)))))))))), ?_⟩)
  intro ss Φ hl hP
  obtain ⟨m, a, f, rfl, m9, a9, f9, hQ⟩ := hP
  refine ⟨⟨by omega, by omega⟩, ?_⟩
  have em : ((m : Int) + 1).toNat = m + 1 := by omega
  rw [em]
  refine ⟨by rw [rangeD_len]; omega, fun i acc => acc = ((List.range i).map fun (n : Nat) => Stp.put 0 n).map dStp, rfl, ?_, ?_⟩
  · rintro i x acc hx rfl
    obtain ⟨hi, rfl⟩ := rangeD_at hx
    rw [Int.zero_add]
    refine ⟨by simp, ?_⟩
    show _ ++ [_] = _
    rw [List.range_succ, List.map_append, List.map_append]
    rfl
  rintro acc rfl
  rw [rangeD_len]
  refine ⟨by simp, by simp, fun p _ => ?_⟩
  refine ⟨⟨by omega, by omega⟩, fun i l => ∃ (q : Addr) (b c : Option S), l = [some (.d (.int m)), some (.d (.int a)), some (.d (.int f)), some (.d (.lst (rangeD 0 (m + 1)))), some (.d (dP (putsL m))), some (.own q (([[Stp.go 0 [] 1]] ++ aheadL m 1 i).map dP)), b, c], ⟨p, none, none, rfl⟩, ?_, ?_⟩
  · rintro i x l' hx ⟨q, b, c, rfl⟩
    obtain ⟨hi, rfl⟩ := rangeD_at hx
    refine ⟨by rw [rangeD_len]; omega, fun j acc => acc = ((List.range j).map fun (n : Nat) => Stp.go 0 [(n : Int)] (1 + (i : Int))).map dStp, rfl, ?_, ?_⟩
    · rintro j y acc hy rfl
      obtain ⟨hj, rfl⟩ := rangeD_at hy
      rw [Int.zero_add]
      refine ⟨by simp, by simp, ?_⟩
      show _ ++ [_] = _
      rw [List.range_succ, List.map_append, List.map_append]
      rfl
    rintro acc rfl
    rw [rangeD_len]
    have e : goesL m (1 + i) = (List.range (m + 1)).map fun (n : Nat) => Stp.go 0 [(n : Int)] (1 + (i : Int)) := by
      unfold goesL
      refine List.map_congr_left fun n _ => ?_
      rw [Int.natCast_add]
      rfl
    rw [← e]
    have l1 : ((putsL m).map dStp).length = m + 1 := by rw [List.length_map, puts_len]
    have l2 : ((goesL m (1 + i)).map dStp).length = m + 1 := by rw [List.length_map, goes_len]
    refine ⟨by omega, ?_, q, some (.d (.int (1 + (i : Int)))), c, ?_⟩
    · rw [List.length_map, List.length_append, ahead_len]
      simp
      omega
    · rw [ahead_snoc, ← List.append_assoc, List.map_append]
      show [_, _, _, _, _, some (S.own q (_ ++ [_])), _, _] = _
      unfold dP
      simp
  · rintro l' ⟨q, b, c, rfl⟩
    rw [rangeD_len]
    have ea : ((a : Int) + 1 - 1).toNat = a := by omega
    rw [ea]
    refine ⟨id, ?_⟩
    have lm : (([[Stp.go 0 [] 1]] ++ aheadL m 1 a).map dP).length = a + 1 := by rw [List.length_map, List.length_append, ahead_len]; simp; omega
    refine ⟨by simp, by simp, ?_, ?_⟩
    · rw [lm]
      simp
      omega
    refine ⟨by simp, ⟨by omega, by omega, by show 1 * ((f : Int)).toNat ≤ 100000; omega⟩, ?_⟩
    have e1 : (List.replicate ((f : Int)).toNat [dP (putsL m)]).flatten = (List.replicate f (putsL m)).map dP := by rw [rep_flat, Int.toNat_natCast, List.map_replicate]
    show wAdd (D.lst (List.map dP ([[Stp.go 0 [] 1]] ++ aheadL m 1 a) ++ [dP [Stp.inn]])) (D.lst (List.replicate ((f : Int)).toNat [dP (putsL m)]).flatten) _
    rw [e1]
    refine ⟨?_, ?_⟩
    · rw [List.length_append, lm, List.length_map, List.length_replicate]
      simp
      omega
    · have e2 : List.map dP ([[Stp.go 0 [] 1]] ++ aheadL m 1 a) ++ [dP [Stp.inn]] ++ (List.replicate f (putsL m)).map dP = (partsM m a f).map dP := by
        unfold partsM
        rw [List.map_append, List.map_append, List.map_append, List.map_append]
        rfl
      show Φ (.lst (_ ++ _))
      rw [e2]
      exact hQ
theorem ok_twins {f_Gate_init : Addr} {fd_Gate_init : FuncData} (F : Fun K "twins" "twins" s_twins f fd) (T : Txt K mg cG cM) (mk_Gate : Mk K cG f_Gate_init) (x_Gate : mg "Gate" = some (.ref cG)) (G_Gate_init : FnOk Pr w K mg base CX0 5 f_Gate_init fd_Gate_init ["self", "boxes", "hands"] (spInit cG 2 P_init)) (b_Gate_init : Binds K fd_Gate_init ["self", "boxes", "hands"] []) : FnOk Pr w K mg base CX0 7 f fd ["most", "steps"] (spD 2 (PP_twins cG)) := by
  refine fn_D F sc_twins rfl (fun cdv A outer s H Eo hr => ⟨_, _, (dss_cons (ds_set (i := 2) sc_twins.nd rfl (Or.inl rfl) (de_tup (da_cons de_int (da_cons (DF.de (dk_listOf K rfl T.list (by decide +kernel) (da_cons (de_var 1) da_nil))) da_nil))))
    (dss_one (ds_ret (de_make mk_Gate G_Gate_init (hr.mono (by decide)) rfl x_Gate b_Gate_init pass0 (da_cons (DF.de (df_lst (da_cons (de_tup (da_cons de_int (da_cons (de_var 0) da_nil))) da_nil))) (da_cons (DF.de (df_lst (da_cons (de_var 2) (da_cons (de_var 2) da_nil)))) da_nil)))))), ?_⟩)
  intro ss Φ hl hP
  obtain ⟨m, st, rfl, og, hst, hQ⟩ := hP
  refine ⟨by simp, ?_⟩
  refine ⟨by simp, by simp, by simp, twinG m st, rfl, og, ?_⟩
  exact hQ
theorem ok_tries {f_steps_tried : Addr} {fd_steps_tried : FuncData} {f_many_choices : Addr} {fd_many_choices : FuncData} {f_choices : Addr} {fd_choices : FuncData} {f_twins : Addr} {fd_twins : FuncData} {f_breaker : Addr} {fd_breaker : FuncData} (F : Fun K "tries" "tries" s_tries f fd) (T : Txt K mg cG cM) (G_steps_tried : Gd Pr w K mg base CX0 1 "steps_tried" ["most", "ahead", "after"] (spD 3 PP_steps_tried) f_steps_tried fd_steps_tried) (G_many_choices : Gd Pr w K mg base CX0 1 "many_choices" ["parts"] (spD 1 PP_many_choicesD) f_many_choices fd_many_choices) (G_choices : Gd Pr w K mg base CX0 1 "choices" ["parts"] (spD 1 PP_choicesD) f_choices fd_choices) (G_twins : Gd Pr w K mg base CX0 7 "twins" ["most", "steps"] (spD 2 (PP_twins cG)) f_twins fd_twins) (G_breaker : Gd Pr w K mg base CX0 6 "breaker" ["gate"] (spD 1 (PP_breaker cG)) f_breaker fd_breaker) : FnOk Pr w K mg base CX0 8 f fd ["most", "ahead", "after"] (spD 3 PP_tries) := by
  refine fn_D F sc_tries rfl (fun cdv A outer s H Eo hr => ⟨_, _, (dss_cons (ds_if (dt_not (dt_val (de_callB (crk_all K rfl) ac_all rfl T.all (by decide +kernel) (da_cons (DF.de (df_lc rfl sc_tries.nd (own := [("number", 5)]) (dk_seq K (de_tup (da_cons (de_var 0) (da_cons (de_var 1) (da_cons (de_var 2) da_nil))))) (blkOk_by (own := [("number", 5)]) (N := N_tries) (sc := defScope s_tries) (by decide +kernel)) (fun _ _ _ _ _ => (dg_name (i := 5) sc_tries.nd rfl (Or.inl rfl))) (fun _ _ _ _ _ => dts_nil) (fun _ _ _ _ _ => (de_chain op_le ar_le op_le ar_le de_int (de_var 5) (de_globI rfl T.c_MOST_TRIED.choose_spec))))) da_nil))))
      (dss_one ds_never)
      dss_nil)
    (dss_cons (ds_set (i := 3) sc_tries.nd rfl (Or.inl rfl) (de_call G_steps_tried.ok (hr.mono (by decide)) rfl G_steps_tried.m G_steps_tried.kp G_steps_tried.b (da_cons (de_var 0) (da_cons (de_var 1) (da_cons (de_var 2) da_nil)))))
    (dss_cons (ds_if (dt_cmp op_gt ar_gt (de_call G_many_choices.ok (hr.mono (by decide)) rfl G_many_choices.m G_many_choices.kp G_many_choices.b (da_cons (de_var 3) da_nil)) (de_globI rfl T.c_MOST_GATES.choose_spec) (nomark _))
      (dss_one ds_never)
      dss_nil)
    (dss_cons (ds_setLc (i := 4) rfl sc_tries.nd rfl rfl (sw_true rfl rfl rfl (by decide +kernel)) (own := [("steps", 6)]) (dk_seq K (de_call G_choices.ok (hr.mono (by decide)) rfl G_choices.m G_choices.kp G_choices.b (da_cons (de_var 3) da_nil))) (blkOk_by (own := [("steps", 6)]) (N := N_tries) (sc := defScope s_tries) (by decide +kernel)) (fun _ _ _ _ _ => (dg_name (i := 6) sc_tries.nd rfl (Or.inl rfl))) (fun _ _ _ _ _ => dts_nil) (fun _ _ _ _ _ => (dk_ix K (de_call G_breaker.ok (hr.mono (by decide)) rfl G_breaker.m G_breaker.kp G_breaker.b (da_cons (de_call G_twins.ok (hr.mono (by decide)) rfl G_twins.m G_twins.kp G_twins.b (da_cons (de_var 0) (da_cons (de_var 6) da_nil))) da_nil)) de_int)))
    (dss_one (ds_ret (de_tup (da_cons (de_callB (cr_len K) ac_len rfl T.len PySem.boot_len (da_cons (de_var 4) da_nil)) (da_cons (de_countS K (de_var 4) de_str) (da_cons (de_countS K (de_var 4) de_str) da_nil)))))))))), ?_⟩)
  intro ss Φ hl hP
  obtain ⟨m, a, f, rfl, m9, a9, f9, hm, hQ⟩ := hP
  refine ⟨by simp, by simp, fun i acc => acc = List.replicate i (.bl true), rfl, ?_, ?_⟩
  · rintro i x acc hx rfl
    have hx' : ∃ n : Nat, n ≤ 9 ∧ x = .int n := by
      rcases i with _ | _ | _ | i
      · cases hx; exact ⟨m, m9, rfl⟩
      · cases hx; exact ⟨a, a9, rfl⟩
      · cases hx; exact ⟨f, f9, rfl⟩
      · cases hx
    obtain ⟨n, n9, rfl⟩ := hx'
    show (if decide (0 ≤ (n : Int)) = true then List.replicate i (D.bl true) ++ [D.bl (decide ((n : Int) ≤ 9))] = List.replicate (i + 1) (D.bl true) else List.replicate i (D.bl true) ++ [D.bl false] = List.replicate (i + 1) (D.bl true))
    refine iteDT (Int.natCast_nonneg n) ?_
    show _ ++ [D.bl (decide ((n : Int) ≤ 9))] = _
    rw [decide_eq_true (by omega), List.replicate_succ']
  rintro acc rfl
  refine ⟨[true, true, true], rfl, ?_⟩
  refine ⟨m, a, f, rfl, m9, a9, f9, ?_⟩
  have eP : ((partsM m a f).map (List.map dStp)).map D.lst = (partsM m a f).map fun p => .lst (p.map dStp) := by rw [List.map_map]; rfl
  refine ⟨(partsM m a f).map (List.map dStp), by rw [eP]; rfl, fun p hp => ?_, ?_⟩
  · obtain ⟨q, hq, rfl⟩ := List.mem_map.mp hp
    rw [List.length_map]
    exact parts_small m9 q hq
  rw [manyG_map]
  refine iteDF (by omega) ?_
  refine ⟨(partsM m a f).map (List.map dStp), by rw [eP]; rfl, fun p hp => ?_, ?_, ?_, ?_⟩
  · obtain ⟨q, hq, rfl⟩ := List.mem_map.mp hp
    exact fun z => parts_ne q hq (List.map_eq_nil_iff.mp z)
  · rw [List.length_map, parts_len]; omega
  · rw [manyG_map]; omega
  rw [choicesG_map]
  have lc : ((choicesG (partsM m a f)).map (List.map dStp)).length = manyG (partsM m a f) := by rw [List.length_map, choicesG_len]
  refine ⟨by rw [List.length_map, lc]; omega, fun i acc => acc = (((choicesG (partsM m a f)).take i).map wordT).map D.str, rfl, ?_, ?_⟩
  · rintro i x acc hx rfl
    obtain ⟨y, hy, rfl⟩ := map_at hx
    obtain ⟨st, hs, rfl⟩ := map_at hy
    have F := row_fit m9 a9 f9 (List.mem_of_getElem? hs)
    have next : ∀ wd : Str, wordT st = wd → ((((choicesG (partsM m a f)).take i).map wordT).map D.str ++ [.str wd]) = (((choicesG (partsM m a f)).take (i + 1)).map wordT).map D.str := fun wd e => by
      rw [take_next' hs]
      simp [e]
    have l20 := F.l20
    refine ⟨m, st, rfl, F.gate, by omega, ?_⟩
    refine ⟨twinG m st, rfl, F.gate, F.sz, Nat.le_refl 2, rfl, fun c0 => ?_, fun c0 c1 => ?_, fun c0 c1 ws gd hl t0 t1 => ?_⟩
    · refine ⟨.str "shut", rfl, ?_⟩
      exact next _ (by unfold wordT; rw [if_neg fun z => c0 ((comes_twin F (by decide)).mpr z)])
    · exact absurd ((comes_twin F (h := 1) (by decide)).mpr ((comes_twin F (h := 0) (by decide)).mp c0)) c1
    · refine ⟨.str "two", rfl, ?_⟩
      exact next _ (by unfold wordT; rw [if_pos ((comes_twin F (by decide)).mp c0)])
  rintro acc rfl
  rw [List.length_map, lc, ← choicesG_len, List.take_length]
  refine ⟨(choicesG (partsM m a f)).map wordT, "two", rfl, rfl, (choicesG (partsM m a f)).map wordT, "shut", rfl, rfl, by simp, ?_⟩
  have e2 := word_two (choicesG (partsM m a f))
  have e3 := word_shut (choicesG (partsM m a f))
  rw [choicesG_len] at e3
  have e4 : (((choicesG (partsM m a f)).map wordT).map D.str).length = manyG (partsM m a f) := by rw [List.length_map, List.length_map, choicesG_len]
  have e5 : ((((choicesG (partsM m a f)).map wordT).count ("shut" : Str) : Nat) : Int) = (manyG (partsM m a f) : Nat) - (twoN m a f : Nat) := by
    unfold twoN
    omega
  have e6 : (((choicesG (partsM m a f)).map wordT).count ("two" : Str)) = twoN m a f := e2
  rw [← e5, ← e6, ← e4] at hQ
  exact hQ
section
open PySem.Spec PyProof.Rows HotX L2H
theorem ok_triesX {ea : EA} {f_steps_tried : Addr} {fd_steps_tried : FuncData} {f_many_choices : Addr} {fd_many_choices : FuncData} {f_choices : Addr} {fd_choices : FuncData} {f_twins : Addr} {fd_twins : FuncData} {f_breaker : Addr} {fd_breaker : FuncData} (F : Fun K "tries" "tries" s_tries f fd) (T : Txt K mg cG cM) (gX : mg "OtherGate" = some (.ref ea.OtherGate)) (qe : PySem.W.excIn K ea.OtherGate He.veBase "ValueError.__new__" = true) (kX : PySem.W.keepIn K (.ref ea.OtherGate) = true) (sX : PySem.W.subIn K (.ref ea.OtherGate) (.type "BaseException") = some true) (tX : PySem.W.typeIn K (.ref ea.OtherGate) = some (.type "type")) (G_steps_tried : Gd Pr w K mg base CX0 1 "steps_tried" ["most", "ahead", "after"] (spD 3 PP_steps_tried) f_steps_tried fd_steps_tried) (G_many_choices : Gd Pr w K mg base CX0 1 "many_choices" ["parts"] (spD 1 PP_many_choicesD) f_many_choices fd_many_choices) (G_choices : Gd Pr w K mg base CX0 1 "choices" ["parts"] (spD 1 PP_choicesD) f_choices fd_choices) (G_twins : Gd Pr w K mg base CX0 7 "twins" ["most", "steps"] (spD 2 (PP_twins cG)) f_twins fd_twins) (G_breaker : Gd Pr w K mg base CX0 6 "breaker" ["gate"] (spD 1 (PP_breaker cG)) f_breaker fd_breaker) : FnOk Pr w K mg base (L2N.CX Pr w) 8 f fd ["most", "ahead", "after"] (spX 3 (PP_triesX ea.OtherGate)) := by
  refine fn_N F sc_tries rfl (fun cdv A outer s H E hr => ⟨_, _, (dss_cons (ds_if (dt_not (dt_val (de_callB (crk_all K rfl) ac_all rfl T.all (by decide +kernel) (da_cons (DF.de (df_lc rfl sc_tries.nd (own := [("number", 5)]) (dk_seq K (de_tup (da_cons (de_var 0) (da_cons (de_var 1) (da_cons (de_var 2) da_nil))))) (blkOk_by (own := [("number", 5)]) (N := N_tries) (sc := defScope s_tries) (by decide +kernel)) (fun _ _ _ _ _ => (dg_name (i := 5) sc_tries.nd rfl (Or.inl rfl))) (fun _ _ _ _ _ => dts_nil) (fun _ _ _ _ _ => (de_chain op_le ar_le op_le ar_le de_int (de_var 5) (de_globI rfl T.c_MOST_TRIED.choose_spec))))) da_nil))))
      (dss_one (ds_raiseA rfl (L2N.takes_of rfl rfl rfl rfl) PySem.F.excBase_ValueError qe gX kX (L2.raises_own sX tX) rfl (de_fs (dj_c (dj_f (de_globI rfl T.c_MOST_TRIED.choose_spec) dj_nil)))))
      dss_nil)
    (dss_cons (ds_set (i := 3) sc_tries.nd rfl (Or.inl rfl) (de_call G_steps_tried.ok (hr.mono (by decide)) rfl G_steps_tried.m G_steps_tried.kp G_steps_tried.b (da_cons (de_var 0) (da_cons (de_var 1) (da_cons (de_var 2) da_nil)))))
    (dss_cons (ds_if (dt_cmp op_gt ar_gt (de_call G_many_choices.ok (hr.mono (by decide)) rfl G_many_choices.m G_many_choices.kp G_many_choices.b (da_cons (de_var 3) da_nil)) (de_globI rfl T.c_MOST_GATES.choose_spec) (nomark _))
      (dss_one (ds_raiseA rfl (L2N.takes_of rfl rfl rfl rfl) PySem.F.excBase_ValueError qe gX kX (L2.raises_own sX tX) rfl (de_fs (dj_c (dj_f (de_globI rfl T.c_MOST_GATES.choose_spec) (dj_c dj_nil))))))
      dss_nil)
    (dss_cons (ds_setLc (i := 4) rfl sc_tries.nd rfl rfl (sw_true rfl rfl rfl (by decide +kernel)) (own := [("steps", 6)]) (dk_seq K (de_call G_choices.ok (hr.mono (by decide)) rfl G_choices.m G_choices.kp G_choices.b (da_cons (de_var 3) da_nil))) (blkOk_by (own := [("steps", 6)]) (N := N_tries) (sc := defScope s_tries) (by decide +kernel)) (fun _ _ _ _ _ => (dg_name (i := 6) sc_tries.nd rfl (Or.inl rfl))) (fun _ _ _ _ _ => dts_nil) (fun _ _ _ _ _ => (dk_ix K (de_call G_breaker.ok (hr.mono (by decide)) rfl G_breaker.m G_breaker.kp G_breaker.b (da_cons (de_call G_twins.ok (hr.mono (by decide)) rfl G_twins.m G_twins.kp G_twins.b (da_cons (de_var 0) (da_cons (de_var 6) da_nil))) da_nil)) de_int)))
    (dss_one (ds_ret (de_tup (da_cons (de_callB (cr_len K) ac_len rfl T.len PySem.boot_len (da_cons (de_var 4) da_nil)) (da_cons (de_countS K (de_var 4) de_str) (da_cons (de_countS K (de_var 4) de_str) da_nil)))))))))), ?_⟩)
  intro ss Φ Ψ hl hP
  obtain ⟨m, a, f, rfl, hb, hQ⟩ := hP
  refine ⟨by simp, by simp, fun i acc => acc = ([m, a, f].take i).map fun x => D.bl (decide (0 ≤ x ∧ x ≤ 9)), rfl, ?_, ?_⟩
  · rintro i x acc hx rfl
    have hx : ([m, a, f].map D.int)[i]? = some x := hx
    obtain ⟨n, hn, rfl⟩ := map_at hx
    have e : (([m, a, f].take i).map fun x => D.bl (decide (0 ≤ x ∧ x ≤ 9))) ++ [D.bl (decide (0 ≤ n ∧ n ≤ 9))] = ([m, a, f].take (i + 1)).map fun x => D.bl (decide (0 ≤ x ∧ x ≤ 9)) := by
      rw [take_next' hn, List.map_append]
      rfl
    show (if decide (0 ≤ n) = true then (([m, a, f].take i).map fun x => D.bl (decide (0 ≤ x ∧ x ≤ 9))) ++ [D.bl (decide (n ≤ 9))] = ([m, a, f].take (i + 1)).map fun x => D.bl (decide (0 ≤ x ∧ x ≤ 9)) else (([m, a, f].take i).map fun x => D.bl (decide (0 ≤ x ∧ x ≤ 9))) ++ [D.bl false] = ([m, a, f].take (i + 1)).map fun x => D.bl (decide (0 ≤ x ∧ x ≤ 9)))
    refine iteD (fun h0 => ?_) (fun h0 => ?_)
    · rw [← e]
      congr 3
      by_cases h1 : n ≤ 9
      · rw [decide_eq_true h1, decide_eq_true ⟨h0, h1⟩]
      · rw [decide_eq_false h1, decide_eq_false fun z => h1 z.2]
    · rw [← e, decide_eq_false fun z => h0 z.1]
  rintro acc rfl
  refine ⟨[decide (0 ≤ m ∧ m ≤ 9), decide (0 ≤ a ∧ a ≤ 9), decide (0 ≤ f ∧ f ≤ 9)], rfl, ?_⟩
  have eall : [decide (0 ≤ m ∧ m ≤ 9), decide (0 ≤ a ∧ a ≤ 9), decide (0 ≤ f ∧ f ≤ 9)].all id = decide ((0 ≤ m ∧ m ≤ 9) ∧ (0 ≤ a ∧ a ≤ 9) ∧ (0 ≤ f ∧ f ≤ 9)) := by
    simp
  refine iteC (p := ¬ ((0 ≤ m ∧ m ≤ 9) ∧ (0 ≤ a ∧ a ≤ 9) ∧ (0 ≤ f ∧ f ≤ 9))) (by rw [eall, decide_not]) (fun _ => ?_) (fun h => ?_)
  · exact ⟨by decide +kernel, by decide, by decide +kernel, hQ⟩
  · rcases hb with hb | ⟨m', a', f', rfl, rfl, rfl, m9, a9, f9, hm⟩
    · exact absurd hb h
    refine ⟨m', a', f', rfl, m9, a9, f9, ?_⟩
    have eP : ((partsM m' a' f').map (List.map dStp)).map D.lst = (partsM m' a' f').map fun p => .lst (p.map dStp) := by rw [List.map_map]; rfl
    refine ⟨(partsM m' a' f').map (List.map dStp), by rw [eP]; rfl, fun p hp => ?_, ?_⟩
    · obtain ⟨q, hq, rfl⟩ := List.mem_map.mp hp
      rw [List.length_map]
      exact parts_small m9 q hq
    rw [manyG_map]
    refine iteDT (by omega) ?_
    exact ⟨by decide +kernel, by decide, by decide +kernel, by decide +kernel, hQ⟩
end
theorem ok_law_goes_alone (F : Fun K "_law_goes_alone" "_law_goes_alone" s_law_goes_alone f fd) (T : Txt K mg cG cM) : FnOk Pr w K mg base CX0 1 f fd ["_law_most", "_law_steps"] (spD 2 P_goes_alone) := by
  refine fn_D F sc_law_goes_alone rfl (fun cdv A outer s H Eo hr => ⟨_, _, (dss_cons (ds_set (i := 2) sc_law_goes_alone.nd rfl (Or.inl rfl) de_int)
    (dss_cons (ds_for (ix := [3]) PassesOwn.never rfl (dk_seq K (de_var 1)) (dg_name (i := 3) sc_law_goes_alone.nd rfl (Or.inl rfl))
      (dss_one (ds_if (dt_cmp (opk_eq K hr.units) ar_eqU (dk_ix K (de_var 3) de_int) de_str (nomark _))
        (dss_one (ds_set (i := 2) sc_law_goes_alone.nd rfl (Or.inl rfl) (dk_ix K (de_var 3) de_int)))
        (dss_one (ds_if (dt_cmp (opk_eq K hr.units) ar_eqU (de_var 2) (dk_ix K (de_var 3) de_int) (nomark _))
          (dss_one (ds_ret de_bl))
          dss_nil)))))
    (dss_one (ds_ret de_bl)))), ?_⟩)
  intro ss Φ hl hP
  obtain ⟨m, row, rfl, hr, hQ⟩ := hP
  refine ⟨fun i l => ∃ (a : Option S) (h : Int), l = [some (.d (.int m)), some (.d (.lst (row.map dLS))), some (.d (.int h)), a] ∧ goes h (row.drop i) = goes 0 row, ⟨none, 0, rfl, rfl⟩, ?_, ?_⟩
  · rintro i x l' hx ⟨a, h, rfl, hg⟩
    obtain ⟨s, es, rfl⟩ := map_at hx
    have ed : row.drop i = s :: row.drop (i + 1) := (List.drop_eq_getElem_cons (List.getElem?_eq_some_iff.mp es).1).trans (by rw [(List.getElem?_eq_some_iff.mp es).2])
    rw [ed] at hg
    cases s with
    | put n =>
      refine ⟨.str "put", rfl, .int n, rfl, _, n, rfl, hg⟩
    | wait n =>
      refine ⟨.str "wait", rfl, .int n, rfl, ?_⟩
      refine iteC (p := h = n) rfl (fun hn => ?_) (fun hn => ?_)
      · have e : goes 0 row = false := by
          rw [← hg]
          show (if h = n then false else _) = false
          rw [if_pos hn]
        rw [e] at hQ
        exact hQ
      · refine ⟨_, h, rfl, ?_⟩
        rw [← hg]
        show _ = (if h = n then false else _)
        rw [if_neg hn]
  · rintro l' ⟨a, h, rfl, hg⟩
    have e : goes 0 row = true := by
      rw [← hg, List.length_map, List.drop_length]
      rfl
    rw [e] at hQ
    exact hQ
theorem ok_law_every (F : Fun K "_law_every" "_law_every" s_law_every f fd) (T : Txt K mg cG cM) : FnOk Pr w K mg base CX0 1 f fd ["_law_most", "_law_ahead"] (spD 2 P_every) := by
  refine fn_D F sc_law_every rfl (fun cdv A outer s H Eo hr => ⟨_, _, (dss_cons (ds_set (i := 2) sc_law_every.nd rfl (Or.inl rfl) (DF.de (df_lst (da_cons (DF.de (df_lst da_nil)) da_nil))))
    (dss_cons (ds_for (ix := [3]) PassesOwn.never rfl (di_range1 rfl T.range (da_cons (de_var 1) da_nil)) (dg_name (i := 3) sc_law_every.nd rfl (Or.inl rfl))
      (dss_cons (ds_set (i := 4) sc_law_every.nd rfl (Or.inl rfl) (DF.de (df_lst da_nil)))
      (dss_cons (ds_for (ix := [5]) PassesOwn.never rfl (dk_seq K (de_var 2)) (dg_name (i := 5) sc_law_every.nd rfl (Or.inl rfl))
        (dss_one (ds_for (ix := [6]) PassesOwn.never rfl (di_range1 rfl T.range (da_cons (de_op (opk_add K) ar_addU (de_var 0) de_int) da_nil)) (dg_name (i := 6) sc_law_every.nd rfl (Or.inl rfl))
          (dss_one (ds_set (i := 4) sc_law_every.nd rfl (Or.inl rfl) (de_op (opk_add K) ar_addU (de_var 4) (DF.de (df_lst (da_cons (de_op (opk_add K) ar_addU (de_var 5) (DF.de (df_lst (da_cons (de_tup (da_cons de_str (da_cons (de_var 6) da_nil))) da_nil)))) (da_cons (de_op (opk_add K) ar_addU (de_var 5) (DF.de (df_lst (da_cons (de_tup (da_cons de_str (da_cons (de_var 6) da_nil))) da_nil)))) da_nil))))))))))
      (dss_one (ds_set (i := 2) sc_law_every.nd rfl (Or.inl rfl) (de_var 4))))))
    (dss_one (ds_ret (de_var 2))))), ?_⟩)
  intro ss Φ hl hP
  obtain ⟨m, a, rfl, m9, a9, h5, hQ⟩ := hP
  refine ⟨by simp, by simp, ?_⟩
  refine ⟨⟨by omega, by omega⟩, fun i l => ∃ b c d e : Option S, l = [some (.d (.int m)), some (.d (.int a)), some (.d (.lst ((everyM m i).map dLR))), b, c, d, e], ⟨none, none, none, none, rfl⟩, ?_, ?_⟩
  · rintro i x l' hx ⟨b, c, d, e, rfl⟩
    obtain ⟨hi, rfl⟩ := rangeD_at hx
    have hia : i < a := by omega
    have hlen : (chG (everyM m i) (lpart m)).length ≤ 5000 := by
      rw [← every_succ, every_len]
      exact Nat.le_trans (Nat.pow_le_pow_right (by omega) (by omega)) h5
    refine ⟨by simp, ?_⟩
    refine ⟨fun k l => ∃ d e : Option S, l = [some (.d (.int m)), some (.d (.int a)), some (.d (.lst ((everyM m i).map dLR))), some (.d (.int (0 + (i : Int)))), some (.d (.lst ((chG ((everyM m i).take k) (lpart m)).map dLR))), d, e], ⟨d, e, rfl⟩, ?_, ?_⟩
    · rintro k x l' hx ⟨d, e, rfl⟩
      obtain ⟨row, hr, rfl⟩ := map_at hx
      have hrow : row.length ≤ 9 := by
        have := (choicesG_row (List.mem_of_getElem? hr)).1
        rw [List.length_replicate] at this
        omega
      have e3 : ∀ j, j ≤ m + 1 → (chG ((everyM m i).take k) (lpart m)).length + 2 * j ≤ 5000 := fun j hj => by
        have e2 : (chG ((everyM m i).take k) (lpart m)).length + (lpart m).length = (chG ((everyM m i).take (k + 1)) (lpart m)).length := by
          rw [chG_next hr, List.length_append, List.length_map]
        have e3 : (chG ((everyM m i).take (k + 1)) (lpart m)).length ≤ (chG (everyM m i) (lpart m)).length := by
          rw [chG_len, chG_len, List.length_take]
          exact Nat.mul_le_mul_right _ (Nat.min_le_right _ _)
        rw [lpart_len] at e2
        omega
      refine ⟨⟨by omega, by omega⟩, fun j l => ∃ e : Option S, l = [some (.d (.int m)), some (.d (.int a)), some (.d (.lst ((everyM m i).map dLR))), some (.d (.int (0 + (i : Int)))), some (.d (.lst ((chG ((everyM m i).take k) (lpart m) ++ (lpartN j).map fun x => row ++ [x]).map dLR))), some (.d (dLR row)), e], ⟨e, ?_⟩, ?_, ?_⟩
      · show _ = [_, _, _, _, some (S.d (D.lst (List.map dLR (_ ++ [])))), _, _]
        rw [List.append_nil]
        rfl
      · rintro j y l' hy ⟨e, rfl⟩
        obtain ⟨hj, rfl⟩ := rangeD_at hy
        have := e3 (j + 1) (by omega)
        refine ⟨by simp, by simp, by simp; omega, by simp, by simp, by simp; omega, by simp, ?_, some (.d (.int (0 + (j : Int)))), ?_⟩
        · rw [List.length_map, List.length_append, List.length_map, lpartN_len]
          simp
          omega
        · rw [lpartN_succ]
          show [_, _, _, _, some (S.d (D.lst (_ ++ [_, _]))), _, _] = _
          simp [dLR, dLS]
      · rintro l' ⟨e, rfl⟩
        rw [rangeD_len]
        refine ⟨some (.d (dLR row)), e, ?_⟩
        have em : ((m : Int) + 1).toNat = m + 1 := by omega
        rw [em, chG_next hr]
        rfl
    · rintro l' ⟨d, e, rfl⟩
      rw [List.length_map, List.take_length, ← every_succ]
      exact ⟨some (.d (.int (0 + (i : Int)))), some (.d (.lst ((everyM m (i + 1)).map dLR))), d, e, rfl⟩
  · rintro l' ⟨b, c, d, e, rfl⟩
    rw [rangeD_len]
    exact hQ
theorem ok_law_refused {ea : EA} {aGE : Addr} {f_tries : Addr} {fd_tries : FuncData} {f_law_is : Addr} {fd_law_is : FuncData} (F : Fun K "_law_refused" "_law_refused" s_law_refused f fd) (T : Txt K mg cG cM) (GX_tries : Gd Pr w K mg base (L2N.CX Pr w) 8 "tries" ["most", "ahead", "after"] (spX 3 (PP_triesX ea.OtherGate)) f_tries fd_tries) (g_GateError : mg "GateError" = some (.ref aGE)) (kE_other : PySem.W.exmOne K (.ref ea.OtherGate) (.ref aGE) = some true) (F_law_is_other : FnE Pr w K mg base CX0 1 f_law_is fd_law_is ["_law_e", "_law_word"] (fun p => L2N.Zn (.ref ea.OtherGate) none p.2) fun a => spD 2 (P_is0 a "other")) (m_law_is : mg "_law_is" = some (.ref f_law_is)) (k_law_is : PySem.W.keepIn K (.ref f_law_is) = true) (b_law_is : Binds K fd_law_is ["_law_e", "_law_word"] []) : FnOk Pr w K mg base CX0 9 f fd ["_law_most", "_law_ahead", "_law_after"] (spD 3 P_refusedT) := by
  refine fn_D F sc_law_refused rfl (fun cdv A outer s H Eo hr => ⟨_, _, (dss_cons (ds_tryIs (i := 3) sc_law_refused.nd rfl rfl ⟨rfl, by decide, .inl g_GateError⟩ kE_other GX_tries.ok (hr.mono (by decide)) (by decide) rfl GX_tries.m GX_tries.kp GX_tries.b (fun pn xe => (da_cons (de_var 0) (da_cons (de_var 1) (da_cons (de_var 2) da_nil)))) F_law_is_other rfl m_law_is k_law_is b_law_is)
    (dss_one (ds_ret de_bl))), ?_⟩)
  intro ss Φ hl hP
  obtain ⟨m, a, f, rfl, hb, hQ⟩ := hP
  exact ⟨by show 3 < 4; decide, m, a, f, rfl, hb, rfl, hQ⟩
theorem law_rest {f_law_off : Addr} {fd_law_off : FuncData} {f_law_every : Addr} {fd_law_every : FuncData} {f_law_goes_alone : Addr} {fd_law_goes_alone : FuncData} {f_law_alike : Addr} {fd_law_alike : FuncData} {f_tries : Addr} {fd_tries : FuncData} {f_law_refused : Addr} {fd_law_refused : FuncData} (T : Txt K mg cG cM) (G_law_off : Gd Pr w K mg base CX0 1 "_law_off" ["_law_d", "_law_most"] (spD 2 P_off) f_law_off fd_law_off) (G_law_every : Gd Pr w K mg base CX0 1 "_law_every" ["_law_most", "_law_ahead"] (spD 2 P_every) f_law_every fd_law_every) (G_law_goes_alone : Gd Pr w K mg base CX0 1 "_law_goes_alone" ["_law_most", "_law_steps"] (spD 2 P_goes_alone) f_law_goes_alone fd_law_goes_alone) (G_law_alike : Gd Pr w K mg base CX0 6 "_law_alike" ["_law_found", "_law_due"] (spD 2 (P_alike 6)) f_law_alike fd_law_alike) (G_tries : Gd Pr w K mg base CX0 8 "tries" ["most", "ahead", "after"] (spD 3 PP_tries) f_tries fd_tries) (G_law_refused : Gd Pr w K mg base CX0 9 "_law_refused" ["_law_most", "_law_ahead", "_law_after"] (spD 3 P_refusedT) f_law_refused fd_law_refused) {cdv : Value} {A : Around} {outer : List PySem.Env} {s : Shared} {H : Hp} {Eo : XK} (hr : L2.Room 9 (A.deeper (PyProof.Rows.envOfC "law" (defScope s_law) s.heap.objs.size f cdv))) :
    ∃ t w', DSs ((cxOf CX0 Pr w K mg base N_law "law" (defScope s_law) f cdv A outer s H Eo).nox) E0 (defBody s_law).tail t w' ∧ ∀ Φ : D → Prop, Φ (.bl true) → w' ⟨fun _ => False, fun _ => False⟩ { nx := fun _ => Φ .non, rt := Φ } (none :: some .dice :: List.replicate 10 none) := by
  refine ⟨_, _, (dss_cons (ds_set (i := 2) sc_law.nd rfl (Or.inr rfl) (de_call G_law_off.ok (hr.mono (by decide)) rfl G_law_off.m G_law_off.kp G_law_off.b (da_dice 1 (da_cons de_int da_nil))))
    (dss_cons (ds_set (i := 3) sc_law.nd rfl (Or.inl rfl) (de_call G_law_off.ok (hr.mono (by decide)) rfl G_law_off.m G_law_off.kp G_law_off.b (da_dice 1 (da_cons (dk_ix K (DF.de (df_lst (da_cons de_int (da_cons de_int (da_cons de_int (da_cons de_int da_nil)))))) (de_var 2)) da_nil))))
    (dss_cons (ds_set (i := 4) sc_law.nd rfl (Or.inl rfl) (de_call G_law_off.ok (hr.mono (by decide)) rfl G_law_off.m G_law_off.kp G_law_off.b (da_dice 1 (da_cons (dk_ix K (DF.de (df_lst (da_cons de_int (da_cons de_int (da_cons de_int (da_cons de_int da_nil)))))) (de_var 2)) da_nil))))
    (dss_cons (ds_if (dt_cmp (opk_eq K hr.units) ar_eqU (de_call G_law_off.ok (hr.mono (by decide)) rfl G_law_off.m G_law_off.kp G_law_off.b (da_dice 1 (da_cons de_int da_nil))) de_int (nomark _))
      (dss_one (ds_asg (ix := [2, 3, 4]) (dk_ix K (DF.de (df_lst (da_cons (de_tup (da_cons de_int (da_cons de_int (da_cons de_int da_nil)))) (da_cons (de_tup (da_cons de_int (da_cons de_int (da_cons de_int da_nil)))) (da_cons (de_tup (da_cons de_int (da_cons de_int (da_cons de_int da_nil)))) da_nil))))) (de_call G_law_off.ok (hr.mono (by decide)) rfl G_law_off.m G_law_off.kp G_law_off.b (da_dice 1 (da_cons de_int da_nil)))) (dk_tup (n := 3) K rfl (dgs_cons (dg_name (i := 2) sc_law.nd rfl (Or.inr rfl)) (dgs_cons (dg_name (i := 3) sc_law.nd rfl (Or.inl rfl)) (dgs_cons (dg_name (i := 4) sc_law.nd rfl (Or.inl rfl)) dgs_nil))))))
      dss_nil)
    (dss_cons (ds_set (i := 5) sc_law.nd rfl (Or.inl rfl) (de_callB (cr_len K) ac_len rfl T.len PySem.boot_len (da_cons (DF.de (df_lc rfl sc_law.nd (own := [("_law_row", 11)]) (dk_seq K (de_call G_law_every.ok (hr.mono (by decide)) rfl G_law_every.m G_law_every.kp G_law_every.b (da_cons (de_var 2) (da_cons (de_var 3) da_nil)))) (blkOk_by (own := [("_law_row", 11)]) (N := N_law) (sc := defScope s_law) (by decide +kernel)) (fun _ _ _ _ _ => (dg_name (i := 11) sc_law.nd rfl (Or.inl rfl))) (fun _ _ _ _ _ => (dts_one (dt_val (de_call G_law_goes_alone.ok (hr.mono (by decide)) rfl G_law_goes_alone.m G_law_goes_alone.kp G_law_goes_alone.b (da_cons (de_var 2) (da_cons (de_var 11) da_nil)))))) (fun _ _ _ _ _ => (de_var 11)))) da_nil)))
    (dss_cons (ds_set (i := 6) sc_law.nd rfl (Or.inl rfl) de_int)
    (dss_cons (ds_for (ix := [7]) PassesOwn.never rfl (di_range1 rfl T.range (da_cons (de_var 4) da_nil)) (dg_name (i := 7) sc_law.nd rfl (Or.inl rfl))
      (dss_one (ds_set (i := 6) sc_law.nd rfl (Or.inl rfl) (de_op (opk_mul K) ar_mulU (de_var 6) (de_op (opk_add K) ar_addU (de_var 2) de_int)))))
    (dss_cons (ds_set (i := 8) sc_law.nd rfl (Or.inl rfl) (de_op (opk_mul K) ar_mulU (de_callB (cr_len K) ac_len rfl T.len PySem.boot_len (da_cons (de_call G_law_every.ok (hr.mono (by decide)) rfl G_law_every.m G_law_every.kp G_law_every.b (da_cons (de_var 2) (da_cons (de_var 3) da_nil))) da_nil)) (de_var 6)))
    (dss_cons (ds_if (dt_not (dt_val (de_call G_law_alike.ok (hr.mono (by decide)) rfl G_law_alike.m G_law_alike.kp G_law_alike.b (da_cons (de_call G_tries.ok (hr.mono (by decide)) rfl G_tries.m G_tries.kp G_tries.b (da_cons (de_var 2) (da_cons (de_var 3) (da_cons (de_var 4) da_nil)))) (da_cons (de_tup (da_cons (de_var 8) (da_cons (de_op (opk_mul K) ar_mulU (de_var 5) (de_var 6)) (da_cons (de_op op_sub ar_sub (de_var 8) (de_op (opk_mul K) ar_mulU (de_var 5) (de_var 6))) da_nil)))) da_nil)))))
      (dss_one (ds_ret de_bl))
      dss_nil)
    (dss_cons (ds_set (i := 9) sc_law.nd rfl (Or.inl rfl) (DF.de (df_lst (da_cons (de_tup (da_cons (de_neg de_int) (da_cons de_int (da_cons de_int da_nil)))) (da_cons (de_tup (da_cons de_int (da_cons de_int (da_cons de_int da_nil)))) (da_cons (de_tup (da_cons de_int (da_cons (de_neg de_int) (da_cons de_int da_nil)))) (da_cons (de_tup (da_cons de_int (da_cons de_int (da_cons (de_neg de_int) da_nil)))) (da_cons (de_tup (da_cons de_int (da_cons de_int (da_cons de_int da_nil)))) (da_cons (de_tup (da_cons de_int (da_cons de_int (da_cons de_int da_nil)))) (da_cons (de_tup (da_cons de_int (da_cons de_int (da_cons de_int da_nil)))) (da_cons (de_tup (da_cons de_int (da_cons de_int (da_cons de_int da_nil)))) (da_cons (de_tup (da_cons de_int (da_cons de_int (da_cons de_int da_nil)))) da_nil))))))))))))
    (dss_cons (ds_set (i := 10) sc_law.nd rfl (Or.inl rfl) (dk_ix K (de_var 9) (de_call G_law_off.ok (hr.mono (by decide)) rfl G_law_off.m G_law_off.kp G_law_off.b (da_dice 1 (da_cons de_int da_nil)))))
    (dss_one (ds_ret (de_call G_law_refused.ok (hr.mono (by decide)) rfl G_law_refused.m G_law_refused.kp G_law_refused.b (da_cons (dk_ix K (de_var 10) de_int) (da_cons (dk_ix K (de_var 10) de_int) (da_cons (dk_ix K (de_var 10) de_int) da_nil))))))))))))))))), ?_⟩
  intro Φ hQ
  refine ⟨4, rfl, by decide, by decide, fun m m0 m1 => ?_⟩
  refine ⟨by simp, ?_⟩
  obtain ⟨am, eam, am0, am1⟩ : ∃ am : Int, L2.atI [D.int 4, .int 4, .int 4, .int 3] m = some (.int am) ∧ 0 < am ∧ am ≤ (if m = 3 then 3 else 4) := by
    have hm : m = 0 ∨ m = 1 ∨ m = 2 ∨ m = 3 := by omega
    rcases hm with rfl | rfl | rfl | rfl
    · exact ⟨4, rfl, by decide, by decide⟩
    · exact ⟨4, rfl, by decide, by decide⟩
    · exact ⟨4, rfl, by decide, by decide⟩
    · exact ⟨3, rfl, by decide, by decide⟩
  refine ⟨_, eam, am, rfl, am0, by split at am1 <;> omega, fun a a0 a1 => ?_⟩
  refine ⟨by simp, ?_⟩
  obtain ⟨fm, efm, fm0, fm1⟩ : ∃ fm : Int, L2.atI [D.int 3, .int 3, .int 2, .int 2] m = some (.int fm) ∧ 0 < fm ∧ fm ≤ (if 2 ≤ m then 2 else 3) := by
    have hm : m = 0 ∨ m = 1 ∨ m = 2 ∨ m = 3 := by omega
    rcases hm with rfl | rfl | rfl | rfl
    · exact ⟨3, rfl, by decide, by decide⟩
    · exact ⟨3, rfl, by decide, by decide⟩
    · exact ⟨2, rfl, by decide, by decide⟩
    · exact ⟨2, rfl, by decide, by decide⟩
  refine ⟨_, efm, fm, rfl, fm0, by split at fm1 <;> omega, fun f f0 f1 => ?_⟩
  have ok0 : OkT m.toNat a.toNat f.toNat := okT_of m a f m0 m1 a0 f0 (by split at am1 <;> split at fm1 <;> omega) (by split at am1 <;> split at fm1 <;> omega) (by split at am1 <;> split at fm1 <;> omega) (by split at am1 <;> split at fm1 <;> omega)
  obtain ⟨m, rfl⟩ : ∃ k : Nat, m = (k : Int) := ⟨m.toNat, by omega⟩
  obtain ⟨a, rfl⟩ : ∃ k : Nat, a = (k : Int) := ⟨a.toNat, by omega⟩
  obtain ⟨f, rfl⟩ : ∃ k : Nat, f = (k : Int) := ⟨f.toNat, by omega⟩
  rw [Int.toNat_natCast, Int.toNat_natCast, Int.toNat_natCast] at ok0
  clear eam efm m0 m1 a0 a1 f0 f1 am0 am1 fm0 fm1
  clear am fm
  revert m a f
  apply both3
  · intro m a f ok main
    refine ⟨12, rfl, by decide, by decide, fun r _ _ => ?_⟩
    refine iteD (fun _ => ?_) (fun _ => main m a f ok)
    refine ⟨by simp, by simp, by simp, by simp, 3, rfl, by decide, by decide, fun r2 a2 b2 => ?_⟩
    have hm : r2 = 0 ∨ r2 = 1 ∨ r2 = 2 := by omega
    rcases hm with rfl | rfl | rfl
    · exact ⟨_, rfl, rfl, main 3 2 3 ⟨by decide, by decide, by decide, by decide⟩⟩
    · exact ⟨_, rfl, rfl, main 7 3 0 ⟨by decide, by decide, by decide, by decide⟩⟩
    · exact ⟨_, rfl, rfl, main 1 5 2 ⟨by decide, by decide, by decide, by decide⟩⟩
  intro m a f ok
  have m9 := ok.m9
  have a9 := ok.a9
  have f9 := ok.f9
  have hah := ok.ahead
  refine ⟨m, a, rfl, m9, a9, hah, ?_⟩
  refine ⟨by rw [List.length_map, every_len]; omega, fun i acc => acc = (((everyM m a).take i).filter (goes 0)).map dLR, rfl, ?_, ?_⟩
  · rintro i x acc hx rfl
    obtain ⟨row, hr, rfl⟩ := map_at hx
    have hrow : row.length ≤ 9 := by
      have := (choicesG_row (List.mem_of_getElem? hr)).1
      rw [List.length_replicate] at this
      omega
    refine ⟨(m : Int), row, rfl, by omega, ?_⟩
    cases hg : goes 0 row with
    | true =>
      show _ ++ [dLR row] = _
      rw [take_next' hr, List.filter_append, List.map_append]
      simp [hg]
    | false =>
      show _ = _
      rw [take_next' hr, List.filter_append, List.map_append]
      simp [hg]
  rintro acc rfl
  rw [List.length_map, every_len, ← every_len, List.take_length]
  have eg : ((((everyM m a).filter (goes 0)).map dLR).length) = (everyM m a).countP (goes 0) := by rw [List.length_map, List.countP_eq_length_filter]
  refine ⟨⟨by omega, by omega⟩, fun i l => ∃ b c : Option S, l = [none, some .dice, some (.d (.int m)), some (.d (.int a)), some (.d (.int f)), some (.d (.int ((((everyM m a).filter (goes 0)).map dLR).length : Nat))), some (.d (.int ((m + 1) ^ i : Nat))), b, c, none, none, none], ⟨none, none, rfl⟩, ?_, ?_⟩
  · rintro i x l' hx ⟨b, c, rfl⟩
    obtain ⟨hi, rfl⟩ := rangeD_at hx
    refine ⟨Or.inr ?_, some (.d (.int (0 + (i : Int)))), c, ?_⟩
    · omega
    · rw [Nat.pow_succ]
      show [_, _, _, _, _, _, some (S.d (.int (((m + 1) ^ i : Nat) * ((m : Int) + 1)))), _, _, _, _, _] = _
      rw [Int.natCast_mul]
      rfl
  rintro l' ⟨b, c, rfl⟩
  rw [rangeD_len, Int.toNat_natCast]
  have hf : (m + 1) ^ f ≤ 4096 := by
    have h1 := ok.sz
    have h2 : 1 ≤ (2 * (m + 1)) ^ a := Nat.one_le_pow _ _ (by omega)
    have := Nat.le_mul_of_pos_left ((m + 1) ^ f) h2
    omega
  have hW : manyG (partsM m a f) ≤ 4096 := by rw [parts_many]; exact ok.sz
  have eW : manyG (partsM m a f) = ((everyM m a).map dLR).length * (m + 1) ^ f := by rw [parts_many, List.length_map, every_len]
  have eT : twoN m a f = (((everyM m a).filter (goes 0)).map dLR).length * (m + 1) ^ f := by rw [two_eq, eg]
  have hT : twoN m a f ≤ manyG (partsM m a f) := by
    unfold twoN
    rw [← choicesG_len]
    exact List.countP_le_length
  refine ⟨m, a, rfl, m9, a9, hah, Or.inr (by omega), ?_⟩
  refine ⟨m, a, f, rfl, m9, a9, f9, hW, ?_⟩
  refine ⟨Or.inr (by omega), Or.inr (by omega), by simp, ?_⟩
  rw [eW, eT, Int.natCast_mul, Int.natCast_mul]
  refine ⟨_, rfl, ?_, ?_⟩
  · exact ⟨by show 3 < 100000; decide, fun x hx => by
      rcases List.mem_cons.mp hx with rfl | hx
      · exact trivial
      rcases List.mem_cons.mp hx with rfl | hx
      · exact trivial
      rw [List.mem_singleton.mp hx]
      exact trivial⟩
  refine L2.iteF ?_
  refine ⟨by simp, by simp, by simp, by simp, by simp, by simp, by simp, by simp, by simp, by simp, ?_⟩
  refine ⟨9, rfl, by decide, by decide, fun r r0 r1 => ?_⟩
  have out : ∀ x y z : Int, ¬ ((0 ≤ x ∧ x ≤ 9) ∧ (0 ≤ y ∧ y ≤ 9) ∧ (0 ≤ z ∧ z ≤ 9)) → BadT x y z := fun x y z h => .inl h
  have big : ∀ x y z : Nat, x ≤ 9 → y ≤ 9 → z ≤ 9 → 4096 < (2 * (x + 1)) ^ y * (x + 1) ^ z → BadT x y z := fun x y z h1 h2 h3 h4 => .inr ⟨x, y, z, rfl, rfl, rfl, h1, h2, h3, by rw [parts_many]; exact h4⟩
  have hr : r = 0 ∨ r = 1 ∨ r = 2 ∨ r = 3 ∨ r = 4 ∨ r = 5 ∨ r = 6 ∨ r = 7 ∨ r = 8 := by omega
  rcases hr with rfl | rfl | rfl | rfl | rfl | rfl | rfl | rfl | rfl
  · exact ⟨_, rfl, _, rfl, _, rfl, _, rfl, -1, 1, 1, rfl, out _ _ _ (by decide), hQ⟩
  · exact ⟨_, rfl, _, rfl, _, rfl, _, rfl, 10, 1, 1, rfl, out _ _ _ (by decide), hQ⟩
  · exact ⟨_, rfl, _, rfl, _, rfl, _, rfl, 1, -1, 1, rfl, out _ _ _ (by decide), hQ⟩
  · exact ⟨_, rfl, _, rfl, _, rfl, _, rfl, 1, 1, -1, rfl, out _ _ _ (by decide), hQ⟩
  · exact ⟨_, rfl, _, rfl, _, rfl, _, rfl, 1, 7, 0, rfl, big 1 7 0 (by decide) (by decide) (by decide) (by decide), hQ⟩
  · exact ⟨_, rfl, _, rfl, _, rfl, _, rfl, 9, 3, 1, rfl, big 9 3 1 (by decide) (by decide) (by decide) (by decide), hQ⟩
  · exact ⟨_, rfl, _, rfl, _, rfl, _, rfl, 3, 4, 1, rfl, big 3 4 1 (by decide) (by decide) (by decide) (by decide), hQ⟩
  · exact ⟨_, rfl, _, rfl, _, rfl, _, rfl, 1, 10, 0, rfl, out _ _ _ (by decide), hQ⟩
  · exact ⟨_, rfl, _, rfl, _, rfl, _, rfl, 0, 0, 10, rfl, out _ _ _ (by decide), hQ⟩
theorem ok_law {f_law_off : Addr} {fd_law_off : FuncData} {f_law_every : Addr} {fd_law_every : FuncData} {f_law_goes_alone : Addr} {fd_law_goes_alone : FuncData} {f_law_alike : Addr} {fd_law_alike : FuncData} {f_tries : Addr} {fd_tries : FuncData} {f_law_refused : Addr} {fd_law_refused : FuncData} {f_dice : Addr} {fd_dice : FuncData} (F : Fun K "law" "law" s_law f fd) (T : Txt K mg cG cM) (G_law_off : Gd Pr w K mg base CX0 1 "_law_off" ["_law_d", "_law_most"] (spD 2 P_off) f_law_off fd_law_off) (G_law_every : Gd Pr w K mg base CX0 1 "_law_every" ["_law_most", "_law_ahead"] (spD 2 P_every) f_law_every fd_law_every) (G_law_goes_alone : Gd Pr w K mg base CX0 1 "_law_goes_alone" ["_law_most", "_law_steps"] (spD 2 P_goes_alone) f_law_goes_alone fd_law_goes_alone) (G_law_alike : Gd Pr w K mg base CX0 6 "_law_alike" ["_law_found", "_law_due"] (spD 2 (P_alike 6)) f_law_alike fd_law_alike) (G_tries : Gd Pr w K mg base CX0 8 "tries" ["most", "ahead", "after"] (spD 3 PP_tries) f_tries fd_tries) (G_law_refused : Gd Pr w K mg base CX0 9 "_law_refused" ["_law_most", "_law_ahead", "_law_after"] (spD 3 P_refusedT) f_law_refused fd_law_refused) (G_dice : Gd Pr w K mg base CX0 1 "_law_dice" ["_law_script", "_law_k"] (spDice K) f_dice fd_dice) : FnOk Pr w K mg base CX0 10 f fd ["_law_script"] (spLaw K) := by
  refine F.ok sc_law (fun vs H Q E h => ?_) (fun cdv A outer s H vs Q E hr h => ?_)
  · obtain ⟨a, ns, rfl, _⟩ := h
    rfl
  · obtain ⟨t, w', hs, hw⟩ := law_rest (Eo := E) T G_law_off G_law_every G_law_goes_alone G_law_alike G_tries G_law_refused hr
    obtain ⟨a, ns, rfl, hS, hl, hQ⟩ := h
    refine ⟨_, pss_cons (ps_set (i := 1) sc_law.nd rfl (Or.inl rfl) (pe_call G_dice.ok (hr.mono (by decide)) rfl G_dice.m G_dice.kp G_dice.b .nil pass0 (pa_cons (pv 0) (pa_cons pe_int pa_nil)))) hs.p, ?_⟩
    refine ⟨.ref a, rfl, a, ns, 0, rfl, hS, hl, fun p H' ms hp hsm hp' h2 => ?_⟩
    exact hs.a (some p) [] H' ⟨fun _ => False, fun _ => False⟩ { nx := fun _ => D.non = .bl true, rt := fun d => d = .bl true } _ ⟨fun _ _ _ _ z => (nomatch z), fun v H2 d _ r hd => by
      subst hd
      cases r
      exact hQ _, fun _ _ _ _ z => False.elim z, fun _ _ _ _ z => False.elim z⟩ _ H' _ (rs_dice rfl rfl ⟨ms, hp', h2⟩) (hw (fun d => d = .bl true) rfl)
end
end Gh

namespace HeadG
open PySem PySem.Spec PySem.W PyProof.Rows L2 He
theorem funD_fun {K : PySem.W.Frag} {x qual : PySem.Str} {st : Stmt} {f : Addr} {fd : FuncData} (F : FunD K x qual (defArgs st) (defBody st) (defScope st) [] [] f fd) : Fun K x qual st f fd := by
  obtain ⟨⟨oc, od, dV, kV, doc, pm, an, cdv, ct, osl, e, lk, hcd, hD, hK⟩, kp⟩ := F
  rcases hD with ⟨_, rfl⟩ | ⟨e2, _⟩
  · exact ⟨⟨oc, od, kV, doc, pm, an, cdv, ct, osl, e, lk, hcd⟩, kp⟩
  · exact absurd rfl e2
abbrev AlP : Type := AlD × Bool
def exAll (ex : List (PySem.W.Frag → Bool)) (K : PySem.W.Frag) : Bool := ex.all fun b => b K
def obsP (n : Nat) (fa : List Fa) (fn : List DefD) (ex : List (PySem.W.Frag → Bool)) (g : Addr → Option Obj) : AlP := (obsD fa fn (frG g (asD g n)), exAll ex (frG g (asD g n)))
structure SaysP (fa : List Fa) (fn : List DefD) (ex : List (PySem.W.Frag → Bool)) (K : PySem.W.Frag) : Prop where
  d : SaysD fa fn K
  x : exAll ex K = true
theorem saysP_of {fa : List Fa} {fn : List DefD} {ex : List (PySem.W.Frag → Bool)} {K : PySem.W.Frag} (e : (obsD fa fn K, exAll ex K) = (valD fn, true)) : SaysP fa fn ex K := ⟨congrArg (fun z : AlP => z.1) e, congrArg (fun z : AlP => z.2) e⟩
def hookP (n : Nat) (fa : List Fa) (fn : List DefD) (ex : List (PySem.W.Frag → Bool)) : PySem.W.Hook where
  α := AlP
  obs := fun s => obsP n fa fn ex s.heap.get?
  val := fun _ => (valD fn, true)
  says := fun _ h => ∃ K : PySem.W.Frag, K.In h ∧ SaysP fa fn ex K
  of := fun _ _ e => ⟨_, frG_in, saysP_of e⟩
  keeps := fun _ _ _ ⟨K, hK, c⟩ k => ⟨K, PySem.W.Frag.In.keeps hK k, c⟩
theorem obsP_eq {n : Nat} {fa : List Fa} {fn : List DefD} {ex : List (PySem.W.Frag → Bool)} {g : Addr → Option Obj} {s : Shared} (h : ∀ a, g a = s.heap.get? a) : obsP n fa fn ex g = (hookP n fa fn ex).obs s := by
  have e : g = s.heap.get? := funext h
  rw [e] <;> rfl
theorem SaysP.more {fa : List Fa} {fn : List DefD} {ex : List (PySem.W.Frag → Bool)} {K : PySem.W.Frag} (c : SaysP fa fn ex K) (i : Nat) {b : PySem.W.Frag → Bool} (h : ex[i]? = some b := by rfl) : b K = true :=
  List.all_eq_true.mp c.x b (List.mem_of_getElem? h)
end HeadG
namespace Gh
open PySem PySem.Spec PySem.W PySem.Calls PyProof.Rows L2 Dl HotX L2H
def dd_law_off : He.DefD := ⟨("_law_off", none), "_law_off", "_law_off", defArgs Gh2.s_law_off, defBody Gh2.s_law_off, defScope Gh2.s_law_off, [], []⟩
def dd_law_dice : He.DefD := ⟨("_law_dice", none), "_law_dice", "_law_dice", defArgs Gh2.s_law_dice, defBody Gh2.s_law_dice, defScope Gh2.s_law_dice, [], []⟩
def dd_law_alike : He.DefD := ⟨("_law_alike", none), "_law_alike", "_law_alike", defArgs s_law_alike, defBody s_law_alike, defScope s_law_alike, [], []⟩
def dd_replaced : He.DefD := ⟨("replaced", none), "replaced", "replaced", defArgs s_replaced, defBody s_replaced, defScope s_replaced, [], []⟩
def dd_Gate_many : He.DefD := ⟨("Gate", some "many"), "many", "Gate.many", defArgs s_Gate_many, defBody s_Gate_many, defScope s_Gate_many, [], []⟩
def dd_begin : He.DefD := ⟨("begin", none), "begin", "begin", defArgs s_begin, defBody s_begin, defScope s_begin, [], []⟩
def dd_within : He.DefD := ⟨("within", none), "within", "within", defArgs s_within, defBody s_within, defScope s_within, [], []⟩
def dd_can_be_put : He.DefD := ⟨("can_be_put", none), "can_be_put", "can_be_put", defArgs s_can_be_put, defBody s_can_be_put, defScope s_can_be_put, [], []⟩
def dd_can_be_read : He.DefD := ⟨("can_be_read", none), "can_be_read", "can_be_read", defArgs s_can_be_read, defBody s_can_be_read, defScope s_can_be_read, [], []⟩
def dd_can_be_step : He.DefD := ⟨("can_be_step", none), "can_be_step", "can_be_step", defArgs s_can_be_step, defBody s_can_be_step, defScope s_can_be_step, [], []⟩
def dd_places_of_in : He.DefD := ⟨("places_of_in", none), "places_of_in", "places_of_in", defArgs s_places_of_in, defBody s_places_of_in, defScope s_places_of_in, [], []⟩
def dd_check_program : He.DefD := ⟨("check_program", none), "check_program", "check_program", defArgs s_check_program, defBody s_check_program, defScope s_check_program, [], []⟩
def dd_check_knock : He.DefD := ⟨("check_knock", none), "check_knock", "check_knock", defArgs s_check_knock, defBody s_check_knock, defScope s_check_knock, [], []⟩
def dd_check_boxes : He.DefD := ⟨("check_boxes", none), "check_boxes", "check_boxes", defArgs s_check_boxes, defBody s_check_boxes, defScope s_check_boxes, [], []⟩
def dd_check_hands : He.DefD := ⟨("check_hands", none), "check_hands", "check_hands", defArgs s_check_hands, defBody s_check_hands, defScope s_check_hands, [], []⟩
def dd_Gate_init : He.DefD := ⟨("Gate", some "__init__"), "__init__", "Gate.__init__", defArgs s_Gate_init, defBody s_Gate_init, defScope s_Gate_init, [], []⟩
def dd_check_hand : He.DefD := ⟨("check_hand", none), "check_hand", "check_hand", defArgs s_check_hand, defBody s_check_hand, defScope s_check_hand, [], []⟩
def dd_done : He.DefD := ⟨("done", none), "done", "done", defArgs s_done, defBody s_done, defScope s_done, [], []⟩
def dd_many_choices : He.DefD := ⟨("many_choices", none), "many_choices", "many_choices", defArgs s_many_choices, defBody s_many_choices, defScope s_many_choices, [], []⟩
def dd_choices : He.DefD := ⟨("choices", none), "choices", "choices", defArgs s_choices, defBody s_choices, defScope s_choices, [], []⟩
def dd_law_is : He.DefD := ⟨("_law_is", none), "_law_is", "_law_is", defArgs s_law_is, defBody s_law_is, defScope s_law_is, [], []⟩
def dd_Gate_boxes : He.DefD := ⟨("Gate", some "boxes"), "boxes", "Gate.boxes", defArgs s_Gate_boxes, defBody s_Gate_boxes, defScope s_Gate_boxes, [], []⟩
def dd_states_alone : He.DefD := ⟨("states_alone", none), "states_alone", "states_alone", defArgs s_states_alone, defBody s_states_alone, defScope s_states_alone, [], []⟩
def dd_steps_ahead_of_put : He.DefD := ⟨("steps_ahead_of_put", none), "steps_ahead_of_put", "steps_ahead_of_put", defArgs s_steps_ahead_of_put, defBody s_steps_ahead_of_put, defScope s_steps_ahead_of_put, [], []⟩
def dd_breaker : He.DefD := ⟨("breaker", none), "breaker", "breaker", defArgs s_breaker, defBody s_breaker, defScope s_breaker, [], []⟩
def dd_steps_tried : He.DefD := ⟨("steps_tried", none), "steps_tried", "steps_tried", defArgs s_steps_tried, defBody s_steps_tried, defScope s_steps_tried, [], []⟩
def dd_twins : He.DefD := ⟨("twins", none), "twins", "twins", defArgs s_twins, defBody s_twins, defScope s_twins, [], []⟩
def dd_tries : He.DefD := ⟨("tries", none), "tries", "tries", defArgs s_tries, defBody s_tries, defScope s_tries, [], []⟩
def dd_law_goes_alone : He.DefD := ⟨("_law_goes_alone", none), "_law_goes_alone", "_law_goes_alone", defArgs s_law_goes_alone, defBody s_law_goes_alone, defScope s_law_goes_alone, [], []⟩
def dd_law_every : He.DefD := ⟨("_law_every", none), "_law_every", "_law_every", defArgs s_law_every, defBody s_law_every, defScope s_law_every, [], []⟩
def dd_law_refused : He.DefD := ⟨("_law_refused", none), "_law_refused", "_law_refused", defArgs s_law_refused, defBody s_law_refused, defScope s_law_refused, [], []⟩
def dd_law : He.DefD := ⟨("law", none), "law", "law", defArgs s_law, defBody s_law, defScope s_law, [], []⟩
def names0 : List PySem.Str := ["__name__", "many_choices", "choices", "GateError", "BadGate", "NoHand", "TooMany", "TwoWithin", "OtherGate", "BadText", "MOST_BOXES", "MOST_IN_BOX", "MOST_HANDS", "FEWEST_STEPS", "MOST_STEPS", "IN", "IDLE", "Gate", "check_boxes", "check_hands"]
def names1 : List PySem.Str := ["check_program", "check_knock", "can_be_step", "can_be_put", "can_be_read", "places_of_in", "begin", "done", "within", "check_hand", "replaced", "MOST_TRIED", "MOST_GATES", "breaker", "tries", "states_alone", "steps_ahead_of_put", "steps_tried", "twins", "_law_dice"]
def names2 : List PySem.Str := ["_law_off", "_law_alike", "_law_is", "_law_goes_alone", "_law_every", "_law_refused"]
def names : List PySem.Str := names0 ++ names1 ++ names2
def fa : List He.Fa := [.glo "law", .free "len", .free "tuple", .free "list", .free "range", .free "int", .free "abs", .free "enumerate", .free "zip", .free "isinstance", .free "all", .free "bool", .free "str", .free "dict", .free "any", .free "set", .cls "Gate", .noat "Gate" "pairs", .noat "Gate" "programs", .noat "Gate" "knocks", .noat "Gate" "insides", .int "MOST_BOXES" 12, .int "MOST_IN_BOX" 9, .int "MOST_HANDS" 4, .int "FEWEST_STEPS" 2, .int "MOST_STEPS" 24, .int "MOST_TRIED" 9, .int "MOST_GATES" 4096, .glo "_law_off", .glo "_law_alike", .glo "replaced", .meth "Gate" "many", .glo "begin", .glo "within", .glo "can_be_put", .glo "can_be_read", .glo "can_be_step", .glo "places_of_in", .glo "check_program", .glo "check_knock", .glo "check_boxes", .glo "check_hands", .exc "NoHand", .glo "NoHand", .glo "check_hand", .glo "done", .glo "many_choices", .glo "choices", .glo "BadGate", .glo "TooMany", .glo "TwoWithin", .glo "OtherGate", .glo "BadText", .free "ValueError", .meth "Gate" "boxes", .glo "states_alone", .glo "steps_ahead_of_put", .glo "breaker", .glo "steps_tried", .mkr "Gate", .glo "Gate", .glo "twins", .glo "tries", .exc "OtherGate", .glo "_law_goes_alone", .glo "_law_every", .glo "GateError", .exm "OtherGate" "GateError" true, .glo "_law_is", .glo "_law_refused", .glo "_law_dice"]
def fn : List He.DefD := [dd_law_off, dd_law_dice, dd_law_alike, dd_replaced, dd_Gate_many, dd_begin, dd_within, dd_can_be_put, dd_can_be_read, dd_can_be_step, dd_places_of_in, dd_check_program, dd_check_knock, dd_check_boxes, dd_check_hands, dd_Gate_init, dd_check_hand, dd_done, dd_many_choices, dd_choices, dd_law_is, dd_Gate_boxes, dd_states_alone, dd_steps_ahead_of_put, dd_breaker, dd_steps_tried, dd_twins, dd_tries, dd_law_goes_alone, dd_law_every, dd_law_refused, dd_law]
def ex : List (PySem.W.Frag → Bool) := [gB "IN" (.tup [.str "in"]), gB "IDLE" (.tup [.str "go", .int 0, .tup [], .int 1]), fun K => decide (PySem.W.kitOne K (.ref (He.ga K "OtherGate")) (.type "ValueError") = some true), fun K => decide (PySem.W.kitOne K (.ref (He.ga K "OtherGate")) (.ref (He.ga K "BadGate")) = some false), fun K => decide (PySem.W.kitOne K (.ref (He.ga K "OtherGate")) (.ref (He.ga K "NoHand")) = some false), fun K => decide (PySem.W.kitOne K (.ref (He.ga K "OtherGate")) (.ref (He.ga K "TooMany")) = some false), fun K => decide (PySem.W.kitOne K (.ref (He.ga K "OtherGate")) (.ref (He.ga K "TwoWithin")) = some false), fun K => decide (PySem.W.kitOne K (.ref (He.ga K "OtherGate")) (.ref (He.ga K "OtherGate")) = some true), fun K => decide (PySem.W.kitOne K (.ref (He.ga K "OtherGate")) (.ref (He.ga K "BadText")) = some false), fun K => excCB K (He.ga K "OtherGate")]
abbrev R : OpenRow := OpenLaw.row PySem.Challenge.rw_gatehands_k15_small_tries_counted
abbrev hk : Hook := HeadG.hookP 4 fa fn ex
def ob (s : SharedT) : HeadG.AlP := HeadG.obsP 4 fa fn ex (HandSHeadRun.getT s)
theorem ob_eq (s : SharedT) : ob s = hk.obs s.abs := HeadG.obsP_eq (HandSHeadRun.getT_eq s)
set_option maxHeartbeats 0 in
theorem run (w : World) : HandSHeadRun.RunEq R (view R.prog [51]) hk ob 8000 names w := by
  intro os
  kernel_rfl
theorem joined {P : Program} {w : World} {K : PySem.W.Frag} {h : Heap} {mg : PySem.Str → Option Value} (X : K.In h) (G : h.Ns mainGlobals mg) (c : HeadG.SaysP fa fn ex K) :
    ∃ fd : FuncData, (∀ (s : Shared) (v : Value), BindsTo s fd ⟨[v], []⟩ [("_law_script", v)]) ∧ ∀ base : Heap, FnOk P w K mg base CX0 10 (He.ga K "law") fd ["_law_script"] (spLaw K) := by
  letI ki : KOf := ⟨K, P, w⟩
  obtain ⟨fd_law_off, D_law_off⟩ := c.d.def_ 0 (d := dd_law_off) rfl
  have F_law_off : Fun K "_law_off" "_law_off" Gh2.s_law_off (He.ga K "_law_off") fd_law_off := HeadG.funD_fun D_law_off
  have b_law_off : Binds K fd_law_off ["_law_d", "_law_most"] [] := FunD.bindsN D_law_off fun _ _ _ _ _ _ us hl => match us, hl with | [_, _], _ => rfl
  obtain ⟨fd_law_dice, D_law_dice⟩ := c.d.def_ 1 (d := dd_law_dice) rfl
  have F_law_dice : Fun K "_law_dice" "_law_dice" Gh2.s_law_dice (He.ga K "_law_dice") fd_law_dice := HeadG.funD_fun D_law_dice
  have b_law_dice : Binds K fd_law_dice ["_law_script", "_law_k"] [] := FunD.bindsN D_law_dice fun _ _ _ _ _ _ us hl => match us, hl with | [_, _], _ => rfl
  obtain ⟨fd_law_alike, D_law_alike⟩ := c.d.def_ 2 (d := dd_law_alike) rfl
  have F_law_alike : Fun K "_law_alike" "_law_alike" s_law_alike (He.ga K "_law_alike") fd_law_alike := HeadG.funD_fun D_law_alike
  have b_law_alike : Binds K fd_law_alike ["_law_found", "_law_due"] [] := FunD.bindsN D_law_alike fun _ _ _ _ _ _ us hl => match us, hl with | [_, _], _ => rfl
  obtain ⟨fd_replaced, D_replaced⟩ := c.d.def_ 3 (d := dd_replaced) rfl
  have F_replaced : Fun K "replaced" "replaced" s_replaced (He.ga K "replaced") fd_replaced := HeadG.funD_fun D_replaced
  have b_replaced : Binds K fd_replaced ["numbers", "at", "number"] [] := FunD.bindsN D_replaced fun _ _ _ _ _ _ us hl => match us, hl with | [_, _, _], _ => rfl
  obtain ⟨fd_Gate_many, D_Gate_many⟩ := c.d.def_ 4 (d := dd_Gate_many) rfl
  have F_Gate_many : Fun K "many" "Gate.many" s_Gate_many (He.ma K (He.ga K "Gate") "many") fd_Gate_many := HeadG.funD_fun D_Gate_many
  have b_Gate_many : Binds K fd_Gate_many ["self"] [] := FunD.bindsN D_Gate_many fun _ _ _ _ _ _ us hl => match us, hl with | [_], _ => rfl
  obtain ⟨fd_begin, D_begin⟩ := c.d.def_ 5 (d := dd_begin) rfl
  have F_begin : Fun K "begin" "begin" s_begin (He.ga K "begin") fd_begin := HeadG.funD_fun D_begin
  have b_begin : Binds K fd_begin ["gate"] [] := FunD.bindsN D_begin fun _ _ _ _ _ _ us hl => match us, hl with | [_], _ => rfl
  obtain ⟨fd_within, D_within⟩ := c.d.def_ 6 (d := dd_within) rfl
  have F_within : Fun K "within" "within" s_within (He.ga K "within") fd_within := HeadG.funD_fun D_within
  have b_within : Binds K fd_within ["gate", "state"] [] := FunD.bindsN D_within fun _ _ _ _ _ _ us hl => match us, hl with | [_, _], _ => rfl
  obtain ⟨fd_can_be_put, D_can_be_put⟩ := c.d.def_ 7 (d := dd_can_be_put) rfl
  have F_can_be_put : Fun K "can_be_put" "can_be_put" s_can_be_put (He.ga K "can_be_put") fd_can_be_put := HeadG.funD_fun D_can_be_put
  have b_can_be_put : Binds K fd_can_be_put ["boxes", "box", "number"] [] := FunD.bindsN D_can_be_put fun _ _ _ _ _ _ us hl => match us, hl with | [_, _, _], _ => rfl
  obtain ⟨fd_can_be_read, D_can_be_read⟩ := c.d.def_ 8 (d := dd_can_be_read) rfl
  have F_can_be_read : Fun K "can_be_read" "can_be_read" s_can_be_read (He.ga K "can_be_read") fd_can_be_read := HeadG.funD_fun D_can_be_read
  have b_can_be_read : Binds K fd_can_be_read ["boxes", "box", "numbers"] [] := FunD.bindsN D_can_be_read fun _ _ _ _ _ _ us hl => match us, hl with | [_, _, _], _ => rfl
  obtain ⟨fd_can_be_step, D_can_be_step⟩ := c.d.def_ 9 (d := dd_can_be_step) rfl
  have F_can_be_step : Fun K "can_be_step" "can_be_step" s_can_be_step (He.ga K "can_be_step") fd_can_be_step := HeadG.funD_fun D_can_be_step
  have b_can_be_step : Binds K fd_can_be_step ["boxes", "many", "step"] [] := FunD.bindsN D_can_be_step fun _ _ _ _ _ _ us hl => match us, hl with | [_, _, _], _ => rfl
  obtain ⟨fd_places_of_in, D_places_of_in⟩ := c.d.def_ 10 (d := dd_places_of_in) rfl
  have F_places_of_in : Fun K "places_of_in" "places_of_in" s_places_of_in (He.ga K "places_of_in") fd_places_of_in := HeadG.funD_fun D_places_of_in
  have b_places_of_in : Binds K fd_places_of_in ["steps"] [] := FunD.bindsN D_places_of_in fun _ _ _ _ _ _ us hl => match us, hl with | [_], _ => rfl
  obtain ⟨fd_check_program, D_check_program⟩ := c.d.def_ 11 (d := dd_check_program) rfl
  have F_check_program : Fun K "check_program" "check_program" s_check_program (He.ga K "check_program") fd_check_program := HeadG.funD_fun D_check_program
  have b_check_program : Binds K fd_check_program ["boxes", "hand", "steps"] [] := FunD.bindsN D_check_program fun _ _ _ _ _ _ us hl => match us, hl with | [_, _, _], _ => rfl
  obtain ⟨fd_check_knock, D_check_knock⟩ := c.d.def_ 12 (d := dd_check_knock) rfl
  have F_check_knock : Fun K "check_knock" "check_knock" s_check_knock (He.ga K "check_knock") fd_check_knock := HeadG.funD_fun D_check_knock
  have b_check_knock : Binds K fd_check_knock ["hand", "knock", "steps"] [] := FunD.bindsN D_check_knock fun _ _ _ _ _ _ us hl => match us, hl with | [_, _, _], _ => rfl
  obtain ⟨fd_check_boxes, D_check_boxes⟩ := c.d.def_ 13 (d := dd_check_boxes) rfl
  have F_check_boxes : Fun K "check_boxes" "check_boxes" s_check_boxes (He.ga K "check_boxes") fd_check_boxes := HeadG.funD_fun D_check_boxes
  have b_check_boxes : Binds K fd_check_boxes ["boxes"] [] := FunD.bindsN D_check_boxes fun _ _ _ _ _ _ us hl => match us, hl with | [_], _ => rfl
  obtain ⟨fd_check_hands, D_check_hands⟩ := c.d.def_ 14 (d := dd_check_hands) rfl
  have F_check_hands : Fun K "check_hands" "check_hands" s_check_hands (He.ga K "check_hands") fd_check_hands := HeadG.funD_fun D_check_hands
  have b_check_hands : Binds K fd_check_hands ["boxes", "hands"] [] := FunD.bindsN D_check_hands fun _ _ _ _ _ _ us hl => match us, hl with | [_, _], _ => rfl
  obtain ⟨fd_Gate_init, D_Gate_init⟩ := c.d.def_ 15 (d := dd_Gate_init) rfl
  have F_Gate_init : Fun K "__init__" "Gate.__init__" s_Gate_init (He.ma K (He.ga K "Gate") "__init__") fd_Gate_init := HeadG.funD_fun D_Gate_init
  have b_Gate_init : Binds K fd_Gate_init ["self", "boxes", "hands"] [] := FunD.bindsN D_Gate_init fun _ _ _ _ _ _ us hl => match us, hl with | [_, _, _], _ => rfl
  obtain ⟨fd_check_hand, D_check_hand⟩ := c.d.def_ 16 (d := dd_check_hand) rfl
  have F_check_hand : Fun K "check_hand" "check_hand" s_check_hand (He.ga K "check_hand") fd_check_hand := HeadG.funD_fun D_check_hand
  have b_check_hand : Binds K fd_check_hand ["gate", "hand"] [] := FunD.bindsN D_check_hand fun _ _ _ _ _ _ us hl => match us, hl with | [_, _], _ => rfl
  obtain ⟨fd_done, D_done⟩ := c.d.def_ 17 (d := dd_done) rfl
  have F_done : Fun K "done" "done" s_done (He.ga K "done") fd_done := HeadG.funD_fun D_done
  have b_done : Binds K fd_done ["gate", "state", "hand"] [] := FunD.bindsN D_done fun _ _ _ _ _ _ us hl => match us, hl with | [_, _, _], _ => rfl
  obtain ⟨fd_many_choices, D_many_choices⟩ := c.d.def_ 18 (d := dd_many_choices) rfl
  have F_many_choices : Fun K "many_choices" "many_choices" s_many_choices (He.ga K "many_choices") fd_many_choices := HeadG.funD_fun D_many_choices
  have b_many_choices : Binds K fd_many_choices ["parts"] [] := FunD.bindsN D_many_choices fun _ _ _ _ _ _ us hl => match us, hl with | [_], _ => rfl
  obtain ⟨fd_choices, D_choices⟩ := c.d.def_ 19 (d := dd_choices) rfl
  have F_choices : Fun K "choices" "choices" s_choices (He.ga K "choices") fd_choices := HeadG.funD_fun D_choices
  have b_choices : Binds K fd_choices ["parts"] [] := FunD.bindsN D_choices fun _ _ _ _ _ _ us hl => match us, hl with | [_], _ => rfl
  obtain ⟨fd_law_is, D_law_is⟩ := c.d.def_ 20 (d := dd_law_is) rfl
  have F_law_is : Fun K "_law_is" "_law_is" s_law_is (He.ga K "_law_is") fd_law_is := HeadG.funD_fun D_law_is
  have b_law_is : Binds K fd_law_is ["_law_e", "_law_word"] [] := FunD.bindsN D_law_is fun _ _ _ _ _ _ us hl => match us, hl with | [_, _], _ => rfl
  obtain ⟨fd_Gate_boxes, D_Gate_boxes⟩ := c.d.def_ 21 (d := dd_Gate_boxes) rfl
  have F_Gate_boxes : Fun K "boxes" "Gate.boxes" s_Gate_boxes (He.ma K (He.ga K "Gate") "boxes") fd_Gate_boxes := HeadG.funD_fun D_Gate_boxes
  have b_Gate_boxes : Binds K fd_Gate_boxes ["self"] [] := FunD.bindsN D_Gate_boxes fun _ _ _ _ _ _ us hl => match us, hl with | [_], _ => rfl
  obtain ⟨fd_states_alone, D_states_alone⟩ := c.d.def_ 22 (d := dd_states_alone) rfl
  have F_states_alone : Fun K "states_alone" "states_alone" s_states_alone (He.ga K "states_alone") fd_states_alone := HeadG.funD_fun D_states_alone
  have b_states_alone : Binds K fd_states_alone ["gate", "hand"] [] := FunD.bindsN D_states_alone fun _ _ _ _ _ _ us hl => match us, hl with | [_, _], _ => rfl
  obtain ⟨fd_steps_ahead_of_put, D_steps_ahead_of_put⟩ := c.d.def_ 23 (d := dd_steps_ahead_of_put) rfl
  have F_steps_ahead_of_put : Fun K "steps_ahead_of_put" "steps_ahead_of_put" s_steps_ahead_of_put (He.ga K "steps_ahead_of_put") fd_steps_ahead_of_put := HeadG.funD_fun D_steps_ahead_of_put
  have b_steps_ahead_of_put : Binds K fd_steps_ahead_of_put ["gate", "states"] [] := FunD.bindsN D_steps_ahead_of_put fun _ _ _ _ _ _ us hl => match us, hl with | [_, _], _ => rfl
  obtain ⟨fd_breaker, D_breaker⟩ := c.d.def_ 24 (d := dd_breaker) rfl
  have F_breaker : Fun K "breaker" "breaker" s_breaker (He.ga K "breaker") fd_breaker := HeadG.funD_fun D_breaker
  have b_breaker : Binds K fd_breaker ["gate"] [] := FunD.bindsN D_breaker fun _ _ _ _ _ _ us hl => match us, hl with | [_], _ => rfl
  obtain ⟨fd_steps_tried, D_steps_tried⟩ := c.d.def_ 25 (d := dd_steps_tried) rfl
  have F_steps_tried : Fun K "steps_tried" "steps_tried" s_steps_tried (He.ga K "steps_tried") fd_steps_tried := HeadG.funD_fun D_steps_tried
  have b_steps_tried : Binds K fd_steps_tried ["most", "ahead", "after"] [] := FunD.bindsN D_steps_tried fun _ _ _ _ _ _ us hl => match us, hl with | [_, _, _], _ => rfl
  obtain ⟨fd_twins, D_twins⟩ := c.d.def_ 26 (d := dd_twins) rfl
  have F_twins : Fun K "twins" "twins" s_twins (He.ga K "twins") fd_twins := HeadG.funD_fun D_twins
  have b_twins : Binds K fd_twins ["most", "steps"] [] := FunD.bindsN D_twins fun _ _ _ _ _ _ us hl => match us, hl with | [_, _], _ => rfl
  obtain ⟨fd_tries, D_tries⟩ := c.d.def_ 27 (d := dd_tries) rfl
  have F_tries : Fun K "tries" "tries" s_tries (He.ga K "tries") fd_tries := HeadG.funD_fun D_tries
  have b_tries : Binds K fd_tries ["most", "ahead", "after"] [] := FunD.bindsN D_tries fun _ _ _ _ _ _ us hl => match us, hl with | [_, _, _], _ => rfl
  obtain ⟨fd_law_goes_alone, D_law_goes_alone⟩ := c.d.def_ 28 (d := dd_law_goes_alone) rfl
  have F_law_goes_alone : Fun K "_law_goes_alone" "_law_goes_alone" s_law_goes_alone (He.ga K "_law_goes_alone") fd_law_goes_alone := HeadG.funD_fun D_law_goes_alone
  have b_law_goes_alone : Binds K fd_law_goes_alone ["_law_most", "_law_steps"] [] := FunD.bindsN D_law_goes_alone fun _ _ _ _ _ _ us hl => match us, hl with | [_, _], _ => rfl
  obtain ⟨fd_law_every, D_law_every⟩ := c.d.def_ 29 (d := dd_law_every) rfl
  have F_law_every : Fun K "_law_every" "_law_every" s_law_every (He.ga K "_law_every") fd_law_every := HeadG.funD_fun D_law_every
  have b_law_every : Binds K fd_law_every ["_law_most", "_law_ahead"] [] := FunD.bindsN D_law_every fun _ _ _ _ _ _ us hl => match us, hl with | [_, _], _ => rfl
  obtain ⟨fd_law_refused, D_law_refused⟩ := c.d.def_ 30 (d := dd_law_refused) rfl
  have F_law_refused : Fun K "_law_refused" "_law_refused" s_law_refused (He.ga K "_law_refused") fd_law_refused := HeadG.funD_fun D_law_refused
  have b_law_refused : Binds K fd_law_refused ["_law_most", "_law_ahead", "_law_after"] [] := FunD.bindsN D_law_refused fun _ _ _ _ _ _ us hl => match us, hl with | [_, _, _], _ => rfl
  obtain ⟨fd_law, D_law⟩ := c.d.def_ 31 (d := dd_law) rfl
  have F_law : Fun K "law" "law" s_law (He.ga K "law") fd_law := HeadG.funD_fun D_law
  have b_law : Binds K fd_law ["_law_script"] [] := FunD.bindsN D_law fun _ _ _ _ _ _ us hl => match us, hl with | [_], _ => rfl
  refine ⟨fd_law, fun s v => FunD.bindsA (ps := ["_law_script"]) D_law (fun _ _ _ _ _ _ us hl => match us, hl with | [_], _ => rfl) s [v] rfl, fun base => ?_⟩
  have T : Txt K mg (He.ga K "Gate") (He.ga K "Map") := { len := (He.free_ok X G (c.d.fact 1 (f := .free "len") rfl)), tuple := (He.free_ok X G (c.d.fact 2 (f := .free "tuple") rfl)), list := (He.free_ok X G (c.d.fact 3 (f := .free "list") rfl)), range := (He.free_ok X G (c.d.fact 4 (f := .free "range") rfl)), int := (He.free_ok X G (c.d.fact 5 (f := .free "int") rfl)), abs := (He.free_ok X G (c.d.fact 6 (f := .free "abs") rfl)), enumerate := (He.free_ok X G (c.d.fact 7 (f := .free "enumerate") rfl)), zip := (He.free_ok X G (c.d.fact 8 (f := .free "zip") rfl)), isinstance := (He.free_ok X G (c.d.fact 9 (f := .free "isinstance") rfl)), all := (He.free_ok X G (c.d.fact 10 (f := .free "all") rfl)), bool := (He.free_ok X G (c.d.fact 11 (f := .free "bool") rfl)), str := (He.free_ok X G (c.d.fact 12 (f := .free "str") rfl)), dict := (He.free_ok X G (c.d.fact 13 (f := .free "dict") rfl)), any := (He.free_ok X G (c.d.fact 14 (f := .free "any") rfl)), set := (He.free_ok X G (c.d.fact 15 (f := .free "set") rfl)), clGate := (He.cls_ok (c.d.fact 16 (f := .cls "Gate") rfl)), noGate_pairs := (He.noat_ok (c.d.fact 17 (f := .noat "Gate" "pairs") rfl)), noGate_programs := (He.noat_ok (c.d.fact 18 (f := .noat "Gate" "programs") rfl)), noGate_knocks := (He.noat_ok (c.d.fact 19 (f := .noat "Gate" "knocks") rfl)), noGate_insides := (He.noat_ok (c.d.fact 20 (f := .noat "Gate" "insides") rfl)), c_MOST_BOXES := (He.int_ok X G (c.d.fact 21 (f := .int "MOST_BOXES" 12) rfl)), c_MOST_IN_BOX := (He.int_ok X G (c.d.fact 22 (f := .int "MOST_IN_BOX" 9) rfl)), c_MOST_HANDS := (He.int_ok X G (c.d.fact 23 (f := .int "MOST_HANDS" 4) rfl)), c_FEWEST_STEPS := (He.int_ok X G (c.d.fact 24 (f := .int "FEWEST_STEPS" 2) rfl)), c_MOST_STEPS := (He.int_ok X G (c.d.fact 25 (f := .int "MOST_STEPS" 24) rfl)), c_MOST_TRIED := (He.int_ok X G (c.d.fact 26 (f := .int "MOST_TRIED" 9) rfl)), c_MOST_GATES := (He.int_ok X G (c.d.fact 27 (f := .int "MOST_GATES" 4096) rfl)), d_IN := (gB_ok X G (c.more 0 (b := gB "IN" (.tup [.str "in"])) rfl)), d_IDLE := (gB_ok X G (c.more 1 (b := gB "IDLE" (.tup [.str "go", .int 0, .tup [], .int 1])) rfl)) }
  have T2 : Gh2.Txt K mg := { len := (He.free_ok X G (c.d.fact 1 (f := .free "len") rfl)), tuple := (He.free_ok X G (c.d.fact 2 (f := .free "tuple") rfl)), list := (He.free_ok X G (c.d.fact 3 (f := .free "list") rfl)), range := (He.free_ok X G (c.d.fact 4 (f := .free "range") rfl)), int := (He.free_ok X G (c.d.fact 5 (f := .free "int") rfl)), abs := (He.free_ok X G (c.d.fact 6 (f := .free "abs") rfl)), enumerate := (He.free_ok X G (c.d.fact 7 (f := .free "enumerate") rfl)), zip := (He.free_ok X G (c.d.fact 8 (f := .free "zip") rfl)), isinstance := (He.free_ok X G (c.d.fact 9 (f := .free "isinstance") rfl)), all := (He.free_ok X G (c.d.fact 10 (f := .free "all") rfl)) }
  have G_law_off : Gd P w K mg base CX0 1 "_law_off" ["_law_d", "_law_most"] (spD 2 P_off) (He.ga K "_law_off") fd_law_off := ⟨Gh2.ok_law_off F_law_off T2, (He.glo_ok X G (c.d.fact 28 (f := .glo "_law_off") rfl)), F_law_off.kp, b_law_off⟩
  have G_law_alike : Gd P w K mg base CX0 6 "_law_alike" ["_law_found", "_law_due"] (spD 2 (P_alike 6)) (He.ga K "_law_alike") fd_law_alike := ⟨ok_law_alike F_law_alike T (He.glo_ok X G (c.d.fact 29 (f := .glo "_law_alike") rfl)) F_law_alike.kp b_law_alike 6, (He.glo_ok X G (c.d.fact 29 (f := .glo "_law_alike") rfl)), F_law_alike.kp, b_law_alike⟩
  have G_replaced : Gd P w K mg base CX0 1 "replaced" ["numbers", "at", "number"] (spD 3 PP_replaced) (He.ga K "replaced") fd_replaced := ⟨ok_replaced F_replaced T, (He.glo_ok X G (c.d.fact 30 (f := .glo "replaced") rfl)), F_replaced.kp, b_replaced⟩
  have G_Gate_many : Md P w K mg base CX0 1 (He.ga K "Gate") "many" ["self"] (spD 1 (PP_Gate_many (He.ga K "Gate"))) (He.ma K (He.ga K "Gate") "many") fd_Gate_many := ⟨ok_Gate_many F_Gate_many T, (He.meth_ok (c.d.fact 31 (f := .meth "Gate" "many") rfl)), b_Gate_many⟩
  have G_begin : Gd P w K mg base CX0 2 "begin" ["gate"] (spD 1 (PP_begin (He.ga K "Gate"))) (He.ga K "begin") fd_begin := ⟨ok_begin F_begin T G_Gate_many, (He.glo_ok X G (c.d.fact 32 (f := .glo "begin") rfl)), F_begin.kp, b_begin⟩
  have G_within : Gd P w K mg base CX0 1 "within" ["gate", "state"] (spD 2 (PP_within (He.ga K "Gate"))) (He.ga K "within") fd_within := ⟨ok_within F_within T, (He.glo_ok X G (c.d.fact 33 (f := .glo "within") rfl)), F_within.kp, b_within⟩
  have G_can_be_put : Gd P w K mg base CX0 1 "can_be_put" ["boxes", "box", "number"] (spD 3 PP_can_be_put) (He.ga K "can_be_put") fd_can_be_put := ⟨ok_can_be_put F_can_be_put T, (He.glo_ok X G (c.d.fact 34 (f := .glo "can_be_put") rfl)), F_can_be_put.kp, b_can_be_put⟩
  have G_can_be_read : Gd P w K mg base CX0 1 "can_be_read" ["boxes", "box", "numbers"] (spD 3 PP_can_be_read) (He.ga K "can_be_read") fd_can_be_read := ⟨ok_can_be_read F_can_be_read T, (He.glo_ok X G (c.d.fact 35 (f := .glo "can_be_read") rfl)), F_can_be_read.kp, b_can_be_read⟩
  have G_can_be_step : Gd P w K mg base CX0 2 "can_be_step" ["boxes", "many", "step"] (spD 3 PP_can_be_step) (He.ga K "can_be_step") fd_can_be_step := ⟨ok_can_be_step F_can_be_step T G_can_be_put G_can_be_read, (He.glo_ok X G (c.d.fact 36 (f := .glo "can_be_step") rfl)), F_can_be_step.kp, b_can_be_step⟩
  have G_places_of_in : Gd P w K mg base CX0 1 "places_of_in" ["steps"] (spD 1 PP_places_of_in) (He.ga K "places_of_in") fd_places_of_in := ⟨ok_places_of_in F_places_of_in T, (He.glo_ok X G (c.d.fact 37 (f := .glo "places_of_in") rfl)), F_places_of_in.kp, b_places_of_in⟩
  have G_check_program : Gd P w K mg base CX0 3 "check_program" ["boxes", "hand", "steps"] (spD 3 PP_check_program) (He.ga K "check_program") fd_check_program := ⟨ok_check_program F_check_program T G_can_be_step, (He.glo_ok X G (c.d.fact 38 (f := .glo "check_program") rfl)), F_check_program.kp, b_check_program⟩
  have G_check_knock : Gd P w K mg base CX0 2 "check_knock" ["hand", "knock", "steps"] (spD 3 PP_check_knock) (He.ga K "check_knock") fd_check_knock := ⟨ok_check_knock F_check_knock T G_places_of_in, (He.glo_ok X G (c.d.fact 39 (f := .glo "check_knock") rfl)), F_check_knock.kp, b_check_knock⟩
  have G_check_boxes : Gd P w K mg base CX0 1 "check_boxes" ["boxes"] (spD 1 PP_check_boxes) (He.ga K "check_boxes") fd_check_boxes := ⟨ok_check_boxes F_check_boxes T, (He.glo_ok X G (c.d.fact 40 (f := .glo "check_boxes") rfl)), F_check_boxes.kp, b_check_boxes⟩
  have G_check_hands : Gd P w K mg base CX0 4 "check_hands" ["boxes", "hands"] (spD 2 PP_check_hands) (He.ga K "check_hands") fd_check_hands := ⟨ok_check_hands F_check_hands T G_check_program G_check_knock, (He.glo_ok X G (c.d.fact 41 (f := .glo "check_hands") rfl)), F_check_hands.kp, b_check_hands⟩
  have G_Gate_init := ok_Gate_init F_Gate_init T G_check_boxes G_check_hands G_places_of_in
  obtain ⟨e1, e2, e3, e4⟩ := (He.exc_ok (c.d.fact 42 (f := .exc "NoHand") rfl))
  have G_check_hand : Gd P w K mg base (L2N.CX P w) 3 "check_hand" ["gate", "hand"] (spX 2 (PP_check_hand (He.ga K "Gate") (He.ga K "NoHand"))) (He.ga K "check_hand") fd_check_hand := ⟨ok_check_hand F_check_hand T (He.glo_ok X G (c.d.fact 43 (f := .glo "NoHand") rfl)) e1 e2 e3 e4 G_Gate_many, (He.glo_ok X G (c.d.fact 44 (f := .glo "check_hand") rfl)), F_check_hand.kp, b_check_hand⟩
  have OD := ok_done (mg := mg) (base := base) F_done T G_check_hand G_replaced
  have GX_done : Gd P w K mg base (L2N.CX P w) 4 "done" ["gate", "state", "hand"] (spX 3 (PP_done (He.ga K "Gate") (He.ga K "NoHand"))) (He.ga K "done") fd_done := ⟨OD, (He.glo_ok X G (c.d.fact 45 (f := .glo "done") rfl)), F_done.kp, b_done⟩
  have G_done : Gd P w K mg base CX0 4 "done" ["gate", "state", "hand"] (spD 3 (PP_done0 (He.ga K "Gate"))) (He.ga K "done") fd_done := ⟨(FnOk.calmN OD).imp fun vs H Q E z => done_calm z, (He.glo_ok X G (c.d.fact 45 (f := .glo "done") rfl)), F_done.kp, b_done⟩
  have G_many_choices : Gd P w K mg base CX0 1 "many_choices" ["parts"] (spD 1 PP_many_choicesD) (He.ga K "many_choices") fd_many_choices := ⟨ok_many_choices F_many_choices T, (He.glo_ok X G (c.d.fact 46 (f := .glo "many_choices") rfl)), F_many_choices.kp, b_many_choices⟩
  have G_choices : Gd P w K mg base CX0 1 "choices" ["parts"] (spD 1 PP_choicesD) (He.ga K "choices") fd_choices := ⟨ok_choices F_choices T, (He.glo_ok X G (c.d.fact 47 (f := .glo "choices") rfl)), F_choices.kp, b_choices⟩
  have ET : ETx mg ⟨He.ga K "BadGate", He.ga K "NoHand", He.ga K "TooMany", He.ga K "TwoWithin", He.ga K "OtherGate", He.ga K "BadText"⟩ := { x_BadGate := (He.glo_ok X G (c.d.fact 48 (f := .glo "BadGate") rfl)), x_NoHand := (He.glo_ok X G (c.d.fact 43 (f := .glo "NoHand") rfl)), x_TooMany := (He.glo_ok X G (c.d.fact 49 (f := .glo "TooMany") rfl)), x_TwoWithin := (He.glo_ok X G (c.d.fact 50 (f := .glo "TwoWithin") rfl)), x_OtherGate := (He.glo_ok X G (c.d.fact 51 (f := .glo "OtherGate") rfl)), x_BadText := (He.glo_ok X G (c.d.fact 52 (f := .glo "BadText") rfl)), ValueError := (He.free_ok X G (c.d.fact 53 (f := .free "ValueError") rfl)) }
  have C_other : IsC K ⟨He.ga K "BadGate", He.ga K "NoHand", He.ga K "TooMany", He.ga K "TwoWithin", He.ga K "OtherGate", He.ga K "BadText"⟩ (He.ga K "OtherGate") false false false false true false := { c := excCB_ok (c.more 9 (b := fun K => excCB K (He.ga K "OtherGate")) rfl), k_ValueError := (of_decide_eq_true (c.more 2 (b := fun K => decide (PySem.W.kitOne K (.ref (He.ga K "OtherGate")) (.type "ValueError") = some true)) rfl)), k_BadGate := (of_decide_eq_true (c.more 3 (b := fun K => decide (PySem.W.kitOne K (.ref (He.ga K "OtherGate")) (.ref (He.ga K "BadGate")) = some false)) rfl)), k_NoHand := (of_decide_eq_true (c.more 4 (b := fun K => decide (PySem.W.kitOne K (.ref (He.ga K "OtherGate")) (.ref (He.ga K "NoHand")) = some false)) rfl)), k_TooMany := (of_decide_eq_true (c.more 5 (b := fun K => decide (PySem.W.kitOne K (.ref (He.ga K "OtherGate")) (.ref (He.ga K "TooMany")) = some false)) rfl)), k_TwoWithin := (of_decide_eq_true (c.more 6 (b := fun K => decide (PySem.W.kitOne K (.ref (He.ga K "OtherGate")) (.ref (He.ga K "TwoWithin")) = some false)) rfl)), k_OtherGate := (of_decide_eq_true (c.more 7 (b := fun K => decide (PySem.W.kitOne K (.ref (He.ga K "OtherGate")) (.ref (He.ga K "OtherGate")) = some true)) rfl)), k_BadText := (of_decide_eq_true (c.more 8 (b := fun K => decide (PySem.W.kitOne K (.ref (He.ga K "OtherGate")) (.ref (He.ga K "BadText")) = some false)) rfl)) }
  have F_law_is_other := ok_law_is_other (mg := mg) (base := base) (cG := He.ga K "Gate") (cM := He.ga K "Map") F_law_is T ET C_other
  have G_Gate_boxes : Md P w K mg base CX0 1 (He.ga K "Gate") "boxes" ["self"] (spF 1 (PP_Gate_boxes (He.ga K "Gate"))) (He.ma K (He.ga K "Gate") "boxes") fd_Gate_boxes := ⟨ok_Gate_boxes F_Gate_boxes T, (He.meth_ok (c.d.fact 54 (f := .meth "Gate" "boxes") rfl)), b_Gate_boxes⟩
  have G_states_alone : Gd P w K mg base CX0 5 "states_alone" ["gate", "hand"] (spF 2 (PP_states_alone (He.ga K "Gate"))) (He.ga K "states_alone") fd_states_alone := ⟨ok_states_alone F_states_alone T G_begin G_within G_done, (He.glo_ok X G (c.d.fact 55 (f := .glo "states_alone") rfl)), F_states_alone.kp, b_states_alone⟩
  have G_steps_ahead_of_put : Gd P w K mg base CX0 1 "steps_ahead_of_put" ["gate", "states"] (spD 2 (PP_steps_ahead (He.ga K "Gate"))) (He.ga K "steps_ahead_of_put") fd_steps_ahead_of_put := ⟨ok_steps_ahead_of_put F_steps_ahead_of_put T, (He.glo_ok X G (c.d.fact 56 (f := .glo "steps_ahead_of_put") rfl)), F_steps_ahead_of_put.kp, b_steps_ahead_of_put⟩
  have G_breaker : Gd P w K mg base CX0 6 "breaker" ["gate"] (spD 1 (PP_breaker (He.ga K "Gate"))) (He.ga K "breaker") fd_breaker := ⟨ok_breaker F_breaker T G_Gate_many G_Gate_boxes G_states_alone G_within G_steps_ahead_of_put, (He.glo_ok X G (c.d.fact 57 (f := .glo "breaker") rfl)), F_breaker.kp, b_breaker⟩
  have G_steps_tried : Gd P w K mg base CX0 1 "steps_tried" ["most", "ahead", "after"] (spD 3 PP_steps_tried) (He.ga K "steps_tried") fd_steps_tried := ⟨ok_steps_tried F_steps_tried T, (He.glo_ok X G (c.d.fact 58 (f := .glo "steps_tried") rfl)), F_steps_tried.kp, b_steps_tried⟩
  have G_twins : Gd P w K mg base CX0 7 "twins" ["most", "steps"] (spD 2 (PP_twins (He.ga K "Gate"))) (He.ga K "twins") fd_twins := ⟨ok_twins F_twins T (He.mkr_ok (c.d.fact 59 (f := .mkr "Gate") rfl)) (He.glo_ok X G (c.d.fact 60 (f := .glo "Gate") rfl)) G_Gate_init b_Gate_init, (He.glo_ok X G (c.d.fact 61 (f := .glo "twins") rfl)), F_twins.kp, b_twins⟩
  have G_tries : Gd P w K mg base CX0 8 "tries" ["most", "ahead", "after"] (spD 3 PP_tries) (He.ga K "tries") fd_tries := ⟨ok_tries F_tries T G_steps_tried G_many_choices G_choices G_twins G_breaker, (He.glo_ok X G (c.d.fact 62 (f := .glo "tries") rfl)), F_tries.kp, b_tries⟩
  obtain ⟨m1, m2, m3, m4⟩ := (He.exc_ok (c.d.fact 63 (f := .exc "OtherGate") rfl))
  have GX_tries : Gd P w K mg base (L2N.CX P w) 8 "tries" ["most", "ahead", "after"] (spX 3 (PP_triesX (He.ga K "OtherGate"))) (He.ga K "tries") fd_tries := ⟨ok_triesX (ea := ⟨He.ga K "BadGate", He.ga K "NoHand", He.ga K "TooMany", He.ga K "TwoWithin", He.ga K "OtherGate", He.ga K "BadText"⟩) F_tries T (He.glo_ok X G (c.d.fact 51 (f := .glo "OtherGate") rfl)) m1 m2 m3 m4 G_steps_tried G_many_choices G_choices G_twins G_breaker, (He.glo_ok X G (c.d.fact 62 (f := .glo "tries") rfl)), F_tries.kp, b_tries⟩
  have G_law_goes_alone : Gd P w K mg base CX0 1 "_law_goes_alone" ["_law_most", "_law_steps"] (spD 2 P_goes_alone) (He.ga K "_law_goes_alone") fd_law_goes_alone := ⟨ok_law_goes_alone F_law_goes_alone T, (He.glo_ok X G (c.d.fact 64 (f := .glo "_law_goes_alone") rfl)), F_law_goes_alone.kp, b_law_goes_alone⟩
  have G_law_every : Gd P w K mg base CX0 1 "_law_every" ["_law_most", "_law_ahead"] (spD 2 P_every) (He.ga K "_law_every") fd_law_every := ⟨ok_law_every F_law_every T, (He.glo_ok X G (c.d.fact 65 (f := .glo "_law_every") rfl)), F_law_every.kp, b_law_every⟩
  have G_law_refused : Gd P w K mg base CX0 9 "_law_refused" ["_law_most", "_law_ahead", "_law_after"] (spD 3 P_refusedT) (He.ga K "_law_refused") fd_law_refused := ⟨ok_law_refused (ea := ⟨He.ga K "BadGate", He.ga K "NoHand", He.ga K "TooMany", He.ga K "TwoWithin", He.ga K "OtherGate", He.ga K "BadText"⟩) F_law_refused T GX_tries (He.glo_ok X G (c.d.fact 66 (f := .glo "GateError") rfl)) (He.exm_ok (c.d.fact 67 (f := .exm "OtherGate" "GateError" true) rfl)) F_law_is_other (He.glo_ok X G (c.d.fact 68 (f := .glo "_law_is") rfl)) F_law_is.kp b_law_is, (He.glo_ok X G (c.d.fact 69 (f := .glo "_law_refused") rfl)), F_law_refused.kp, b_law_refused⟩
  have G_dice : Gd P w K mg base CX0 1 "_law_dice" ["_law_script", "_law_k"] (spDice K) (He.ga K "_law_dice") fd_law_dice := ⟨Gh2.ok_law_dice F_law_dice T2, (He.glo_ok X G (c.d.fact 70 (f := .glo "_law_dice") rfl)), F_law_dice.kp, b_law_dice⟩
  exact ok_law F_law T G_law_off G_law_every G_law_goes_alone G_law_alike G_tries G_law_refused G_dice
end Gh
open PySem PySem.W PySem.Calls PyProof.Rows
theorem PySem.Challenge.cw_gatehands_k15_small_tries_counted_holds : PySem.Challenge.rw_gatehands_k15_small_tries_counted.Holds := by
  w_on; o_law
  refine HandSHeadRun.head_any (r := OpenLaw.row PySem.Challenge.rw_gatehands_k15_small_tries_counted) (q := view (OpenLaw.row PySem.Challenge.rw_gatehands_k15_small_tries_counted).prog [51]) (H := Gh.hk) (ob := Gh.ob) (M := 8000) (loose := Gh.names) (d := HandSHeadRun.topDef (OpenLaw.row PySem.Challenge.rw_gatehands_k15_small_tries_counted).prog 51) (kwd := []) Gh.ob_eq
    (by kernel_rfl) (fun s => by kernel_rfl) Gh.run (by kernel_rfl) (by kernel_rfl) (by kernel_rfl) (by rfl) (by first | assumption | decide +kernel) (by decide +kernel) ⟨rfl, rfl, rfl, rfl, rfl, by decide +kernel⟩ ?hw ?hc
  case hw => w_witness2
  case hc =>
    refine L2.walk_ofE (l := PySem.Challenge.rw_gatehands_k15_small_tries_counted) (n := 63) (k := 10) (x := "_law_script") (CX := L2.CX0) rfl (by decide) (by kernel_rfl) ⟨rfl, by decide, by decide⟩ ?F (fun _ _ _ _ z => z)
    intro w mg fa h Y G hmg0
    obtain ⟨K, KX, c⟩ := Y
    have hmg : mg ("law" : PySem.Str) = some (.ref fa) := by
      have e : (HandSHeadRun.topDef (OpenLaw.row PySem.Challenge.rw_gatehands_k15_small_tries_counted).prog 51).name = ("law" : PySem.Str) := by kernel_rfl
      rw [← e]
      exact hmg0
    obtain ⟨fd, hb, hF⟩ := Gh.joined (P := (PySem.Challenge.rw_gatehands_k15_small_tries_counted).prog) (w := w) KX G c
    have e := hmg.symm.trans (He.glo_ok KX G (c.d.fact 0 (f := .glo "law") rfl))
    cases e
    exact ⟨K, fd, Gh.spLaw K, KX, hb, fun H a ns hl _ hS => ⟨a, ns, rfl, hS, hl, fun _ => rfl⟩, fun base _ _ => hF base⟩

