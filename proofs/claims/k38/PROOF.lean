import PyProof.Rows.All
import Wide.All
import OpenK.AllK
import Wide.FinOn
import HandS.TupSets
import KE.KeyNested
import KE.KStateDown
import Lean
import HandS.ForMost
import HandS.Exc
import HandS.WordsExc
import HandS.Defaults
import HandS.Head0
import HandS.Head1
import HandS.Head2
import HandS.HeadEnd
import HandS.EndBits
import HandS.HeadHook1
import HandS.HeadHook2
import HandS.HeadHook4
import HandS.IsInst
import HandS.Property
import HandS.Conv
import HandS.SortInts
import PyProof.ReprRoads
import KE.GoesEnum
import PyProof.ReprLen
import PyProof.FitsInt
import HandS.SetFor
import HandS.Strs
import KE.SortCalls
import HandS.RaiseMore
import HandS.Rev
import HandS.TupAny
import HandS.TupLe
import HandS.Zip
import HandS.WideBits
import HandS.Wide
import HandS.OwnEq
import KE.KCallOwn
import HandS.Gcd
import PyProof.StrLawsRepr
import PyProof.NeData
import HandS.IterVal
import PyProof.Rows.SortShellAny
import HandS.Comp
import HandS.Flow
import HandS.More
import PyProof.EqAt
import PyProof.MeetsSeq2
import KE.KTupSum
import KE.GoesMore
import KE.GoesZip
import HandS.Walk
import HandS.Dict
import KE.KDictDisplayH
import HandS.NoneIn
import PySem.Challenge.RW_mintlots_k38_whole_full_purses_by_all_lo
set_option Elab.async false
set_option linter.all false
set_option maxRecDepth 100000
set_option maxHeartbeats 0
/-! tables of any power of two: the walk i -> 5 i + 1 meets each slot -/
namespace NT
open PySem L2
/-- 1 + 5 + 25 + .. -/
def gs : Nat → Nat
  | 0 => 0
  | n + 1 => 5 * gs n + 1
theorem gs_pow (n : Nat) : 5 ^ n = 4 * gs n + 1 := by
  induction n with
  | zero => rfl
  | succ n ih =>
    have e : gs (n + 1) = 5 * gs n + 1 := rfl
    rw [Nat.pow_succ, ih, e]
    omega
theorem gs_add (a : Nat) : ∀ d, gs (a + d) = gs a * 5 ^ d + gs d
  | 0 => by simp [gs]
  | d + 1 => by
    have e1 : gs (a + (d + 1)) = 5 * gs (a + d) + 1 := rfl
    have e2 : gs (d + 1) = 5 * gs d + 1 := rfl
    rw [e1, gs_add a d, e2, Nat.pow_succ, ← Nat.mul_assoc]
    generalize gs a * 5 ^ d = z
    omega
theorem gs_two (k : Nat) : gs (2 * k) = 2 * (gs k * (2 * gs k + 1)) := by
  rw [show 2 * k = k + k by omega, gs_add, gs_pow]
  generalize gs k = g
  rw [Nat.mul_add, Nat.mul_add, Nat.mul_one, Nat.mul_left_comm g 4 g, Nat.mul_left_comm g 2 g]
  generalize g * g = z
  omega
theorem gs_par (n : Nat) : gs n % 2 = n % 2 := by
  induction n with
  | zero => rfl
  | succ n ih =>
    have e : gs (n + 1) = 5 * gs n + 1 := rfl
    rw [e]
    omega
theorem odd_cop (e x : Nat) : Nat.Coprime (2 ^ e) (2 * x + 1) := by
  refine Nat.Coprime.pow_left e ?_
  show Nat.gcd 2 (2 * x + 1) = 1
  rw [Nat.gcd_rec]
  have : (2 * x + 1) % 2 = 1 := by omega
  rw [this]
  decide
theorem gs_dvd : ∀ e n, 2 ^ e ∣ gs n → 2 ^ e ∣ n
  | 0, n, _ => by simp
  | e + 1, n, h => by
    have h2 : 2 ∣ gs n := Nat.dvd_trans ⟨2 ^ e, by rw [Nat.pow_succ, Nat.mul_comm]⟩ h
    have hp := gs_par n
    obtain ⟨k, rfl⟩ : ∃ k, n = 2 * k := ⟨n / 2, by omega⟩
    rw [gs_two, Nat.pow_succ, Nat.mul_comm (2 ^ e) 2] at h
    have h3 := Nat.dvd_of_mul_dvd_mul_left (by decide) h
    have h4 := Nat.Coprime.dvd_of_dvd_mul_right (odd_cop e (gs k)) h3
    rw [Nat.pow_succ, Nat.mul_comm (2 ^ e) 2]
    exact Nat.mul_dvd_mul_left 2 (gs_dvd e k h4)
theorem gs_full : ∀ e, 2 ^ e ∣ gs (2 ^ e)
  | 0 => by simp
  | e + 1 => by
    rw [Nat.pow_succ, Nat.mul_comm (2 ^ e) 2, gs_two]
    exact Nat.mul_dvd_mul_left 2 (Nat.dvd_mul_right_of_dvd (gs_full e) _)
theorem pow5_cop (e k : Nat) : Nat.Coprime (2 ^ e) (5 ^ k) := Nat.Coprime.pow e k (by decide)
/-- a mask of a table that grows by fours -/
def Msk (m : Nat) : Prop := m = 7 ∨ m = 31 ∨ m = 127 ∨ m = 511 ∨ m = 2047 ∨ m = 8191
theorem Msk.pow {m : Nat} (h : Msk m) : ∃ e, m + 1 = 2 ^ e := by
  rcases h with e | e | e | e | e | e <;> subst e
  · exact ⟨3, rfl⟩
  · exact ⟨5, rfl⟩
  · exact ⟨7, rfl⟩
  · exact ⟨9, rfl⟩
  · exact ⟨11, rfl⟩
  · exact ⟨13, rfl⟩
theorem Msk.odd {m : Nat} (h : Msk m) : m % 2 = 1 := by
  rcases h with e | e | e | e | e | e <;> subst e <;> rfl
theorem Msk.le {m : Nat} (h : Msk m) : m ≤ 8191 := by
  rcases h with e | e | e | e | e | e <;> subst e <;> decide
theorem lcg_gs (m : Nat) : ∀ k, lcgN m k = gs k % (m + 1)
  | 0 => by simp [lcgN, gs]
  | k + 1 => by
    show (lcgN m k * 5 + 1) % (m + 1) = (5 * gs k + 1) % (m + 1)
    rw [lcg_gs m k, Nat.add_mod, Nat.mul_mod, Nat.mod_mod, ← Nat.mul_mod, ← Nat.add_mod, Nat.mul_comm]
theorem lcg_inj {m : Nat} (h : Msk m) {a b : Nat} (hab : a ≤ b) (hb : b ≤ m) (e : lcgN m a = lcgN m b) : a = b := by
  obtain ⟨t, ht⟩ := h.pow
  rw [lcg_gs, lcg_gs, ht] at e
  obtain ⟨d, rfl⟩ : ∃ d, b = a + d := ⟨b - a, by omega⟩
  have e0 : a + d = d + a := Nat.add_comm _ _
  rw [e0, gs_add] at e
  have h1 : 2 ^ t ∣ (gs d * 5 ^ a + gs a) - gs a := (Nat.dvd_of_mod_eq_zero (Nat.sub_mod_eq_zero_of_mod_eq e.symm))
  rw [Nat.add_sub_cancel] at h1
  have h2 := Nat.Coprime.dvd_of_dvd_mul_right (pow5_cop t a) h1
  have h3 := gs_dvd t d h2
  by_cases hd : d = 0
  · omega
  · have := Nat.le_of_dvd (by omega) h3
    omega
theorem lcg_hits {m : Nat} (h : Msk m) {j : Nat} (hj : j ≤ m) : ∃ b, b ≤ m ∧ lcgN m b = j := by
  refine Classical.byContradiction fun no => ?_
  have nd : ((List.range (m + 1)).map (lcgN m)).Nodup := by
    refine List.pairwise_map.mpr ((List.pairwise_lt_range (n := m + 1)).imp_of_mem fun {a b} ha hb hab e => ?_)
    have := lcg_inj h (Nat.le_of_lt hab) (Nat.le_of_lt_succ (List.mem_range.mp hb)) e
    omega
  have sub : ∀ x ∈ (List.range (m + 1)).map (lcgN m), x ∈ (List.range (m + 1)).erase j := fun x hx => by
    obtain ⟨b, hb, rfl⟩ := List.mem_map.mp hx
    have hb' := List.mem_range.mp hb
    refine (List.mem_erase_of_ne fun e => no ⟨b, by omega, e⟩).2 (List.mem_range.mpr ?_)
    rw [lcg_gs]
    exact Nat.mod_lt _ (Nat.succ_pos _)
  have q := L2.nat_nodup_len _ _ nd sub
  rw [List.length_map, List.length_range, List.length_erase_of_mem (List.mem_range.mpr (by omega)), List.length_range] at q
  omega
theorem lcg_again {m : Nat} (h : Msk m) (k : Nat) : lcgN m (m + 1 + k) = lcgN m k := by
  obtain ⟨t, ht⟩ := h.pow
  rw [lcg_gs, lcg_gs, ht, gs_add]
  obtain ⟨z, hz⟩ := gs_full t
  rw [hz, Nat.mul_assoc, Nat.mul_add_mod]
theorem walk_all {m : Nat} (h : Msk m) {i j : Nat} (hi : i ≤ m) (hj : j ≤ m) : ∃ k, k ≤ m ∧ lcgI m i k = j := by
  obtain ⟨a, ha, rfl⟩ := lcg_hits h hi
  obtain ⟨b, hb, rfl⟩ := lcg_hits h hj
  by_cases c : a ≤ b
  · exact ⟨b - a, by omega, by rw [lcgN_add, show a + (b - a) = b by omega]⟩
  · exact ⟨b + (m + 1) - a, by omega, by rw [lcgN_add, show a + (b + (m + 1) - a) = m + 1 + b by omega, lcg_again h]⟩
/-- each slot begins a run in time -/
theorem run_at {m : Nat} (h : Msk m) (x : Int) {j : Nat} (hj : j ≤ m) : ∃ n, n ≤ m + 12 ∧ runI m (SetTable.bits x) n = j := by
  obtain ⟨k, hk, e⟩ := walk_all h (runI_le m (SetTable.bits x) 12) hj
  exact ⟨12 + k, by omega, (runI_tail (bits_lt x) k).trans e⟩
theorem way_at {m : Nat} (h : Msk m) (x : Int) {j : Nat} (hj : j ≤ m) : ∃ k, k < 10 * SetTable.turns m ∧ way m x k = j := by
  obtain ⟨n, hn, e⟩ := run_at h x hj
  obtain ⟨k, hk, e2⟩ := run_nth m (SetTable.bits x) n
  refine ⟨k, by unfold SetTable.turns; omega, ?_⟩
  show (nth m (runAt m (SetTable.bits x % (m + 1)) (SetTable.bits x)) k).j = j
  rw [e2]
  exact e
theorem way_in (m : Nat) (x : Int) (k : Nat) : way m x k ≤ m := by
  have hi : SetTable.bits x % (m + 1) ≤ m := Nat.le_of_lt_succ (Nat.mod_lt _ (Nat.succ_pos _))
  obtain ⟨r1, r2, _⟩ := runEnd_bd hi
  have q := nth_in (m := m) k (runAt m (SetTable.bits x % (m + 1)) (SetTable.bits x)) (by
    show SetTable.bits x % (m + 1) + (SetTable.runEnd m (SetTable.bits x % (m + 1)) - SetTable.bits x % (m + 1)) ≤ m
    omega)
  exact Nat.le_trans (Nat.le_add_right _ _) q
end NT

/-! a table whose entries are found by their hashes; putting in; laying anew -/
namespace NT
open PySem L2
/-- each entry stands on its hash's walk behind taken slots alone -/
structure Tab (t : SetTable) (hs : List Int) : Prop where
  ris : Ris t.place.toList
  nodum : t.dummies = #[]
  size : t.place.size = hs.length
  msk : Msk t.mask
  low : ∀ x ∈ t.place.toList, x ≤ t.mask
  found : ∀ (i : Nat) (h : Int) (j : Nat), hs[i]? = some h → t.place.toList[i]? = some j → ∃ k, way t.mask h k = j ∧ ∀ c, c < k → way t.mask h c ∈ t.place.toList
theorem Tab.fresh (f m : Nat) (l : Bool) : Tab (SetTable.fresh f m l) [] :=
  ⟨List.Pairwise.nil, rfl, rfl, (.inl rfl), (fun x hx => by cases hx), (fun i h j hi => by simp at hi)⟩
/-- where a walk stops -/
structure Stop (t : SetTable) (x : Int) (K : Nat) : Prop where
  few : K < 10 * SetTable.turns t.mask
  free : way t.mask x K ∉ t.place.toList
  taken : ∀ c, c < K → way t.mask x c ∈ t.place.toList
theorem Tab.stop {t : SetTable} {hs : List Int} (T : Tab t hs) (hl : hs.length ≤ t.mask) (x : Int) : ∃ K, Stop t x K := by
  have e1 : t.place.toList.length = hs.length := T.size
  obtain ⟨j, hj, no⟩ := st_missing t.place.toList (t.mask + 1) (by omega)
  obtain ⟨k, hk, e⟩ := way_at T.msk x (j := j) (by omega)
  obtain ⟨K, h1, h2, h3⟩ := st_least (p := fun k => way t.mask x k ∉ t.place.toList) k (fun z => no (e ▸ z))
  exact ⟨K, by omega, h2, fun c hc => Classical.not_not.1 (h3 c hc)⟩
/-- an entry with this hash is met ahead of the stop -/
theorem Tab.ahead {t : SetTable} {hs : List Int} (T : Tab t hs) {x : Int} {K i j : Nat} (S : Stop t x K) (hi : hs[i]? = some x) (hj : t.place.toList[i]? = some j) : ∃ k, k < K ∧ way t.mask x k = j := by
  obtain ⟨k, e, b⟩ := T.found i x j hi hj
  refine ⟨k, ?_, e⟩
  by_cases c : k < K
  · exact c
  · exfalso
    by_cases d : k = K
    · exact S.free (by rw [← d, e]; exact List.mem_of_getElem? hj)
    · exact S.free (b K (by omega))
theorem Tab.put {t : SetTable} {hs : List Int} (T : Tab t hs) {x : Int} {K p : Nat} (S : Stop t x K) (hp : SetTable.below t.place (way t.mask x K) = p) :
    ∃ t', t.put (way t.mask x K) = (t', p) ∧ p ≤ hs.length ∧ Tab t' (hs.take p ++ x :: hs.drop p) ∧ t'.mask = t.mask ∧ t'.led = t.led ∧ t'.plain = t.plain ∧ t'.fill = hs.length + 1 := by
  have hin := way_in t.mask x K
  have hfree := S.free
  have htak := S.taken
  generalize hj : way t.mask x K = j at hp hin hfree
  have e1 : t.place.toList.length = hs.length := T.size
  obtain ⟨b1, _, _⟩ := below_cut T.ris j
  rw [hp] at b1
  have pl : p ≤ t.place.toList.length := b1
  have ph : p ≤ hs.length := by omega
  have hne : t.place[SetTable.below t.place j]? ≠ some j := fun z => hfree (List.mem_of_getElem? ((Array.getElem?_toList ..).trans z))
  have pp := put_place t j
  rw [hp] at pp
  have psz : (t.put j).1.place.size = hs.length + 1 := by
    have := congrArg List.length pp
    rw [len_ins _ pl, e1] at this
    exact this
  have keep : ∀ {y}, y ∈ t.place.toList → y ∈ (t.put j).1.place.toList := fun {y} hy => by rw [pp]; exact mem_ins.2 (.inr hy)
  have e2 : (t.put j).2 = p := hp
  refine ⟨(t.put j).1, Prod.ext rfl e2, ph, ⟨ris_insert T.ris hne, put_dm T.nodum j, psz.trans (len_ins _ ph x).symm, T.msk, fun y hy => ?_, fun i h k h1 h2 => ?_⟩, rfl, rfl, rfl, ?_⟩
  · rw [pp] at hy
    rcases mem_ins.1 hy with z | z
    · exact z ▸ hin
    · exact T.low y z
  · rw [tins_get hs ph] at h1
    rw [pp, tins_get _ pl] at h2
    show ∃ c, way t.mask h c = k ∧ _
    have old : ∀ i', hs[i']? = some h → t.place.toList[i']? = some k → ∃ c, way t.mask h c = k ∧ ∀ d, d < c → way t.mask h d ∈ (t.put j).1.place.toList := fun i' a b => by
      obtain ⟨c, e, f⟩ := T.found i' h k a b
      exact ⟨c, e, fun d hd => keep (f d hd)⟩
    by_cases c : i < p
    · rw [if_pos c] at h1 h2
      exact old i h1 h2
    · rw [if_neg c] at h1 h2
      by_cases d : i = p
      · rw [if_pos d] at h1 h2
        cases h1
        cases h2
        exact ⟨K, hj, fun d hd => keep (htak d hd)⟩
      · rw [if_neg d] at h1 h2
        exact old (i - 1) h1 h2
  · show (t.put j).1.place.size + (t.put j).1.dummies.size = _
    rw [psz, put_dm T.nodum j]
    rfl
/-! laying anew -/
theorem seat {m : Nat} (h : Msk m) (owner : Array (Option Nat)) (x : Int) {j : Nat} (hj : j ≤ m) (hf : oAt owner j = none) :
    ∃ K, SetTable.layClean.free m owner (SetTable.turns m) (SetTable.bits x % (m + 1)) (SetTable.bits x) = some (way m x K) ∧ oAt owner (way m x K) = none ∧ ∀ c, c < K → oAt owner (way m x c) ≠ none := by
  obtain ⟨n, hn, e⟩ := run_at h x hj
  have hw : way m x (off m (SetTable.bits x % (m + 1)) (SetTable.bits x) n) = j := by
    show (nth m (runAt m (SetTable.bits x % (m + 1)) (SetTable.bits x)) (off m _ _ n)).j = j
    rw [nth_off, itL_run]
    exact e
  obtain ⟨K, k1, k2, k3⟩ := st_least (p := fun k => oAt owner (way m x k) = none) _ (show oAt owner (way m x (off m (SetTable.bits x % (m + 1)) (SetTable.bits x) n)) = none by rw [hw]; exact hf)
  refine ⟨K, free_spec m owner _ n _ _ K (by unfold SetTable.turns; omega) k1 (fun c hc => ?_) (Option.isNone_iff_eq_none.2 k2), k2, k3⟩
  have := k3 c hc
  cases z : oAt owner (nth m (runAt m (SetTable.bits x % (m + 1)) (SetTable.bits x)) c).j with
  | none => exact absurd z this
  | some _ => rfl
theorem seated {m : Nat} (h : Msk m) {done : List Int} {owner : Array (Option Nat)} (W : Own m done owner) (hl : done.length ≤ m) (x : Int) :
    ∃ j, SetTable.layClean.free m owner (SetTable.turns m) (SetTable.bits x % (m + 1)) (SetTable.bits x) = some j ∧ Own m (done ++ [x]) (owner.setIfInBounds j (some done.length)) := by
  obtain ⟨ps, hps, hin⟩ := W.ps
  obtain ⟨j0, h0, no⟩ := st_missing ps (m + 1) (by omega)
  have hf : oAt owner j0 = none := Classical.byContradiction fun z => no (hin j0 (by omega) z)
  obtain ⟨K, e1, e2, e3⟩ := seat h owner x (j := j0) (by omega) hf
  have hw := way_in m x K
  generalize hjj : way m x K = j at e1 e2 hw
  have hsz : j < owner.size := by rw [W.sz]; omega
  have self := oAt_set_self (some done.length) hsz
  have more : ∀ {i}, oAt owner i ≠ none → oAt (owner.setIfInBounds j (some done.length)) i ≠ none := fun {i} hi => by
    by_cases c : i = j
    · rw [c, self]; exact (fun z => nomatch z)
    · rw [oAt_set_ne _ c]; exact hi
  refine ⟨j, e1, ?_, fun i k hi e => ?_, fun k hk => ?_, j :: ps, by simp [hps], fun i hi e => ?_⟩
  · rw [Array.size_setIfInBounds, W.sz]
  · by_cases c : i = j
    · rw [c, self] at e
      cases e
      exact ⟨x, K, by simp, by rw [hjj, c], fun d hd => more (e3 d hd)⟩
    · rw [oAt_set_ne _ c] at e
      obtain ⟨y, L, a1, a2, a3⟩ := W.at_ i k hi e
      exact ⟨y, L, by rw [List.getElem?_append_left (List.getElem?_eq_some_iff.mp a1).1]; exact a1, a2, fun d hd => more (a3 d hd)⟩
  · rw [List.length_append, List.length_singleton] at hk
    by_cases c : k = done.length
    · exact ⟨j, hw, c ▸ self⟩
    · obtain ⟨i, hi, e⟩ := W.all k (by omega)
      refine ⟨i, hi, ?_⟩
      rw [oAt_set_ne _ (fun z => by rw [z, e2] at e; cases e)]
      exact e
  · by_cases c : i = j
    · simp [c]
    · rw [oAt_set_ne _ c] at e
      exact List.mem_cons_of_mem _ (hin i hi e)
theorem laid_all {m : Nat} (h : Msk m) : ∀ (rest done : List Int) (owner : Array (Option Nat)), Own m done owner → done.length + rest.length ≤ m →
    ∃ o', rest.foldl (stepF m) (some (owner, done.length)) = some (o', done.length + rest.length) ∧ Own m (done ++ rest) o' := by
  intro rest
  induction rest with
  | nil => exact fun done owner W _ => ⟨owner, rfl, by rw [List.append_nil]; exact W⟩
  | cons x rest ih =>
    intro done owner W hl
    rw [List.length_cons] at hl
    obtain ⟨j, e, W'⟩ := seated h W (by omega) x
    obtain ⟨o', f, W2⟩ := ih (done ++ [x]) _ W' (by simp; omega)
    refine ⟨o', ?_, by simpa using W2⟩
    rw [List.foldl_cons, stepF_some e]
    have el : (done ++ [x]).length = done.length + 1 := by simp
    rw [el] at f
    rw [f, List.length_cons]
    congr 2
    omega
theorem clean_ok {m : Nat} (h : Msk m) {hs : Array Int} (hn : hs.size ≤ m) : ∃ o, SetTable.layClean m hs = some o ∧ Own m hs.toList o := by
  obtain ⟨o, f, W⟩ := laid_all h hs.toList [] _ (Own.init m) (by simpa using hn)
  refine ⟨o, ?_, by simpa using W⟩
  rw [layClean_eq]
  have f' : hs.toList.foldl (stepF m) (some (Array.replicate (m + 1) none, 0)) = some (o, [].length + hs.toList.length) := f
  rw [f']
  rfl
theorem anew (t : SetTable) {hs : Array Int} {wanted m : Nat} (hw : SetTable.sizeAbove wanted - 1 = m) (h : Msk m) (hn : hs.size ≤ m) :
    ∃ t' order, t.relaid hs wanted = some (t', order) ∧ order.toList.Perm (List.range hs.size) ∧ Tab t' (order.toList.map fun i => hs.getD i 0) ∧ t'.mask = m ∧ t'.led = t.led ∧ t'.plain = t.plain := by
  obtain ⟨o, e, W⟩ := clean_ok h hn
  have hr : t.relaid hs wanted = some (tabOf t m o, ((liveOf m o).map (·.2)).toArray) := by rw [relaid_eq, hw, e]; rfl
  have ris := ris_live (fun j => o.getD j none) (List.range (m + 1)) List.pairwise_lt_range
  have r1 : Ris ((liveOf m o).map (·.1)) := ris.1
  have r2 : ∀ x ∈ (liveOf m o).map (·.1), x ∈ List.range (m + 1) := ris.2
  have rn : ((liveOf m o).map (·.1)).Nodup := List.Pairwise.imp (R := fun (a b : Nat) => a < b) (fun {a b} q => Nat.ne_of_lt q) r1
  have hlen : (liveOf m o).length = hs.size := by
    obtain ⟨ps, p1, p2⟩ := W.ps
    have a := L2.nat_nodup_len ((liveOf m o).map (·.1)) ps rn fun x hx => by
      obtain ⟨⟨y, k⟩, hq, rfl⟩ := List.mem_map.mp hx
      obtain ⟨b1, b2⟩ := (mem_live W.sz).1 hq
      exact p2 y b1 (by rw [b2]; exact (fun z => nomatch z))
    have b := L2.nat_nodup_len (List.range hs.size) ((liveOf m o).map (·.2)) List.nodup_range fun k hk => by
      obtain ⟨j, b1, b2⟩ := W.all k (by simpa using hk)
      exact List.mem_map.mpr ⟨(j, k), (mem_live W.sz).2 ⟨b1, b2⟩, rfl⟩
    rw [List.length_map, p1] at a
    rw [List.length_map, List.length_range] at b
    have hz : hs.toList.length = hs.size := rfl
    omega
  refine ⟨tabOf t m o, ((liveOf m o).map (·.2)).toArray, hr, perm_range hs.size _ (by simpa using hlen) (fun k hk => ?_), ⟨r1, rfl, ?_, h, fun x hx => ?_, fun i x j h1 h2 => ?_⟩, rfl, rfl, rfl⟩
  · obtain ⟨j, b1, b2⟩ := W.all k (by simpa using hk)
    exact List.mem_map.mpr ⟨(j, k), (mem_live W.sz).2 ⟨b1, b2⟩, rfl⟩
  · show ((liveOf m o).map (·.1)).toArray.size = _
    simp
  · have := List.mem_range.mp (r2 x hx)
    show x ≤ m
    omega
  · have h1' : (((liveOf m o).map (·.2)).map fun i => hs.getD i 0)[i]? = some x := h1
    have h2' : ((liveOf m o).map (·.1))[i]? = some j := h2
    rw [List.map_map, List.getElem?_map] at h1'
    rw [List.getElem?_map] at h2'
    obtain ⟨⟨y, k⟩, hq, ex⟩ := Option.map_eq_some_iff.1 h1'
    rw [hq] at h2'
    have ej : y = j := Option.some.inj h2'
    subst ej
    obtain ⟨b1, b2⟩ := (mem_live W.sz).1 (List.mem_of_getElem? hq)
    obtain ⟨x0, K, a1, a2, a3⟩ := W.at_ y k b1 b2
    have e0 : hs.getD k 0 = x0 := by rw [Array.getD_eq_getD_getElem?, ← Array.getElem?_toList, a1]; rfl
    have ex' : hs.getD k 0 = x := ex
    have exx : x0 = x := e0.symm.trans ex'
    subst exx
    refine ⟨K, a2, fun c hc => ?_⟩
    show way m x0 c ∈ (liveOf m o).map (·.1)
    cases z : oAt o (way m x0 c) with
    | none => exact absurd z (a3 c hc)
    | some q => exact List.mem_map.mpr ⟨(way m x0 c, q), (mem_live W.sz).2 ⟨way_in m x0 c, z⟩, rfl⟩
end NT

/-! sets of nested tuples of whole numbers, any number of them (to 4914) -/
namespace NT
open PySem PyProof.Rows L2
mutual
/-- no text anywhere -/
def numK : NestedKey → Bool
  | .none => true
  | .num _ => true
  | .text _ => false
  | .tup ks => numAll ks
def numAll : List NestedKey → Bool
  | [] => true
  | k :: ks => numK k && numAll ks
end
section
variable {P : Program} {w : World}
def HashBy (P : Program) (w : World) (n : Nat) (s : Shared) (v : Value) : Prop := ∀ (A : Around) (E : Value → Shared → Prop) (Q : Bool → Shared → Prop), Q true s → wpAny (model P w) A (hashByValue n v) Q E s
def NoClass (P : Program) (w : World) (n : Nat) (s : Shared) (v : Value) : Prop := ∀ (A : Around) (E : Value → Shared → Prop) (Q : Bool → Shared → Prop), Q false s → wpAny (model P w) A (ofAClassStatement n v) Q E s
theorem HashBy.tuple {n m : Nat} {s : Shared} {a : Addr} {o : Obj} {vs : Array Value} (ho : s.heap.get? a = some o) (hc : o.cls = .type "tuple") (hd : o.data = .seq vs m) (all : ∀ v ∈ vs.toList, HashBy P w n s v) : HashBy P w (n + 1) s (.ref a) := by
  intro A E Q q
  unfold hashByValue
  refine wpAny_bind (wpAny_specialOf ⟨o, ho, hc⟩ F.slot_tuple_hash.lookup ?_)
  show wpAny _ _ (seqItems? (.ref a) >>= _) _ _ s
  refine wpAny_bind (wpAny_seqItems ho hd (wpAny_bind ?_))
  show wpAny _ _ (forIn vs _ _) _ _ s
  rw [← Array.forIn_toList]
  refine wpAny_forIn_list _ (fun rest r s' => (r.1 = none ∧ s' = s) ∧ ∀ v ∈ rest, HashBy P w n s v) _ (fun v rest r s' z => ?_) (fun r s' z => ?_) _ _ ⟨⟨rfl, rfl⟩, all⟩
  · obtain ⟨⟨r1, rfl⟩, al⟩ := z
    refine wpAny_bind (al v List.mem_cons_self _ _ _ ?_)
    simp only [Bool.not_true, Bool.false_eq_true, if_false]
    exact wpAny_pure ⟨⟨rfl, rfl⟩, fun u hu => al u (List.mem_cons_of_mem _ hu)⟩
  · obtain ⟨r1, r2⟩ := r
    obtain ⟨⟨e, rfl⟩, _⟩ := z
    simp only at e
    subst e
    exact wpAny_pure q
theorem NoClass.tuple {n m : Nat} {s : Shared} {a : Addr} {o : Obj} {vs : Array Value} (ho : s.heap.get? a = some o) (hc : o.cls = .type "tuple") (hd : o.data = .seq vs m) (all : ∀ v ∈ vs.toList, NoClass P w n s v) : NoClass P w (n + 1) s (.ref a) := by
  intro A E Q q
  unfold ofAClassStatement
  refine wpAny_bind (wpAny_typeOf ⟨o, ho, hc⟩ ?_)
  dsimp only
  have e : (("tuple" : String) == "tuple") = true := by decide
  simp only [e, if_true, Bool.not_true, Bool.false_eq_true, if_false]
  try refine wpAny_bind (wpAny_pure ?_)
  try simp only [Bool.not_true, Bool.false_eq_true, if_false]
  show wpAny _ _ (seqItems? (.ref a) >>= _) _ _ s
  refine wpAny_bind (wpAny_seqItems ho hd ?_)
  dsimp only
  refine wpAny_bind ?_
  show wpAny _ _ (forIn vs _ _) _ _ s
  rw [← Array.forIn_toList]
  refine wpAny_forIn_list _ (fun rest r s' => (r.1 = none ∧ s' = s) ∧ ∀ v ∈ rest, NoClass P w n s v) _ (fun v rest r s' z => ?_) (fun r s' z => ?_) _ _ ⟨⟨rfl, rfl⟩, all⟩
  · obtain ⟨⟨r1, rfl⟩, al⟩ := z
    refine wpAny_bind (al v List.mem_cons_self _ _ _ ?_)
    simp only [Bool.false_eq_true, if_false]
    exact wpAny_pure ⟨⟨rfl, rfl⟩, fun u hu => al u (List.mem_cons_of_mem _ hu)⟩
  · obtain ⟨r1, r2⟩ := r
    obtain ⟨⟨e, rfl⟩, _⟩ := z
    simp only at e
    subst e
    exact wpAny_pure q
theorem hashBy_plain (n : Nat) : HashBy P w n s .none ∧ (∀ b, HashBy P w n s (.bool b)) ∧ ∀ i t, HashBy P w n s (.int i t) := by
  refine ⟨fun A E Q q => ?_, fun b A E Q q => ?_, fun i t A E Q q => ?_⟩ <;> cases n <;> (unfold hashByValue; exact wpAny_pure q)
theorem noClass_plain (n : Nat) : NoClass P w n s .none ∧ (∀ b, NoClass P w n s (.bool b)) ∧ ∀ i t, NoClass P w n s (.int i t) := by
  refine ⟨fun A E Q q => ?_, fun b A E Q q => ?_, fun i t A E Q q => ?_⟩ <;> cases n <;> (unfold ofAClassStatement; exact wpAny_pure q)
mutual
theorem hashBy_key : ∀ (k : NestedKey) (v : Value) (n : Nat) (s : Shared), NestedIs s.heap k v → numK k = true → k.depth ≤ n → HashBy P w n s v
  | .none, v, n, s, x, _, _ => by cases x; exact (hashBy_plain n).1
  | .num i, v, n, s, x, _, _ => by
    cases x with
    | bool _ => exact (hashBy_plain n).2.1 _
    | int _ _ => exact (hashBy_plain n).2.2 _ _
  | .text y, v, n, s, x, hk, _ => by cases hk
  | .tup ks, v, n, s, x, hk, hn => by
    cases x with
    | tup hg hc hd hi =>
      simp only [NestedKey.depth] at hn
      obtain ⟨n', rfl⟩ : ∃ n', n = n' + 1 := ⟨n - 1, by omega⟩
      exact .tuple hg hc hd (hashBy_keys ks _ n' s hi (by simpa [numK] using hk) (by omega))
theorem hashBy_keys : ∀ (ks : List NestedKey) (vs : List Value) (n : Nat) (s : Shared), NestedAll s.heap ks vs → numAll ks = true → NestedKey.depthAll ks ≤ n → ∀ v ∈ vs, HashBy P w n s v
  | [], vs, n, s, x, _, _ => by cases x; exact fun v hv => by cases hv
  | k :: ks, vs, n, s, x, hk, hn => by
    cases x with
    | cons x1 x2 =>
      simp only [NestedKey.depthAll] at hn
      rw [numAll, Bool.and_eq_true] at hk
      intro v hv
      rcases List.mem_cons.mp hv with e | hv
      · exact e ▸ hashBy_key k _ n s x1 hk.1 (by omega)
      · exact hashBy_keys ks _ n s x2 hk.2 (by omega) v hv
end
mutual
theorem noClass_key : ∀ (k : NestedKey) (v : Value) (n : Nat) (s : Shared), NestedIs s.heap k v → numK k = true → k.depth ≤ n → NoClass P w n s v
  | .none, v, n, s, x, _, _ => by cases x; exact (noClass_plain n).1
  | .num i, v, n, s, x, _, _ => by
    cases x with
    | bool _ => exact (noClass_plain n).2.1 _
    | int _ _ => exact (noClass_plain n).2.2 _ _
  | .text y, v, n, s, x, hk, _ => by cases hk
  | .tup ks, v, n, s, x, hk, hn => by
    cases x with
    | tup hg hc hd hi =>
      simp only [NestedKey.depth] at hn
      obtain ⟨n', rfl⟩ : ∃ n', n = n' + 1 := ⟨n - 1, by omega⟩
      exact .tuple hg hc hd (noClass_keys ks _ n' s hi (by simpa [numK] using hk) (by omega))
theorem noClass_keys : ∀ (ks : List NestedKey) (vs : List Value) (n : Nat) (s : Shared), NestedAll s.heap ks vs → numAll ks = true → NestedKey.depthAll ks ≤ n → ∀ v ∈ vs, NoClass P w n s v
  | [], vs, n, s, x, _, _ => by cases x; exact fun v hv => by cases hv
  | k :: ks, vs, n, s, x, hk, hn => by
    cases x with
    | cons x1 x2 =>
      simp only [NestedKey.depthAll] at hn
      rw [numAll, Bool.and_eq_true] at hk
      intro v hv
      rcases List.mem_cons.mp hv with e | hv
      · exact e ▸ noClass_key k _ n s x1 hk.1 (by omega)
      · exact noClass_keys ks _ n s x2 hk.2 (by omega) v hv
end
end
/-- the tuple at a is the key k -/
structure KeyAt (h : Heap) (k : NestedKey) (a : Addr) : Prop where
  is : NestedIs h k (.ref a)
  deep : k.depth ≤ 8
  num : numK k = true
section
variable {P : Program} {w : World} {A : Around} {E : Value → Shared → Prop} {s : Shared}
theorem KeyAt.of {h h' : Heap} {k : NestedKey} {a : Addr} (x : KeyAt h k a) (keep : ∀ b o vs n, h.get? b = some o → o.data = .seq vs n → h'.get? b = some o) : KeyAt h' k a := ⟨NestedIs.at keep k _ x.is, x.deep, x.num⟩
theorem KeyAt.inj {h : Heap} {k l : NestedKey} {a : Addr} (x : KeyAt h k a) (y : KeyAt h l a) : k = l := NestedIs.inj _ _ _ x.is y.is
theorem KeyAt.but {h h' : Heap} {k : NestedKey} {a b : Addr} {o : Obj} {es : Array (Int × Value)} {ep : Nat} {t : SetTable} (x : KeyAt h k b) (ho : h.get? a = some o) (hd : o.data = .set es ep t) (sb : Heap.SameBut a h h') : KeyAt h' k b :=
  x.of fun c u vs n hu hv => (sb.2 c fun e => by
    subst e
    cases ho.symm.trans hu
    rw [hd] at hv
    cases hv).trans hu
/-- a search among such keys shows nothing -/
theorem not_seen {k : NestedKey} {x : Addr} (hx : KeyAt s.heap k x) {ys : List Value} (hy : ∀ y ∈ ys, ∃ l c, y = Value.ref c ∧ KeyAt s.heap l c) {Q : Bool → Shared → Prop} (q : Q false s) : wpAny (model P w) A (searchCouldBeSeen (.ref x) ys) Q E s := by
  unfold searchCouldBeSeen
  refine wpAny_bind (wpAny_forIn_list _ (fun rest r s' => (r.1 = none ∧ s' = s) ∧ ∀ y ∈ rest, ∃ l c, y = Value.ref c ∧ KeyAt s.heap l c) _ (fun v rest r s' z => ?_) (fun r s' z => ?_) _ _ ⟨⟨rfl, rfl⟩, hy⟩)
  · obtain ⟨⟨_, rfl⟩, al⟩ := z
    have al' : ∀ y ∈ rest, ∃ l c, y = Value.ref c ∧ KeyAt s'.heap l c := fun u hu => al u (List.mem_cons_of_mem _ hu)
    obtain ⟨l, c, rfl, hc⟩ := al v List.mem_cons_self
    dsimp only
    by_cases hv : (x == c || (carriedByValue (.ref x) && carriedByValue (.ref c))) = true
    · exact wp_if_pos hv (wpAny_pure ⟨⟨rfl, rfl⟩, al'⟩)
    · refine wp_if_neg hv (wpAny_bind ((nestedKind P w).quiet ⟨hx.is, hx.deep⟩ ?_))
      simp only [Bool.not_true, Bool.false_eq_true, if_false]
      refine wpAny_bind ((nestedKind P w).quiet ⟨hc.is, hc.deep⟩ ?_)
      simp only [Bool.not_true, Bool.false_eq_true, if_false]
      refine wpAny_bind (noClass_key k _ 8 s' hx.is hx.num hx.deep _ _ _ ?_)
      simp only [Bool.false_eq_true, if_false]
      refine wpAny_bind (noClass_key l _ 8 s' hc.is hc.num hc.deep _ _ _ ?_)
      simp only [Bool.false_eq_true, if_false]
      exact wpAny_pure ⟨⟨rfl, rfl⟩, al'⟩
  · obtain ⟨r1, r2⟩ := r
    obtain ⟨⟨e, rfl⟩, _⟩ := z
    simp only at e
    subst e
    exact wpAny_pure q
end
/-- the set's entries -/
def ents (w : World) (L : List (Addr × NestedKey)) : List (Int × Value) := L.map fun p => (p.2.hash w, Value.ref p.1)
structure SetN (w : World) (h : Heap) (a : Addr) (L : List (Addr × NestedKey)) (es : Array (Int × Value)) (ep : Nat) (t : SetTable) : Prop where
  ob : ∃ o, h.get? a = some o ∧ o.ExactSet ∧ o.data = .set es ep t
  rows : es.toList = ents w L
  tab : Tab t (L.map fun p => p.2.hash w)
  nd : (L.map (·.2)).Nodup
  keys : ∀ p ∈ L, KeyAt h p.2 p.1
  plain : t.plain = true
  led : w.params.followText "set-order" = true ∨ t.led = true
  room : L.length * 5 < t.mask * 3
section
variable {P : Program} {w : World} {A : Around} {E : Value → Shared → Prop} {s : Shared} {h : Heap} {a : Addr} {L : List (Addr × NestedKey)} {es : Array (Int × Value)} {ep : Nat} {t : SetTable}
theorem ents_len (h : es.toList = ents w L) : es.size = L.length := by
  have := congrArg List.length h
  unfold ents at this
  rwa [Array.length_toList, List.length_map] at this
theorem SetN.size (R : SetN w h a L es ep t) : es.size = L.length := ents_len R.rows
theorem fits_of (hn : t.dummies = #[]) (h1 : t.place.size = es.size) (h2 : es.size ≤ t.mask) : t.fits es.size = true := by
  unfold SetTable.fits SetTable.fill
  rw [hn, h1]
  simp
  exact h2
theorem SetN.fits (R : SetN w h a L es ep t) : t.fits es.size = true := by
  have h1 := R.tab.size
  rw [List.length_map] at h1
  have h2 := R.size
  have h3 := R.room
  exact fits_of R.tab.nodum (by omega) (by omega)
theorem SetN.at (R : SetN w h a L es ep t) {i : Nat} {p : Addr × NestedKey} (hp : L[i]? = some p) : es[i]? = some (p.2.hash w, Value.ref p.1) := by
  rw [← Array.getElem?_toList, R.rows]
  unfold ents
  rw [List.getElem?_map, hp]
  rfl
theorem SetN.way_ok (R : SetN w h a L es ep t) : ¬ t.gaveWay = true := by
  unfold SetTable.gaveWay
  rw [R.tab.msk.odd]
  decide
theorem nth_dum (m : Nat) : ∀ (n : Nat) (p : SetTable.Probe), p.dummy = none → (nth m p n).dummy = none
  | 0, _, e => e
  | n + 1, p, e => nth_dum m n (adv m p) (by unfold adv; split <;> exact e)
/-- from the c-th step of the walk on -/
theorem search (R : SetN w s.heap a L es ep t) {x : Addr} {k : NestedKey} (hx : KeyAt s.heap k x) (hu : A.units + 8 < cLine) {K : Nat} (S : Stop t (k.hash w) K) {Q : SetFound → Shared → Prop}
    (hin : k ∈ L.map (·.2) → Q (.there none) s) (hout : k ∉ L.map (·.2) → Q (.free (way t.mask (k.hash w) K) false) s) :
    ∀ (f c : Nat) (stand : Option SetTable.Probe), stand.getD (t.probeStart (k.hash w)) = nth t.mask (runAt t.mask (SetTable.bits (k.hash w) % (t.mask + 1)) (SetTable.bits (k.hash w))) c → c ≤ K → K - c < f →
      (∀ (i : Nat) p, L[i]? = some p → p.2 = k → ∃ d, c ≤ d ∧ d < K ∧ t.place.toList[i]? = some (way t.mask (k.hash w) d)) →
      wpAny (model P w) A (setSearchFrom a (.ref x) (k.hash w) true f stand) Q E s := by
  obtain ⟨o, ho, hex, hd⟩ := R.ob
  generalize hst : runAt t.mask (SetTable.bits (k.hash w) % (t.mask + 1)) (SetTable.bits (k.hash w)) = st
  have hway : ∀ d, (nth t.mask st d).j = way t.mask (k.hash w) d := fun d => by rw [← hst]
  have hsd : st.dummy = none := by rw [← hst]; rfl
  intro f
  induction f with
  | zero => exact fun c stand _ _ z => absurd z (Nat.not_lt_zero _)
  | succ f ih =>
    intro c stand est hc hf left
    rw [setSearchFrom_succ]
    refine wpAny_bind (wpAny_setState_of ho hd R.fits ?_)
    dsimp only
    refine wp_if_neg R.way_ok ?_
    try refine wpAny_bind (wpAny_pure ?_)
    have shift : ∀ q, nth t.mask (nth t.mask st c) q = nth t.mask st (c + q) := fun q => (nth_add t.mask c st q).symm
    have wj : ∀ q, (nth t.mask (nth t.mask st c) q).j = way t.mask (k.hash w) (c + q) := fun q => by rw [shift, hway]
    have hashes : ∀ (i : Nat) p, L[i]? = some p → (es[i]?.map (·.1)).getD 0 = p.2.hash w := fun i p hp => by rw [R.at hp]; rfl
    rcases go_spec t R.tab.ris R.tab.nodum (fun i => (es[i]?.map (·.1)).getD 0) (k.hash w) (10 * SetTable.turns t.mask) (K - c) (nth t.mask st c) (nth_dum _ c st hsd) (by have := S.few; omega)
      (fun q hq => by rw [wj]; exact S.taken _ (by omega)) (by rw [wj, show c + (K - c) = K by omega]; exact S.free) with ⟨q, i, hq, hi, hh, hno, hpr⟩ | ⟨hno, hpr⟩
    · have hpr' : t.probe (fun i => (es[i]?.map (·.1)).getD 0) (k.hash w) (stand.getD (t.probeStart (k.hash w))) = some (.candidate (way t.mask (k.hash w) (c + q)) i (nth t.mask st (c + (q + 1)))) := by
        rw [est, ← wj, ← shift]
        exact hpr
      rw [hpr']
      dsimp only
      rw [wj] at hi
      have hil : i < L.length := by
        have h1 := (List.getElem?_eq_some_iff.mp hi).1
        have h2 : t.place.toList.length = _ := R.tab.size
        rw [List.length_map] at h2
        omega
      obtain ⟨p, hp⟩ : ∃ p, L[i]? = some p := ⟨_, List.getElem?_eq_getElem hil⟩
      have hpm := List.mem_of_getElem? hp
      have hpk := R.keys p hpm
      have rest : wpAny (model P w) A (searchRest a (.ref x) (k.hash w) true f es t (way t.mask (k.hash w) (c + q)) i (nth t.mask st (c + (q + 1)))) Q E s := by
        unfold searchRest
        rw [R.at hp]
        dsimp only
        refine wpAny_bind (wpAny_holding ((nestedKind P w).eqBool hu ⟨hpk.is, hpk.deep⟩ ⟨hx.is, hx.deep⟩ ?_))
        refine wpAny_bind (wpAny_setState_of ho hd R.fits ?_)
        dsimp only
        by_cases e : p.2 = k
        · refine wp_if_pos (by simp [e]) (wpAny_pure (hin (List.mem_map.mpr ⟨p, hpm, e⟩)))
        · refine wp_if_neg (by simp [e]) ?_
          try refine wpAny_bind (wpAny_pure ?_)
          rw [sameMem]
          dsimp only
          have hsl := slot_live R.tab.ris hi
          simp only [if_true, hsl, R.at hp]
          refine wpAny_bind (wpAny_isSame_ref_self (wpAny_bind (wpAny_pure ?_)))
          simp only [if_true]
          refine wp_if_neg (by simp [e]) (ih (c + (q + 1)) _ rfl (by omega) (by omega) fun i0 p0 h0 e0 => ?_)
          obtain ⟨d, d1, d2, d3⟩ := left i0 p0 h0 e0
          refine ⟨d, ?_, d2, d3⟩
          refine Classical.byContradiction fun no => ?_
          by_cases z : d < c + q
          · refine hno (d - c) i0 (by omega) (by rw [wj, show c + (d - c) = d by omega]; exact d3) ?_
            rw [hashes i0 p0 h0, e0]
          · have ed : d = c + q := by omega
            rw [ed] at d3
            have s0 := slot_live R.tab.ris d3
            rw [hsl] at s0
            injection s0 with s0
            rw [← s0, hp] at h0
            cases h0
            exact e e0
      by_cases hl : t.led = true
      · refine wp_if_neg (by simp [hl]) ?_
        try refine wpAny_bind (wpAny_pure ?_)
        exact rest
      · refine wp_if_pos (by simp [hl]) (wpAny_bind (not_seen hx (fun y hy => ?_) ?_))
        · obtain ⟨e, he, rfl⟩ := List.mem_map.mp hy
          have he1 : e ∈ es ∧ e.1 = k.hash w := by simpa using he
          have he2 : e ∈ es.toList := by simpa using he1.1
          rw [R.rows] at he2
          obtain ⟨p2, hp2, rfl⟩ := List.mem_map.mp he2
          exact ⟨p2.2, p2.1, rfl, R.keys p2 hp2⟩
        · refine wp_if_neg (by decide) ?_
          try refine wpAny_bind (wpAny_pure ?_)
          exact rest
    · have hpr' : t.probe (fun i => (es[i]?.map (·.1)).getD 0) (k.hash w) (stand.getD (t.probeStart (k.hash w))) = some (.empty (way t.mask (k.hash w) K) none) := by
        have e2 : way t.mask (k.hash w) K = (nth t.mask (nth t.mask st c) (K - c)).j := by rw [wj, show c + (K - c) = K by omega]
        rw [est, e2]
        exact hpr
      rw [hpr']
      dsimp only
      refine wpAny_pure (hout fun hm => ?_)
      obtain ⟨p0, h0, e0⟩ := List.mem_map.mp hm
      obtain ⟨i0, hi0⟩ := List.getElem?_of_mem h0
      obtain ⟨d, d1, d2, d3⟩ := left i0 p0 hi0 e0
      refine hno (d - c) i0 (by omega) (by rw [wj, show c + (d - c) = d by omega]; exact d3) ?_
      rw [hashes i0 p0 hi0, e0]
theorem search0 (R : SetN w s.heap a L es ep t) {x : Addr} {k : NestedKey} (hx : KeyAt s.heap k x) (hu : A.units + 8 < cLine) {Q : SetFound → Shared → Prop}
    (hin : k ∈ L.map (·.2) → Q (.there none) s) (hout : ∀ K, k ∉ L.map (·.2) → Stop t (k.hash w) K → Q (.free (way t.mask (k.hash w) K) false) s) :
    wpAny (model P w) A (setSearch a (.ref x) (k.hash w) true) Q E s := by
  have hr := R.room
  obtain ⟨K, S⟩ := R.tab.stop (by rw [List.length_map]; omega) (k.hash w)
  have hbig : K < 100000 := by
    have h1 := S.few
    have h2 := R.tab.msk.le
    unfold SetTable.turns at h1
    omega
  unfold setSearch
  refine search R hx hu S hin (fun z => hout K z S) 100000 0 none rfl (Nat.zero_le _) (by omega) fun i p hp e => ?_
  have hi : (L.map fun p => p.2.hash w)[i]? = some (k.hash w) := by rw [List.getElem?_map, hp, ← e]; rfl
  have hil : i < t.place.toList.length := by
    have h1 := (List.getElem?_eq_some_iff.mp hp).1
    have h2 : t.place.toList.length = _ := R.tab.size
    rw [List.length_map] at h2
    omega
  have hj := List.getElem?_eq_getElem hil
  obtain ⟨d, hd, ed⟩ := R.tab.ahead S hi hj
  exact ⟨d, Nat.zero_le _, hd, by rw [ed]; exact hj⟩
end
end NT

/-! laying anew and adding -/
namespace NT
open PySem PyProof.Rows L2
theorem ins_perm {α : Type} (l : List α) (p : Nat) (x : α) : (l.take p ++ x :: l.drop p).Perm (x :: l) := by
  have := List.perm_middle (a := x) (l₁ := l.take p) (l₂ := l.drop p)
  rwa [List.take_append_drop] at this
theorem picked {α : Type} (L : List α) : (List.range L.length).filterMap (fun i => L[i]?) = L := by
  have key : ∀ n, n ≤ L.length → (List.range n).filterMap (fun i => L[i]?) = L.take n := by
    intro n
    induction n with
    | zero => exact fun _ => rfl
    | succ n ih =>
      intro hn
      rw [List.range_succ, List.filterMap_append, ih (by omega), List.take_succ, List.getElem?_eq_getElem (show n < L.length by omega)]
      simp [List.getElem?_eq_getElem (show n < L.length by omega)]
  rw [key _ (Nat.le_refl _), List.take_length]
section
variable {w : World}
/-- the entries in another order -/
theorem reorder {L : List (Addr × NestedKey)} {es : Array (Int × Value)} {order : Array Nat} (hr : es.toList = ents w L) (hp : order.toList.Perm (List.range L.length)) :
    ∃ M, (order.filterMap (es[·]?)).toList = ents w M ∧ M.Perm L ∧ (M.map fun p => p.2.hash w) = order.toList.map fun i => (es.map (·.1)).getD i 0 := by
  have at_ : ∀ i, es[i]? = (L[i]?).map fun (p : Addr × NestedKey) => (p.2.hash w, Value.ref p.1) := fun i => by
    rw [← Array.getElem?_toList, hr]
    unfold ents
    rw [List.getElem?_map]
  have key : ∀ l : List Nat, (∀ i ∈ l, i < L.length) → (l.filterMap fun i => es[i]?) = ents w (l.filterMap fun i => L[i]?) ∧ ((l.filterMap fun i => L[i]?).map fun p => p.2.hash w) = l.map fun i => (es.map (·.1)).getD i 0 := by
    intro l
    induction l with
    | nil => exact fun _ => ⟨rfl, rfl⟩
    | cons i l ih =>
      intro hl
      obtain ⟨e1, e2⟩ := ih fun j hj => hl j (by simp [hj])
      have hi := List.getElem?_eq_getElem (hl i (by simp))
      have hei := at_ i
      rw [hi] at hei
      have hge : (es.map (·.1)).getD i 0 = (L[i]'(hl i (by simp))).2.hash w := by
        rw [Array.getD_eq_getD_getElem?, Array.getElem?_map, hei]
        rfl
      rw [List.filterMap_cons_some hei, List.filterMap_cons_some hi, e1, List.map_cons, List.map_cons, e2, hge]
      exact ⟨rfl, rfl⟩
  obtain ⟨e1, e2⟩ := key order.toList fun i hi => List.mem_range.mp (hp.mem_iff.mp hi)
  refine ⟨order.toList.filterMap fun i => L[i]?, by simpa using e1, ?_, e2⟩
  have := hp.filterMap fun i => L[i]?
  rwa [picked] at this
end
theorem grow5 : SetTable.sizeAbove (SetTable.grown 5) = 32 := by decide +kernel
theorem grow19 : SetTable.sizeAbove (SetTable.grown 19) = 128 := by decide +kernel
theorem grow77 : SetTable.sizeAbove (SetTable.grown 77) = 512 := by decide +kernel
theorem grow307 : SetTable.sizeAbove (SetTable.grown 307) = 2048 := by decide +kernel
theorem grow1229 : SetTable.sizeAbove (SetTable.grown 1229) = 8192 := by decide +kernel
/-- a full table's next size -/
theorem next_size {m n : Nat} (hm : Msk m) (h1 : n * 5 < m * 3) (h2 : m * 3 ≤ (n + 1) * 5) (hn : n + 1 ≤ 4914) : ∃ M, Msk M ∧ SetTable.sizeAbove (SetTable.grown (n + 1)) = M + 1 ∧ (n + 1) * 5 < M * 3 := by
  rcases hm with e | e | e | e | e | e <;> subst e
  · obtain rfl : n = 4 := by omega
    exact ⟨31, .inr (.inl rfl), grow5, by decide⟩
  · obtain rfl : n = 18 := by omega
    exact ⟨127, .inr (.inr (.inl rfl)), grow19, by decide⟩
  · obtain rfl : n = 76 := by omega
    exact ⟨511, .inr (.inr (.inr (.inl rfl))), grow77, by decide⟩
  · obtain rfl : n = 306 := by omega
    exact ⟨2047, .inr (.inr (.inr (.inr (.inl rfl)))), grow307, by decide⟩
  · obtain rfl : n = 1228 := by omega
    exact ⟨8191, .inr (.inr (.inr (.inr (.inr rfl)))), grow1229, by decide⟩
  · omega
section
variable {P : Program} {w : World} {A : Around} {E : Value → Shared → Prop} {s : Shared} {a : Addr} {L : List (Addr × NestedKey)} {es : Array (Int × Value)} {ep : Nat} {t : SetTable}
theorem relay {o : Obj} (ho : s.heap.get? a = some o) (hex : o.ExactSet) (hd : o.data = .set es ep t) (rows : es.toList = ents w L) (hsz : t.place.size = es.size) (hdm : t.dummies = #[]) (hfl : es.size ≤ t.mask)
    (nd : (L.map (·.2)).Nodup) (keys : ∀ p ∈ L, KeyAt s.heap p.2 p.1) (pl : t.plain = true) (ld : w.params.followText "set-order" = true ∨ t.led = true) {wanted M : Nat}
    (hw : SetTable.sizeAbove wanted = M + 1) (hM : Msk M) (hn : L.length * 5 < M * 3) {Q : Unit → Shared → Prop}
    (q : ∀ h' L' es' ep' t', Heap.SameBut a s.heap h' → SetN w h' a L' es' ep' t' → L'.Perm L → Q () { s with heap := h' }) : wpAny (model P w) A (setRelay a wanted) Q E s := by
  have hsl := ents_len rows
  have hMl := hM.le
  obtain ⟨t', order, e, hp, T, em, el, epl⟩ := anew t (hs := es.map (·.1)) (wanted := wanted) (m := M) (by omega) hM (by rw [Array.size_map, hsl]; omega)
  rw [Array.size_map, hsl] at hp
  obtain ⟨L', r1, r2, r3⟩ := reorder rows hp
  rw [← r3] at T
  have hs2 : (order.filterMap (es[·]?)).size = es.size := by rw [ents_len r1, r2.length_eq, hsl]
  rw [setRelay_eq]
  refine wpAny_bind (wpAny_setState_of ho hd (fits_of hdm hsz hfl) ?_)
  dsimp only
  refine wp_if_neg (by rw [sizeLine_eq]; omega) ?_
  try refine wpAny_bind (wpAny_pure ?_)
  rw [e]
  dsimp only
  refine wpAny_bind (wp_if_neg (by rw [hs2]; simp) ?_)
  try refine wpAny_bind (wpAny_pure ?_)
  refine wpAny_pure ?_
  dsimp only
  refine wpAny_storeSet_of ho hd ?_ (by rw [hs2, hsl, sizeLine_eq]; omega)
  have sb : Heap.SameBut a s.heap (s.heap.update a (Obj.putSet (order.filterMap (es[·]?)) t')) := Heap.SameBut.update ..
  refine q _ L' (order.filterMap (es[·]?)) (ep + 1) t' sb ⟨⟨_, store_at ho hd, ⟨hex.1, hex.2.1, hex.2.2⟩, rfl⟩, r1, T, (r2.map (·.2)).nodup_iff.mpr nd, fun p hpm => (keys p (r2.mem_iff.mp hpm)).but ho hd sb, epl.trans pl, by rw [el]; exact ld, by rw [r2.length_eq, em]; exact hn⟩ r2
/-- adding -/
theorem add (R : SetN w s.heap a L es ep t) {x : Addr} {k : NestedKey} (hx : KeyAt s.heap k x) (hu : A.units + 8 < cLine) (hfew : L.length + 1 ≤ 4914) {Q : Bool → Shared → Prop}
    (q : ∀ b h' L' es' ep' t', Heap.SameBut a s.heap h' → SetN w h' a L' es' ep' t' → (k ∈ L.map (·.2) → L' = L) → (k ∉ L.map (·.2) → L'.Perm ((x, k) :: L)) → Q b { s with heap := h' }) :
    wpAny (model P w) A (setAddHashed a (.ref x) (k.hash w)) Q E s := by
  obtain ⟨o, ho, hex, hd⟩ := R.ob
  have hsl := R.size
  have hroom := R.room
  unfold setAddHashed
  refine wpAny_holding ?_
  rw [show (100000 : Nat) = 99999 + 1 from rfl, setAddHashedIn_succ]
  refine wpAny_bind (wpAny_setState_of ho hd R.fits ?_)
  dsimp only
  refine wp_if_neg (by simp [byScan, Value.scannable]) ?_
  try refine wpAny_bind (wpAny_pure ?_)
  refine wpAny_bind (search0 R hx hu (fun hm => ?_) fun K hm S => ?_)
  · dsimp only
    exact wpAny_pure (q false s.heap L es ep t (Heap.SameBut.refl a s.heap) R (fun _ => rfl) fun z => absurd hm z)
  dsimp only
  refine wpAny_bind (wpAny_setState_of ho hd R.fits ?_)
  dsimp only
  obtain ⟨t1, e1, q2, q3, q4, q5, q6, q7⟩ := R.tab.put S rfl
  rw [e1]
  dsimp only
  generalize SetTable.below t.place (way t.mask (k.hash w) K) = p at q2 q3 ⊢
  have hp1 : t1.plain = true := q6.trans R.plain
  first
    | (refine wpAny_bind ?_; refine wp_if_pos hp1 ?_; refine hashBy_key k _ 8 s hx.is hx.num hx.deep _ _ _ ?_)
    | refine wp_if_pos hp1 (wpAny_bind (hashBy_key k _ 8 s hx.is hx.num hx.deep _ _ _ ?_))
  simp only [if_true]
  have pm := ins_perm L p (x, k)
  have hin : (SetTable.insertAt es p (k.hash w, Value.ref x)).toList = ents w (L.take p ++ (x, k) :: L.drop p) := by
    rw [SetTable.toList_insertAt, R.rows]
    unfold ents
    rw [List.map_append, List.map_cons, List.map_take, List.map_drop]
  have hhs : (L.take p ++ (x, k) :: L.drop p).map (fun p => p.2.hash w) = (L.map fun p => p.2.hash w).take p ++ k.hash w :: (L.map fun p => p.2.hash w).drop p := by
    rw [List.map_append, List.map_cons, List.map_take, List.map_drop]
  rw [← hhs] at q3
  have hes := ents_len hin
  have hlen : (L.take p ++ (x, k) :: L.drop p).length = L.length + 1 := pm.length_eq
  have nd1 : ((L.take p ++ (x, k) :: L.drop p).map (·.2)).Nodup := (pm.map (·.2)).nodup_iff.mpr (List.nodup_cons.mpr ⟨hm, R.nd⟩)
  generalize SetTable.insertAt es p (k.hash w, Value.ref x) = es1 at hin hes ⊢
  generalize L.take p ++ (x, k) :: L.drop p = L1 at pm hlen q3 nd1 hin hes
  rw [List.length_map] at q7
  refine wpAny_bind (wpAny_storeSet_of ho hd ?_ (by rw [hes, sizeLine_eq]; omega))
  have sb : Heap.SameBut a s.heap (s.heap.update a (Obj.putSet es1 t1)) := Heap.SameBut.update ..
  have ho1 := store_at (es' := es1) (t' := t1) ho hd
  generalize s.heap.update a (Obj.putSet es1 t1) = h1 at sb ho1 ⊢
  have keys1 : ∀ p ∈ L1, KeyAt h1 p.2 p.1 := fun p hp => by
    rcases List.mem_cons.mp (pm.mem_iff.mp hp) with e | hp
    · exact e ▸ hx.but ho hd sb
    · exact (R.keys p hp).but ho hd sb
  have ld1 : w.params.followText "set-order" = true ∨ t1.led = true := by rw [q5]; exact R.led
  by_cases hf : t1.tooFull = true
  · first
      | (refine wpAny_bind ?_; refine wp_if_pos (by simp [hf]) ?_)
      | (refine wp_if_pos (by simp [hf]) ?_; refine wpAny_bind ?_)
    have hfull : t1.mask * 3 ≤ (L.length + 1) * 5 := by
      have h := hf
      unfold SetTable.tooFull at h
      rw [decide_eq_true_eq, q7] at h
      exact h
    obtain ⟨M, hM, hs, hr⟩ := next_size (n := L.length) R.tab.msk hroom (by rw [← q4]; exact hfull) hfew
    have psz : t1.place.size = es1.size := by
      have h := q3.size
      rw [List.length_map, hlen] at h
      rw [h, hes, hlen]
    rw [hsl]
    refine relay (s := { s with heap := h1 }) ho1 ⟨hex.1, hex.2.1, hex.2.2⟩ rfl hin psz q3.nodum (by rw [hes, hlen, q4]; omega) nd1 keys1 hp1 ld1 hs hM (by rw [hlen]; exact hr) fun h2 L2 es2 ep2 t2 sb2 R2 pm2 => ?_
    exact wpAny_pure (q true h2 L2 es2 ep2 t2 (sb.trans sb2) R2 (fun z => absurd z hm) fun _ => pm2.trans pm)
  · first
      | refine wp_if_neg (by simp [hf]) ?_
      | (refine wpAny_bind ?_; refine wp_if_neg (by simp [hf]) ?_; refine wpAny_pure ?_)
    refine wpAny_pure (q true h1 L1 es1 (ep + 1) t1 sb ⟨⟨_, ho1, ⟨hex.1, hex.2.1, hex.2.2⟩, rfl⟩, hin, q3, nd1, keys1, hp1, ld1, ?_⟩ (fun z => absurd z hm) fun _ => pm)
    have h := hf
    unfold SetTable.tooFull at h
    rw [decide_eq_true_eq, q7] at h
    rw [hlen]
    omega
end
end NT

/-! Own layer: promises of defs that are kept where no guard stands around (repr of lists and tuples wants that). -/
namespace MG
open PySem PySem.Spec PyProof.Rows L2
/-- like a promise of the layer, asked for only where no guard is set -/
structure GFn (P : Program) (w : World) (K : PySem.W.Frag) (mg : Str → Option Value) (base : Heap) (C : CXT) (n : Nat) (g : Addr) (dat : FuncData) (pars : List Str) (pr : Sp) : Prop where
  lng : ∀ a b c d, pr a b c d → a.length = pars.length
  does : ∀ (A : Around) (out : List Env) (s : Shared) (H : Hp) (ar : Args) (us : List Value) (vs : List V) (Q : VK) (E : XK),
    Room n A → A.guards = some [] → Env0 P w K mg base A out s H → BindsTo s dat ar (pars.zip us) → Vals vs us → pr vs H Q E →
      codeAny (model P w) A (.call (.ref g) ar) (CR C out P w H s Q E) s
theorem GFn.of {P : Program} {w : World} {K : PySem.W.Frag} {mg : Str → Option Value} {base : Heap} {C : CXT} {n : Nat} {g : Addr} {dat : FuncData} {pars : List Str} {pr : Sp}
    (F : FnOk P w K mg base C n g dat pars pr) : GFn P w K mg base C n g dat pars pr :=
  ⟨F.len, fun A out s H ar us vs Q E h1 _ h2 h3 h4 h5 => F.run A out s H ar us vs Q E h1 h2 h3 h4 h5⟩
theorem deeper_guards {A : Around} {env : Env} (h : A.guards = some []) : (A.deeper env).guards = some [] := by
  first
    | exact h
    | simpa [Around.deeper] using h
section
variable {X : Cx} {C : CXT} {n : Nat} {g : Addr} {dat : FuncData} {pars : List Str} {pr : Sp} {dvs : List V} {ds : List Value} {E : XK} {x : Str} {p pos : Pos} {e : Expr} {es : List Expr} {t : TA}
theorem does_fn {pins : List (Addr × Obj)} {σ : L2.St} {H : Hp} {s : Shared} {Q : VK} {us : List Value} {vs : List V}
    (F : GFn X.prog X.w X.K X.mg X.base C n g dat pars pr) (rm : Room n X.A) (hg : X.A.guards = some []) (hb : Binds X.K dat pars ds) (hd : Vals dvs ds) (hx : Passes C X E)
    (I : Inv X pins σ H s) (r : Vals vs us) (h : pr (vs ++ dvs) H Q E) :
    wpAny (model X.prog X.w) X.A (call (.ref g) us) (EP X pins σ Q) X.xe s := by
  have both : Vals (vs ++ dvs) (us ++ ds) := Vals.append r hd
  have hl : (us ++ ds).length = pars.length := (both.length).symm.trans (F.lng _ _ _ _ h)
  have go := F.does X.A X.stack s H ⟨us, []⟩ (us ++ ds) (vs ++ dvs) Q E rm hg I.env0 (hb s us I.kIn hl) both h
  refine wpAny_call (codeAny_mono go ?_)
  intro res s' hq
  match res, hq with
  | .error er, hq => exact hx pins σ H s er s' I hq
  | .ok (.ret u), hq => exact I.after hq
  | .ok .next, hq => exact hq.elim
  | .ok .brk, hq => exact hq.elim
  | .ok .cont, hq => exact hq.elim
theorem pe_callG (F : GFn X.prog X.w X.K X.mg X.base C n g dat pars pr) (rm : Room n X.A) (hgu : X.A.guards = some []) (hg : Gl X x) (hm : X.mg x = some (.ref g)) (hk : PySem.W.keepIn X.K (.ref g) = true)
    (hb : Binds X.K dat pars ds) (hd : Vals dvs ds) (hx : Passes C X E) (ha : PA X (e :: es) t)
    (hdb : (x == ("__debug__" : Str)) = false := by decide) (he : starEach (e :: es) X.env = (false, eval e X.env) :: starEach es X.env := by rfl)
    (hpl : (backTo pos (starEach es X.env)).any (·.1) = false := by rfl) :
    PE X (.Call (.Name x p) (e :: es) [] pos) (tCall pr dvs E t) :=
  ⟨fun pins s σ H Q I h => wpAny_Call_Name_kw (ld_glob I hg hm
    (PySem.W.callWith_K (h₀ := X.base) I.ok.mod.kin hk
      (thn (ha.run pos pins s σ H _ I h) fun us s1 ⟨vs, H1, I1, r, q⟩ => ⟨I1.kIn, does_fn F rm hgu hb hd hx I1 r q⟩) he hpl) hdb)⟩
theorem pe_callG0 (F : GFn X.prog X.w X.K X.mg X.base C n g dat pars pr) (rm : Room n X.A) (hgu : X.A.guards = some []) (hg : Gl X x) (hm : X.mg x = some (.ref g)) (hk : PySem.W.keepIn X.K (.ref g) = true)
    (hb : Binds X.K dat pars ds) (hd : Vals dvs ds) (hx : Passes C X E)
    (hdb : (x == ("__debug__" : Str)) = false := by decide) : PE X (.Call (.Name x p) [] [] pos) (tCall pr dvs E tNil) :=
  ⟨fun pins s σ H Q I h => wpAny_Call_Name_kw (ld_glob I hg hm
    (PySem.W.callWith_K0 I.kIn hk (does_fn (us := []) F rm hgu hb hd hx I .nil h)) hdb)⟩
/-- repr of a list or a tuple of data -/
def rRepr (K : PySem.W.Frag) : List V → Hp → VK → Prop := fun xs H Q => ∃ (a : Addr) (d : PyData), xs = [.ref a] ∧ Dp K H (.ref a) d ∧ d.showable = true ∧ d.hasDict = false ∧ d.depth < 100 ∧ d.shown.length ≤ sizeLine ∧ Q (.str d.shown) H
theorem call_reprD (hg : X.A.guards = some []) (rm : Room n X.A) : CallR X (.builtin "repr") (rRepr X.K) := by
  intro pins s σ H xs us Q I r h
  obtain ⟨a, d, rfl, hd, hs, hdi, hdep, hsz, q⟩ := h
  obtain ⟨u, rfl, rx⟩ := vals1 r
  cases (show u = Value.ref a from rx)
  obtain ⟨as, rd⟩ := Dp.reads I d (.ref a) (.ref a) hd rfl
  have hu : X.A.units + (d.depth + 1) < cLine := by
    have z := rm.un
    omega
  exact repr_of_reads' rd hs (fun z => absurd (hdi.symm.trans z) (by decide)) hg hu (fun _ _ z => z)
    (fun h' u tk hk => ⟨.str d.shown, H, I.kept hk, ⟨_, rfl⟩, q⟩) hsz
end
section
variable {P : Program} {w : World} {K : PySem.W.Frag} {mg : Str → Option Value} {base : Heap} {nm qual : Str} {params : Arguments} {body : List Stmt} {scope : Scope} {dvs : List V} {kws : List (Str × V)} {f : Addr} {fd : FuncData}
theorem okG {C : CXT} {N ps : List Str} {k : Nat} {sp : Sp} (F : FunD K nm qual params body scope dvs kws f fd) (S : FnScope N ps scope)
    (lng : ∀ a b c d, sp a b c d → a.length = ps.length)
    (hbody : ∀ (cdv : Value) (A : Around) (outer : List Env) (s : Shared) (H : Hp) (vs : List V) (Q : VK) (E : XK),
      Room k (A.deeper (envOfC qual scope s.heap.objs.size f cdv)) → (A.deeper (envOfC qual scope s.heap.objs.size f cdv)).guards = some [] → sp vs H Q E →
      ∃ t, PSs (cxOf C P w K mg base N qual scope f cdv A outer s H E) body t ∧ t { nx := fun _ H' => Q .non H', rt := Q } (start N vs) H) :
    GFn P w K mg base C (k + 1) f fd ps sp := by
  obtain ⟨oc, od, dV, kV, doc, pm, an, cdv, ct, osl, rfl, lk, hcd, _, _⟩ := F.ex
  refine ⟨lng, ?_⟩
  intro A outer s H args us vs Q E rm gu e0 hb r hsp
  have hl := lng _ _ _ _ hsp
  have KX : K.In s.heap := e0.mod.kin.keeps fun b o z => (e0.bs b o z).1
  have lim : s.heap.NoLimit := e0.mod.nolimit.keeps fun b o z => (e0.bs b o z).1
  have kinds : ∀ y ∈ ps.zip us, scope.names.lookup y.1 = some .local ∨
      (scope.names.lookup y.1 = some .cell ∧ ((cellsFrom (s.heap.objs.size + 1) scope.names []).lookup y.1).isSome = true) := by
    rintro ⟨n, v⟩ hy
    rcases S.par n (List.of_mem_zip hy).1 with q | q
    · exact Or.inl q
    · exact Or.inr ⟨q, PySem.W.cellsFrom_some _ _ _ (Or.inl q)⟩
  refine codeAny_call_function rm.depth (KX _ _ lk) rfl S.co S.gen rfl (PySem.W.codeRec_of KX hcd) (hb _ _ _ _ ?_)
  refine wpAny_newFunctionEnv_cells S.kind kinds ?_
  intro env he s1 x
  subst he
  refine ⟨lim.keeps x.toInCall.keep, codeAny_func ?_⟩
  obtain ⟨t, ht, hq⟩ := hbody cdv A outer s H vs Q E (rm.deeper _) (deeper_guards gu) hsp
  have I : Inv (cxOf C P w K mg base N qual scope f cdv A outer s H E) [] (start N vs) H s1 := inv_start S rm.hd e0 hl r x
  refine wpAny_mono (ht.run [] s1 (start N vs) H _ I hq) ?_ (fun _ _ z => z)
  intro fl s' hs
  match fl, hs with
  | .ret u, hs =>
    obtain ⟨v, σ', H', J, rv, q⟩ := hs
    exact ⟨v, H', J.os, J.bare, J.base, J.hok, rv, q⟩
  | .next, hs =>
    obtain ⟨σ', H', J, q⟩ := hs
    exact ⟨V.non, H', J.os, J.bare, J.base, J.hok, rfl, q⟩
  | .brk, hs =>
    obtain ⟨_, _, _, q⟩ := hs
    exact q.elim
  | .cont, hs =>
    obtain ⟨_, _, _, q⟩ := hs
    exact q.elim
end
/-- the law's own call, its promise kept where no guard stands -/
theorem law_go {P : Program} {w : World} {K : PySem.W.Frag} {mg mb : Str → Option Value} {C : CXT} {k : Nat} {fa a : Addr} {fd : FuncData} {x : Str} {sp : Sp} {s : Shared} {vs : List Value} {ns : List Int}
    (KX : K.In s.heap) (hns : s.heap.Ns mainGlobals mg) (hb : s.heap.Ns builtinsNs mb) (hbb : ∀ y : Str, y ≠ "__name__" → mb y = bootBuiltins y) (hlim : s.heap.NoLimit) (hg : s.gens = #[])
    (ha : s.heap.get? a = some { cls := .type "list", data := .seq vs.toArray }) (hi : IntsAre vs ns) (hl : ns.length ≤ sizeLine) (rm : Room k callerA)
    (F : ∀ base : Heap, K.In base → base.Ns mainGlobals mg → GFn P w K mg base C k fa fd [x] sp) (hbind : ∀ (s : Shared) (u : Value), BindsTo s fd ⟨[u], []⟩ [(x, u)])
    (hsp : ∀ H : Hp, Only H → SqL K H a (ns.map V.int) → sp [.ref a] H (fun v _ => v = .bl true) fun _ _ _ => False)
    (hC : ∀ H e s', C [] H s (fun _ _ _ => False) e s' → False) :
    codeAny (model P w) callerA (.call (.ref fa) ⟨[.ref a], []⟩) (fun r s' => r = .ok (.ret (.bool true)) ∧ OldK s.heap s'.heap ∧ s'.os = s.os ∧ AllBare s'.gens) s := by
  have rv := vals_ints hi
  have core : ∀ H : Hp, Only H → SqL K H a (ns.map V.int) → HOk P w H s.heap → (∀ b, H b ≠ none → b = a) → (H a ≠ none → K.lookup a = none) →
      codeAny (model P w) callerA (.call (.ref fa) ⟨[.ref a], []⟩) (fun r s' => r = .ok (.ret (.bool true)) ∧ OldK s.heap s'.heap ∧ s'.os = s.os ∧ AllBare s'.gens) s := by
    intro H hO hS hok hA hK
    have noA : ∀ {b : Addr} {o : Obj} {es : Array DictEntry} {ep : Nat}, s.heap.get? b = some o → o.data = .dict es ep → H b = none := by
      intro b o es ep e d
      match q : H b with
      | none => rfl
      | some u =>
        obtain rfl : b = a := hA b (by rw [q]; simp)
        rw [ha] at e
        cases e
        exact nomatch (show Data.seq vs.toArray _ = Data.dict es ep from d)
    have nsK : ∀ {b : Addr} {m : Str → Option Value}, s.heap.Ns b m → (hidT s.heap H).Ns b m := by
      rintro b m ⟨o, es, ep, e, d, r⟩
      exact ⟨o, es, ep, hidT_get e (noA e d), d, r⟩
    have hKb : K.In (hidT s.heap H) := by
      intro b o e
      refine hidT_get (KX b o e) ?_
      match q : H b with
      | none => rfl
      | some u =>
        obtain rfl : b = a := hA b (by rw [q]; simp)
        rw [hK (by rw [q]; simp)] at e
        cases e
    have hM : Mod K mg (hidT s.heap H) := by
      obtain ⟨mc, h1, h2⟩ := hlim
      exact ⟨hKb, nsK hns, ⟨mb, nsK hb, hbb⟩, ⟨mc, nsK h1, h2⟩⟩
    have e0 : Env0 P w K mg (hidT s.heap H) callerA [] s H :=
      ⟨rfl, hM, fun b o e => of_hidT e, Nat.le_of_eq (hidT_size _ _), trivial, fun b hb => absurd (show b ∈ ([] : List Addr) from hb) (by simp), hok, .of_eq hg⟩
    have go := (F _ hKb (nsK hns)).does callerA [] s H ⟨[.ref a], []⟩ [.ref a] [.ref a] _ _ rm rfl e0 (hbind s (.ref a)) (.cons rfl .nil) (hsp H hO hS)
    refine codeAny_mono go ?_
    intro r s' h
    match r, h with
    | .error e, h => exact (hC H e s' h).elim
    | .ok .next, h => exact h.elim
    | .ok .brk, h => exact h.elim
    | .ok .cont, h => exact h.elim
    | .ok (.ret u), h =>
      obtain ⟨v, H', os, bare, un, hok', r', q⟩ := h
      obtain rfl : v = .bl true := q
      obtain rfl : u = Value.bool true := r'
      refine ⟨rfl, OldK.of_keep ?_, os, bare⟩
      intro b o e
      match q : H b with
      | none => exact un.keep b o e q (fun z => absurd (show b ∈ ([] : List Addr) from z) (by simp)) (by simp)
      | some u =>
        rcases hO b with z | ⟨ob, xs, z⟩
        · rw [q] at z
          cases z
        · have e1 := (hok b _ z).1
          have e2 := (hok' b _ (un.frzs b ob _ z)).1
          rw [e] at e1
          cases e1
          exact e2
  match hk : K.lookup a with
  | some o =>
    have e := KX a o hk
    rw [ha] at e
    cases e
    refine core (fun _ => none) (fun _ => .inl rfl) ?_ (fun b u z => nomatch (show (none : Option HO) = some u from z)) (fun b z => absurd rfl z) fun z => absurd rfl z
    exact .inr ⟨_, vs.toArray, _, hk, rfl, rfl, rfl, by rw [List.size_toArray, hi.length]; exact hl, by simpa using rv⟩
  | none =>
    refine core (fun b => if b = a then some (.frz { cls := .type "list", data := .seq vs.toArray } (.lst (ns.map V.int))) else none) ?_ (.inl (.inr ⟨_, if_pos rfl⟩)) ?_ ?_ fun _ => hk
    · intro b
      by_cases hb : b = a
      · exact .inr ⟨_, _, if_pos hb⟩
      · exact .inl (if_neg hb)
    · intro b u z
      by_cases hb : b = a
      · have z' := (if_pos hb).symm.trans z
        cases z'
        subst hb
        exact ⟨ha, (List.length_map (as := ns) V.int).symm ▸ hl, vs, _, rv, ha⟩
      · exact nomatch (if_neg hb).symm.trans z
    · intro b z
      by_cases hb : b = a
      · exact hb
      · exact absurd (if_neg hb) z
theorem law_end {l : PySem.W.OpenLaw} {n k : Nat} {q : Program} {loose : List Str} {XP : (Str → Option Value) → Heap → Prop} {YP : World → Heap → Prop} {d : DefRec} {C : CXT} {x : Str}
    (hn : l.most = some n) (hn2 : n ≤ sizeLine) (hdf : d.params.defaults = []) (rm : Room k callerA)
    (F : ∀ (w : World) (mg : Str → Option Value) (fa : Addr) (h : Heap), YP w h → h.Ns mainGlobals mg → mg d.name = some (.ref fa) →
      ∃ (K : PySem.W.Frag) (fd : FuncData) (sp : Sp), K.In h ∧ (∀ (s : Shared) (u : Value), BindsTo s fd ⟨[u], []⟩ [(x, u)]) ∧
        (∀ (H : Hp) (a : Addr) (ns : List Int), ns.length ≤ n → (∀ i : Int, i ∈ ns → Builtin.Int.intBits i ≤ 1048576) → Only H → SqL K H a (ns.map V.int) → sp [.ref a] H (fun v _ => v = .bl true) fun _ _ _ => False) ∧
        ∀ base : Heap, K.In base → base.Ns mainGlobals mg → GFn l.prog w K mg base C k fa fd [x] sp)
    (hC : ∀ (H : Hp) (s : Shared) (e : Value) (s' : Shared), C [] H s (fun _ _ _ => False) e s' → False) :
    PySem.W.WalkO q loose XP YP l.row.toRowW d [] (fun f vs => PySem.call f vs) := by
  refine Att.attach_callB hn hdf ?_
  intro w s₀ s₁ mg mb fa o pm cd doc a vs ns G Y ho hd hcd hmg hobj hints hlen hbits hg
  obtain ⟨K, fd, sp, KX, hb, hsp, hF⟩ := F w mg fa _ Y G.T.g hmg
  refine law_go KX G.T.g G.T.b G.T.builtins G.T.nolimit hg hobj hints (Nat.le_trans hlen hn2) rm hF hb ?_ fun H e s' => hC H s₁ e s'
  intro H hO hS
  exact hsp H a ns hlen hbits hO hS
end MG

/-! enumerate of a tuple -/
namespace MG
open PySem PySem.Spec PyProof.Rows L2
theorem enum_new1 {v : Value} {o : Obj} {G : Heap → Prop} (B : Begins v o G) :
    Meets (Builtin.«enumerate.__new__» ⟨[.type "enumerate", v], []⟩) (fun _ R s => G s.heap ∧
      R (.ok (.ret (.ref (s.heap.push o).objs.size)))
        { s with heap := (s.heap.push o).push { cls := .type "enumerate", data := .fields #[.none, .bool false, .ref s.heap.objs.size, rawInt 0, .none, .none] } }) := by
  refine Meets.of_wp ?_
  intro prog w A R s h
  obtain ⟨hp, g, d, tk, os⟩ := s
  obtain ⟨h1, h⟩ := h
  have sub := PySem.sub_enumerate
  have it : ∀ {A' : Around} {E : Value → Shared → Prop} {Q : Value → Shared → Prop}, Q (.ref hp.objs.size) ⟨hp.push o, g, d, tk, os⟩ → wpAny (model prog w) A' (pyIter v) Q E ⟨hp, g, d, tk, os⟩ :=
    fun {_ _ _} q => B.iter prog w _ _ ⟨hp, g, d, tk, os⟩ _ h1 q
  wp_walk using it
  refine wpAny_stack_any fun st => wpAny_pure ?_
  split
  · rename_i c _ _ _ _ _
    cases (c == Value.type "enumerate") <;> (wp_walk using it; exact ⟨_, rfl, h⟩)
  · (wp_walk using it; exact ⟨_, rfl, h⟩)
section
variable {prog : Program} {w : World} {A : Around} {E : Value → Shared → Prop} {s : Shared}
theorem enum_call1 {v : Value} {o : Obj} {G : Heap → Prop} {Q : Value → Shared → Prop} (B : Begins v o G) (h1 : G s.heap)
    (h : ∀ h', IsEnum h' (s.heap.objs.size + 1) s.heap.objs.size 0 .none → h'.get? s.heap.objs.size = some o →
      (∀ b o, s.heap.get? b = some o → h'.get? b = some o) → Q (.ref (s.heap.objs.size + 1)) { s with heap := h' }) :
    wpAny (model prog w) A (call (.type "enumerate") [v]) Q E s := by
  refine callType_new F.called_enumerate (by decide) (F.typeCall_enumerate_1 _) (F.newCall_enumerate_1 _) (fun obj => F.args_object_init_2 obj _) F.entry_enumerate_new (enum_new1 B) ⟨h1, ?_⟩
  have hz : (s.heap.push o).objs.size = s.heap.objs.size + 1 := Heap.size_push ..
  have he := Heap.get?_push_size (s.heap.push o) (o := { cls := .type "enumerate", data := .fields #[.none, .bool false, .ref s.heap.objs.size, rawInt 0, .none, .none] }) rfl
  show _ ∧ _
  rw [hz] at he ⊢
  exact ⟨⟨_, he, rfl⟩, h _ he (Heap.get?_push_of_some _ (Heap.get?_push_size _ B.free)) fun b o x => Heap.get?_push_of_some _ (Heap.get?_push_of_some _ x)⟩
end
/-- a tuple that stands, its items numbered, each in a new pair -/
def Iet (K : PySem.W.Frag) (a : Addr) (xs : List V) : It where
  go := fun i H => SqT K H a xs ∧ i < xs.length
  yld := fun i H v H' => ∃ T x, v = .ref T ∧ H T = none ∧ H' = upd H T (.tup [.int (i : Nat), x]) ∧ xs[i]? = some x
  stop := fun i H => SqT K H a xs ∧ xs.length = i
theorem turn_et {P : Program} {w : World} {K : PySem.W.Frag} {elts : List Expr} {kk : Nat} {tpos : Pos} (a e it : Addr) (xs : List V) :
    Turn P w K (.Tuple elts kk tpos) (Iet K a xs) [e, it] e (fun i h => (∃ old, IsEnum h e it ((i : Nat) : Int) old) ∧ h.IsTupleIter it a i ∧ e ≠ it) where
  mem := by simp
  obj := by
    rintro i h ⟨⟨old, he⟩, ⟨o, ho, hc, hd⟩, _⟩ b hb
    rcases (show b = e ∨ b = it by simpa using hb) with z | z
    · rw [z]
      exact ⟨_, he, fun v q => nomatch q⟩
    · exact ⟨o, by rw [z]; exact ho, fun v q => by rw [hd] at q; cases q⟩
  keep := by
    rintro i h h' ⟨⟨old, he⟩, hi, hne⟩ k
    exact ⟨⟨old, k e (by simp) _ he⟩, hi.at fun o q => k it (by simp) o q, hne⟩
  item := by
    intro X hP hw hK hc i pins s σ H E I hf st hgo
    subst hP hw hK
    obtain ⟨⟨old, he⟩, hit, hne⟩ := st
    obtain ⟨hq, hi⟩ := hgo
    obtain ⟨its, rv, p, hz⟩ := I.tuple hq
    have hln := rv.length
    have hel : e < s.heap.objs.size := Heap.lt_size he
    have hil : it < s.heap.objs.size := by obtain ⟨_, q, _⟩ := hit; exact Heap.lt_size q
    have nat' : a ≠ it := by
      intro z
      obtain ⟨o1, q1, c1, _⟩ := hit
      obtain ⟨o2, q2, c2, _⟩ := p
      rw [z, q1] at q2
      cases q2
      rw [c1] at c2
      exact absurd c2 (by decide)
    have nae : a ≠ e := by
      intro z
      obtain ⟨o2, q2, c2, _⟩ := p
      have he' : s.heap.get? e = some _ := he
      rw [z, he'] at q2
      cases q2
      exact absurd (show Value.type "enumerate" = Value.type "tuple" from c2) (by decide)
    have D := Draws.tuple (prog := X.prog) (w := X.w) (A := X.A.in1) (by have z := I.ok.hd hc; exact z) it a nat' its.toArray
    refine wpAny_pyNext_enum_itemC D he ⟨hit, p⟩ (show i < its.toArray.size by simp; omega) hne (by simp; exact ⟨hne, fun z => nae z.symm⟩) ?_
    intro u h' tk hu ho st' hT hsz hk
    have hu' : its[i]? = some u := by simpa using hu
    obtain ⟨x, hx⟩ : ∃ x, xs[i]? = some x := ⟨xs[i], List.getElem?_eq_getElem hi⟩
    obtain ⟨u2, hu2, ru⟩ := rv.get hx
    rw [hu'] at hu2
    cases hu2
    refine ⟨_, rfl, wpAny_letOwnedTupleGo_enum (s := { s with heap := h', toks := tk + 1 }) ho ?_⟩
    intro h'' he' sb
    have hT2 : h''.get? s.heap.objs.size = some { cls := .type "tuple", data := .seq #[.int i tk, u] } := (sb.2 _ (Nat.ne_of_gt hel)).trans hT
    have new : ObjOk X.prog X.w (upd H s.heap.objs.size (.tup [.int (i : Nat), x])) h'' s.heap.objs.size (.tup [.int (i : Nat), x]) :=
      ⟨by show 2 ≤ sizeLine; decide, [.int i tk, u], .cons ⟨_, rfl⟩ (.cons ru .nil), ⟨_, hT2, rfl, _, rfl⟩⟩
    have kp : ∀ b o, b ∉ [e, it] → s.heap.get? b = some o → h''.get? b = some o := fun b o hb q =>
      (sb.2 b (fun z => hb (by simp [z]))).trans (hk b o (fun z => hb (by simp [z])) (fun z => hb (by simp [z])) q)
    have I1 : Inv X pins σ (upd H s.heap.objs.size (.tup [.int (i : Nat), x])) { s with heap := h'', toks := tk + 1 } :=
      I.turnedNew (ch := [e, it]) kp hf (Nat.le_refl _) new
    refine ⟨.ref s.heap.objs.size, _, I1, rfl, ⟨_, x, rfl, I.hok.fresh (Nat.le_refl _), rfl, hx⟩, ⟨⟨u, ?_⟩, st'.1.at fun o q => (sb.2 it (Ne.symm hne)).trans q, hne⟩, ?_⟩
    · have e1 : ((i + 1 : Nat) : Int) = (i : Int) + 1 := by omega
      rw [e1]
      exact he'
    · intro b hb
      have hb' : b < s.heap.objs.size := by
        rcases (show b = e ∨ b = it by simpa using hb) with z | z <;> rw [z] <;> assumption
      rw [upd_ne (Nat.ne_of_lt hb')]
      exact (hf b hb).1
  done := by
    intro X hP hw hK hc i pins s σ H E I hf st hs
    subst hP hw hK
    obtain ⟨⟨old, he⟩, hit, hne⟩ := st
    obtain ⟨hq, hx⟩ := hs
    obtain ⟨its, rv, p, hz⟩ := I.tuple hq
    have hl := rv.length
    have nat' : a ≠ it := by
      intro z
      obtain ⟨o1, q1, c1, _⟩ := hit
      obtain ⟨o2, q2, c2, _⟩ := p
      rw [z, q1] at q2
      cases q2
      rw [c1] at c2
      exact absurd c2 (by decide)
    have D := Draws.tuple (prog := X.prog) (w := X.w) (A := X.A.in1) (by have z := I.ok.hd hc; exact z) it a nat' its.toArray
    obtain ⟨f0, f1, f2, f3, f4, f5⟩ := hf it (by simp)
    have e1 : its.toArray.size = i := by simp; omega
    refine wpAny_pyNext_enum_endD D he (by rw [e1]; exact ⟨hit, p⟩) ?_
    intro h' eb
    exact ⟨rfl, I.turned (t' := s.toks) (fun b o hb q => eb b o hb q) f0 f1 f3 f4 f5⟩
  self := by
    rintro A i s Q E ⟨⟨_, he⟩, _⟩ h
    exact wpAny_pyIter_enum he h
def iEnT (K : PySem.W.Frag) (ta : TA) : TI := fun σ H R => ta σ H fun vs H1 => ∃ a xs, vs = [.ref a] ∧ SqT K H1 a xs ∧ R (Iet K a xs) H1
theorem pi_enumT {X : Cx} {e : Expr} {ta : TA} {p pos tpos : Pos} {elts : List Expr} {kk : Nat} (hg : Gl X "enumerate") (hm : X.mg "enumerate" = none) (ha : PA X [e] ta)
    (hs : starEach [e] X.env = [(false, eval e X.env)] := by rfl) : PI X (.Tuple elts kk tpos) (.Call (.Name "enumerate" p) [e] [] pos) (iEnT X.K ta) := by
  refine ⟨?_⟩
  intro pins s σ H R I h
  refine Call_ (ld_blt I hg hm boot_enumerate (PyProof.Rows.callWith_type1 (thn (ha.run pos pins s σ H _ I h) ?_) hs rfl))
  rintro us s1 ⟨vs, H1, I1, r1, a, xs, rfl, hq, q⟩
  obtain ⟨u, rfl, rx⟩ := vals1 r1
  cases (show u = Value.ref a from rx)
  obtain ⟨its, rv, p', hz⟩ := I1.tuple hq
  refine enum_call1 (PySem.begins_tuple a its.toArray) p' ?_
  intro h' he hit hk
  refine wpAny_pyIter_enum he ?_
  have I2 : Inv X pins σ H1 { s1 with heap := h' } := I1.kept (t' := s1.toks) hk
  refine ⟨s1.heap.objs.size + 1, [s1.heap.objs.size + 1, s1.heap.objs.size], _, _, H1, rfl, I2, turn_et a (s1.heap.objs.size + 1) s1.heap.objs.size xs, ⟨⟨.none, he⟩, ⟨_, hit, rfl, rfl⟩, Nat.succ_ne_self _⟩, ?_, q⟩
  intro b hb
  have hle : s1.heap.objs.size ≤ b := by
    rcases (show b = s1.heap.objs.size + 1 ∨ b = s1.heap.objs.size by simpa using hb) with z | z <;> rw [z] <;> omega
  exact I1.fpOk hle (I1.hok.fresh hle)
/-- for i, x in enumerate(t): Pv i holds ahead of turn i -/
theorem for_enT {K : PySem.W.Frag} {a : Addr} {xs : List V} {g : TG} {tb : TS} {D : Ends} {σ : L2.St} {H : Hp} (Pv : Nat → L2.St → Hp → Prop) (h0 : Pv 0 σ H) (hl : ∀ i σ H, Pv i σ H → SqT K H a xs)
    (hs : ∀ i x T σ H, xs[i]? = some x → Pv i σ H → H T = none → g (.ref T) σ (upd H T (.tup [.int (i : Nat), x])) fun σ2 H2 => tb { D with nx := Pv (i + 1), ct := Pv (i + 1), bk := D.nx } σ2 H2)
    (hd : ∀ σ H, Pv xs.length σ H → D.nx σ H) :
    ∃ W : Nat → Nat → L2.St → Hp → Prop, (∃ m, W 0 m σ H) ∧ ∀ i m σ H, W i m σ H →
      ((Iet K a xs).stop i H ∧ D.nx σ H) ∨ ((Iet K a xs).go i H ∧ ∃ N : L2.St → Hp → Prop, (∀ σ' H', N σ' H' → ∃ m', m' < m ∧ W (i + 1) m' σ' H') ∧
        ∀ x H', (Iet K a xs).yld i H x H' → g x σ H' fun σ2 H2 => tb { D with nx := N, ct := N, bk := D.nx } σ2 H2) := by
  refine ⟨fun i m σ H => i + m = xs.length ∧ Pv i σ H, ⟨xs.length, by omega, h0⟩, ?_⟩
  rintro i m σ H ⟨hm, hp⟩
  have hq := hl i σ H hp
  by_cases hi : i < xs.length
  · refine Or.inr ⟨⟨hq, hi⟩, Pv (i + 1), fun σ' H' q => ⟨m - 1, by omega, by omega, q⟩, ?_⟩
    rintro x H' ⟨T, y, rfl, hT, rfl, hy⟩
    exact hs i y T σ H hy hp hT
  · have e : i = xs.length := by omega
    subst e
    exact Or.inl ⟨⟨hq, rfl⟩, hd σ H hp⟩
end MG

/-! what a caller needs of a def, in one word; heaps that only grow -/
namespace MG
open PySem PySem.Spec PyProof.Rows L2
abbrev FnP (K : PySem.W.Frag) (x q : Str) (st : Stmt) (f : Addr) (fd : FuncData) : Prop := FunD K x q (defArgs st) (defBody st) (defScope st) [] [] f fd
/-- the def of this name keeps this promise -/
def Cal (P : Program) (w : World) (K : PySem.W.Frag) (mg : Str → Option Value) (base : Heap) (k : Nat) (x : Str) (ps : List Str) (sp : Sp) : Prop :=
  ∃ (f : Addr) (fd : FuncData), mg x = some (.ref f) ∧ PySem.W.keepIn K (.ref f) = true ∧ Binds K fd ps [] ∧ FnOk P w K mg base CX0 k f fd ps sp
def CalG (P : Program) (w : World) (K : PySem.W.Frag) (mg : Str → Option Value) (base : Heap) (k : Nat) (x : Str) (ps : List Str) (sp : Sp) : Prop :=
  ∃ (f : Addr) (fd : FuncData), mg x = some (.ref f) ∧ PySem.W.keepIn K (.ref f) = true ∧ Binds K fd ps [] ∧ GFn P w K mg base CX0 k f fd ps sp
section
variable {X : Cx} {k n : Nat} {x : Str} {ps : List Str} {sp : Sp} {p pos : Pos} {e : Expr} {es : List Expr} {t : TA}
theorem pe_cal (c : Cal X.prog X.w X.K X.mg X.base k x ps sp) (rm : Room n X.A) (ha : PA X (e :: es) t) (hk : k ≤ n := by decide) (hg : Gl X x := by rfl)
    (hdb : (x == ("__debug__" : Str)) = false := by decide) (he : starEach (e :: es) X.env = (false, eval e X.env) :: starEach es X.env := by rfl)
    (hpl : (backTo pos (starEach es X.env)).any (·.1) = false := by rfl) : PE X (.Call (.Name x p) (e :: es) [] pos) (tCall sp [] E0 t) := by
  obtain ⟨f, fd, h1, h2, h3, h4⟩ := c
  exact pe_call h4 (rm.mono hk) hg h1 h2 h3 .nil pass0 ha hdb he hpl
theorem pe_cal0 (c : Cal X.prog X.w X.K X.mg X.base k x ps sp) (rm : Room n X.A) (hk : k ≤ n := by decide) (hg : Gl X x := by rfl)
    (hdb : (x == ("__debug__" : Str)) = false := by decide) : PE X (.Call (.Name x p) [] [] pos) (tCall sp [] E0 tNil) := by
  obtain ⟨f, fd, h1, h2, h3, h4⟩ := c
  exact pe_call0 h4 (rm.mono hk) hg h1 h2 h3 .nil pass0 hdb
theorem pe_calG (c : CalG X.prog X.w X.K X.mg X.base k x ps sp) (rm : Room n X.A) (gu : X.A.guards = some []) (ha : PA X (e :: es) t) (hk : k ≤ n := by decide) (hg : Gl X x := by rfl)
    (hdb : (x == ("__debug__" : Str)) = false := by decide) (he : starEach (e :: es) X.env = (false, eval e X.env) :: starEach es X.env := by rfl)
    (hpl : (backTo pos (starEach es X.env)).any (·.1) = false := by rfl) : PE X (.Call (.Name x p) (e :: es) [] pos) (tCall sp [] E0 t) := by
  obtain ⟨f, fd, h1, h2, h3, h4⟩ := c
  exact pe_callG h4 (rm.mono hk) gu hg h1 h2 h3 .nil pass0 ha hdb he hpl
end
section
variable {P : Program} {w : World} {K : PySem.W.Frag} {mg : Str → Option Value} {base : Heap} {nm q : Str} {st : Stmt} {f : Addr} {fd : FuncData}
theorem okF {N ps : List Str} {k : Nat} {sp : Sp} (F : FnP K nm q st f fd) (S : FnScope N ps (defScope st)) (lng : ∀ a b c d, sp a b c d → a.length = ps.length)
    (hbody : ∀ (cdv : Value) (A : Around) (outer : List Env) (s : Shared) (H : Hp) (vs : List V) (Q : VK) (E : XK),
      Room k (A.deeper (envOfC q (defScope st) s.heap.objs.size f cdv)) → sp vs H Q E →
      ∃ t, PSs (cxOf CX0 P w K mg base N q (defScope st) f cdv A outer s H E).nox (defBody st) t ∧ t { nx := fun _ H' => Q .non H', rt := Q } (L2.start N vs) H) :
    FnOk P w K mg base CX0 (k + 1) f fd ps sp :=
  F.ok S lng fun cdv A outer s H vs Q E rm h => by
    obtain ⟨t, ht, hq⟩ := hbody cdv A outer s H vs Q E rm h
    exact ⟨t, ht.nox, hq⟩
theorem okFG {N ps : List Str} {k : Nat} {sp : Sp} (F : FnP K nm q st f fd) (S : FnScope N ps (defScope st)) (lng : ∀ a b c d, sp a b c d → a.length = ps.length)
    (hbody : ∀ (cdv : Value) (A : Around) (outer : List Env) (s : Shared) (H : Hp) (vs : List V) (Q : VK) (E : XK),
      Room k (A.deeper (envOfC q (defScope st) s.heap.objs.size f cdv)) → (A.deeper (envOfC q (defScope st) s.heap.objs.size f cdv)).guards = some [] → sp vs H Q E →
      ∃ t, PSs (cxOf CX0 P w K mg base N q (defScope st) f cdv A outer s H E).nox (defBody st) t ∧ t { nx := fun _ H' => Q .non H', rt := Q } (L2.start N vs) H) :
    GFn P w K mg base CX0 (k + 1) f fd ps sp :=
  okG F S lng fun cdv A outer s H vs Q E rm gu h => by
    obtain ⟨t, ht, hq⟩ := hbody cdv A outer s H vs Q E rm gu h
    exact ⟨t, ht.nox, hq⟩
end
/-- xs[i] read ahead of xs[i] op= e -/
def rGetL (K : PySem.W.Frag) : V → V → Hp → VK → Prop := fun o i H Q => ∃ p xs k v, o = .ref p ∧ i = .int k ∧ SqL K H p xs ∧ 0 ≤ k ∧ xs[k.toNat]? = some v ∧ Q v H
theorem get_list {X : Cx} : PGet X (rGetL X.K) := by
  intro pins s σ H o i ov iv Q I ro ri h
  obtain ⟨p, xs, k, v, rfl, rfl, hq, h0, hv, q⟩ := h
  cases ro
  obtain ⟨t, rfl⟩ := ri
  obtain ⟨its, r, pl, hz⟩ := I.list hq
  obtain ⟨u, eu, ru⟩ := r.get hv
  have hl := r.length
  have hlt : k.toNat < xs.length := (List.getElem?_eq_some_iff.mp hv).1
  have hn := line63
  exact wpAny_getItem_list pl.isList h0 (by omega) (by simpa using eu) ⟨v, H, I, ru, q⟩
/-! cuts: what is behind an expression or a statement is told once -/
section
variable {X : Cx}
def tCut (J : V → Prop) (te : TE) : TE := fun σ H Q => te σ H (fun v H' => J v ∧ H' = H) ∧ ∀ v, J v → Q v H
theorem pe_cut {e : Expr} {te : TE} (J : V → Prop) (h : PE X e te) : PE X e (tCut J te) := by
  refine ⟨?_⟩
  rintro pins s σ H Q I ⟨a, b⟩
  refine wpAny_mono (h.run pins s σ H _ I a) ?_ (fun _ _ z => z)
  rintro u s' ⟨v, H', I', r, hJ, rfl⟩
  exact ⟨v, _, I', r, b v hJ⟩
def tCutR (R : L2.St → Hp → V → Hp → Prop) (te : TE) : TE := fun σ H Q => te σ H (R σ H) ∧ ∀ v H', R σ H v H' → Q v H'
theorem pe_cutR {e : Expr} {te : TE} (R : L2.St → Hp → V → Hp → Prop) (h : PE X e te) : PE X e (tCutR R te) := by
  refine ⟨?_⟩
  rintro pins s σ H Q I ⟨a, b⟩
  refine wpAny_mono (h.run pins s σ H _ I a) ?_ (fun _ _ z => z)
  rintro u s' ⟨v, H', I', r, hR⟩
  exact ⟨v, _, I', r, b v H' hR⟩
def tCutS (R : L2.St → Hp → L2.St → Hp → Prop) (ts : TS) : TS := fun D σ H => ts { D with nx := R σ H } σ H ∧ ∀ σ' H', R σ H σ' H' → D.nx σ' H'
theorem ps_cut {st : Stmt} {ts : TS} (R : L2.St → Hp → L2.St → Hp → Prop) (h : PS X st ts) : PS X st (tCutS R ts) := by
  refine ⟨?_⟩
  rintro pins s σ H D I ⟨a, b⟩
  refine wpAny_mono (h.run pins s σ H _ I a) ?_ (fun _ _ z => z)
  intro fl s' hs
  match fl, hs with
  | .next, ⟨σ', H', I', q⟩ => exact ⟨σ', H', I', b σ' H' q⟩
  | .brk, hs => exact hs
  | .cont, hs => exact hs
  | .ret u, hs => exact hs
/-- tuple of a list that is tracked -/
def rTupH : List V → Hp → VK → Prop := fun vs H Q => ∃ p xs, vs = [.ref p] ∧ H p = some (.lst xs) ∧ ∀ q, H q = none → Q (.ref q) (upd H q (.tup xs))
theorem tuple_H : CallR X (.type "tuple") rTupH := by
  intro pins s σ H vs us Q I r h
  obtain ⟨p, xs, h1, h2, q⟩ := h
  exact call_tuple_of pins s σ H vs us Q I r ⟨p, xs, h1, .inl ⟨.inl (.inl h2), q⟩⟩
def rSortH : List V → Hp → VK → Prop := fun vs H Q => ∃ (a : Addr) (ns : List Int), vs = [V.ref a] ∧ H a = some (.lst (ns.map V.int)) ∧
  ∀ (ns' : List Int) (p : Addr), ns'.Perm ns → ns'.Pairwise (· ≤ ·) → H p = none → Q (.ref p) (upd H p (.lst (ns'.map V.int)))
theorem sorted_H : CallR X (.builtin "sorted") rSortH := by
  intro pins s σ H vs us Q I r h
  obtain ⟨a, ns, h1, h2, q⟩ := h
  exact cr_sortedI pins s σ H vs us Q I r ⟨a, ns, h1, .inl (.inl h2), q⟩
/-- int of an int -/
def rIntI : List V → Hp → VK → Prop := fun xs H Q => ∃ i, xs = [.int i] ∧ Q (.int i) H
theorem int_I : CallR X (.type "int") rIntI := by
  intro pins s σ H xs us Q I r h
  exact call_int1 pins s σ H xs us Q I r (.inl h)
end
/-! the same rules read off the tracked heap alone -/
section
variable {X : Cx}
def rIxH : R2 := fun x y H Q => ∃ p xs i v, x = .ref p ∧ y = .int i ∧ H p = some (.lst xs) ∧ atI xs i = some v ∧ Q v H
theorem ix_H : IxR X rIxH := by
  intro value slice pins s σ H x y v u Q I rx ry h hs
  obtain ⟨p, xs, i, z, h1, h2, hq, he, q⟩ := h
  exact ix_list value slice pins s σ H x y v u Q I rx ry ⟨p, xs, i, z, h1, h2, .inl (.inl hq), he, q⟩ hs
def rIxHT : R2 := fun x y H Q => ∃ p xs i v, x = .ref p ∧ y = .int i ∧ H p = some (.tup xs) ∧ atI xs i = some v ∧ Q v H
theorem ix_HT : IxR X rIxHT := by
  intro value slice pins s σ H x y v u Q I rx ry h hs
  obtain ⟨p, xs, i, z, h1, h2, hq, he, q⟩ := h
  exact ix_tup value slice pins s σ H x y v u Q I rx ry ⟨p, xs, i, z, h1, h2, .inl (.inl hq), he, q⟩ hs
def rLenH : List V → Hp → VK → Prop := fun vs H Q => ∃ p xs, vs = [.ref p] ∧ H p = some (.lst xs) ∧ Q (.int xs.length) H
theorem len_H : CallR X (.builtin "len") rLenH := by
  intro pins s σ H xs us Q I r h
  obtain ⟨p, ys, h1, hq, q⟩ := h
  exact call_len_seq pins s σ H xs us Q I r ⟨p, ys, h1, .inl (.inl (.inl hq)), q⟩
def rLenHT : List V → Hp → VK → Prop := fun vs H Q => ∃ p xs, vs = [.ref p] ∧ H p = some (.tup xs) ∧ Q (.int xs.length) H
theorem len_HT : CallR X (.builtin "len") rLenHT := by
  intro pins s σ H xs us Q I r h
  obtain ⟨p, ys, h1, hq, q⟩ := h
  exact call_len_seq pins s σ H xs us Q I r ⟨p, ys, h1, .inr (.inl (.inl hq)), q⟩
end
/-- isinstance told for a value of a built-in type -/
theorem isi_ty {K : PySem.W.Frag} {H : Hp} {Q : VK} {x : V} {a b : String} {r : Bool} (ty : TyX K H x (.type a)) (h : kitB a b = some r) (q : Q (.bl r) H) : rIsi K [x, .ty b] H Q :=
  ⟨x, .ty b, .type a, .type b, r, rfl, ClsV.ty b, ty, kit_ty h, q⟩
/-- nothing tracked is changed but what stands at b -/
def But (b : Addr) (H H' : Hp) : Prop := ∀ c o, c ≠ b → H c = some o → H' c = some o
theorem But.refl (b : Addr) (H : Hp) : But b H H := fun _ _ _ h => h
theorem But.trans {b : Addr} {H H1 H2 : Hp} (x : But b H H1) (y : But b H1 H2) : But b H H2 := fun c o n h => y c o n (x c o n h)
theorem But.of {b : Addr} {H H' : Hp} (x : Same H H') : But b H H' := fun c o _ h => x c o h
theorem But.upd {b : Addr} {H : Hp} {o : HO} : But b H (upd H b o) := fun c u n h => by rw [upd_ne n]; exact h
theorem But.free {b : Addr} {H H' : Hp} {p : Addr} {o : HO} (x : But b H H') (hb : H' b = some o) (h : H' p = none) : H p = none := by
  have n : p ≠ b := fun z => by rw [z, hb] at h; cases h
  match e : H p with
  | none => rfl
  | some u =>
    rw [x p u n e] at h
    cases h
theorem But.ne {b : Addr} {H : Hp} {p c : Addr} {o : HO} (h : H c = some o) (n : H p = none) : c ≠ p := ne_of_none h n
theorem same_new {H : Hp} {p : Addr} {o : HO} (h : H p = none) : Same H (upd H p o) := fun a u e => by
  rw [upd_ne (ne_of_none e h)]
  exact e
theorem Same.tup {H H' : Hp} {a : Addr} {xs : List V} (x : Same H H') (h : H a = some (.tup xs)) : H' a = some (.tup xs) := x a _ h
theorem sqT {K : PySem.W.Frag} {H : Hp} {a : Addr} {xs : List V} (h : H a = some (.tup xs)) : SqT K H a xs := .inl (.inl h)
theorem sqL {K : PySem.W.Frag} {H : Hp} {a : Addr} {xs : List V} (h : H a = some (.lst xs)) : SqL K H a xs := .inl (.inl h)
theorem erase_map {α β : Type} (g : α → β) : ∀ (l : List α) (k : Nat), (l.map g).eraseIdx k = (l.eraseIdx k).map g
  | [], _ => rfl
  | _ :: _, 0 => rfl
  | a :: l, k + 1 => by
    show g a :: (l.map g).eraseIdx k = g a :: (l.eraseIdx k).map g
    rw [erase_map g l k]
theorem erase_perm {α : Type} : ∀ {l : List α} {k : Nat} (h : k < l.length), (l[k] :: l.eraseIdx k).Perm l
  | a :: l, 0, _ => List.Perm.refl _
  | a :: l, k + 1, h => by
    have hk : k < l.length := by simpa using h
    have ih := erase_perm (l := l) (k := k) hk
    show (l[k]'hk :: a :: l.eraseIdx k).Perm (a :: l)
    exact (List.Perm.swap _ _ _).trans (ih.cons a)
theorem ixN_of {m i : Nat} {k : Int} (hk : k = i) (hi : i < m) : ixN m k = some i := by
  subst hk
  unfold ixN
  rw [if_pos (by omega), if_pos (by omega)]
  simp
theorem atI_of {α : Type} {xs : List α} {k : Int} {i : Nat} {v : α} (hk : k = i) (h : xs[i]? = some v) : atI xs k = some v := by
  subst hk
  exact atI_nat h
theorem mapI_at {ns : List Int} {i : Nat} {z : Int} (h : ns[i]? = some z) : (ns.map V.int)[i]? = some (.int z) := by
  rw [List.getElem?_map, h]
  rfl
/-- an item of a list of ints -/
theorem int_at {ns : List Int} {i : Nat} {x : V} (h : (ns.map V.int)[i]? = some x) : ∃ z, ns[i]? = some z ∧ x = .int z := by
  rw [List.getElem?_map] at h
  cases e : ns[i]? with
  | none =>
    rw [e] at h
    cases h
  | some z =>
    rw [e] at h
    exact ⟨z, rfl, (Option.some.inj h).symm⟩
end MG

/-! slices of lists with a step -/
namespace MG
open PySem PySem.Spec PyProof.Rows L2
/-- the items of xs[lo:hi:st] -/
def pick {α : Type} (xs : List α) (lo hi st : Option Int) : List α :=
  (sliceRange (sliceBounds lo hi st xs.length).1 (sliceBounds lo hi st xs.length).2.1 (sliceBounds lo hi st xs.length).2.2).filterMap (xs[·]?)
theorem pick_vals {xs : List V} {its : List Value} (r : Vals xs its) (is : List Nat) : Vals (is.filterMap (xs[·]?)) (is.filterMap (its[·]?)) := by
  induction is with
  | nil => exact .nil
  | cons i is ih =>
    match e : xs[i]? with
    | none =>
      have e2 := r.none_of e
      rw [List.filterMap_cons_none e, List.filterMap_cons_none e2]
      exact ih
    | some x =>
      obtain ⟨u, e2, ru⟩ := r.get e
      rw [List.filterMap_cons_some e, List.filterMap_cons_some e2]
      exact .cons ru ih
/-- tracked lists -/
def tSlS (K : PySem.W.Frag) (te : TE) (tl th ts : TO) : TE := fun σ H Q => te σ H fun x H1 => tl σ H1 fun lo H2 => th σ H2 fun hi H3 => ts σ H3 fun st H4 =>
  ∃ a xs, x = .ref a ∧ SqL K H4 a xs ∧ st ≠ some 0 ∧ (pick xs lo hi st).length ≤ sizeLine ∧ ∀ p, H4 p = none → Q (.ref p) (upd H4 p (.lst (pick xs lo hi st)))
theorem pe_sliceS {X : Cx} {e : Expr} {lo hi st : Option Expr} {te : TE} {tl th ts : TO} {p2 pos : Pos} (he : PE X e te) (hl : PO X lo tl) (hu : PO X hi th) (hs : PO X st ts)
    (hsub : ∀ v u, subscripted (.Slice lo hi st p2) false v u = operate [v, u] (getItem v u) := by intros; with_unfolding_all rfl)
    (htmp : ∀ v r, letTemporaryGo e v r = pure () := by intros; with_unfolding_all rfl) :
    PE X (.Subscript e (.Slice lo hi st p2) pos) (tSlS X.K te tl th ts) := by
  refine ⟨?_⟩
  intro pins s σ H Q I h
  refine Subscript_ (thn (he.run pins s σ H _ I h) ?_)
  rintro v s1 ⟨x, H1, I1, r1, q1⟩
  refine wpAny_Slice (thn (hl.run pins s1 σ H1 _ I1 q1) ?_)
  rintro vl s2 ⟨l, H2, I2, pl, q2⟩
  refine thn (hu.run pins s2 σ H2 _ I2 q2) ?_
  rintro vu s3 ⟨u, H3, I3, pu, q3⟩
  refine thn (hs.run pins s3 σ H3 _ I3 q3) ?_
  rintro vs s4 ⟨o, H4, I4, ps, a, xs, rfl, hx, h0, hpz, q⟩
  cases r1
  have I5 : Inv X pins σ H4 { s4 with heap := s4.heap.push { cls := .type "slice", data := .fields #[vl, vu, vs] } } := I4.kept (t' := s4.toks) fun b ob q => Heap.get?_push_of_some _ q
  obtain ⟨its, r, ht, hz⟩ := I5.list hx
  have hlen := r.length
  show wpAny (model X.prog X.w) X.A (subscriptTail e (.Slice lo hi st p2) (.ref a) (.ref s4.heap.objs.size)) (EP X pins σ Q) X.xe { s4 with heap := s4.heap.push { cls := .type "slice", data := .fields #[vl, vu, vs] } }
  refine tail_any (ops := [.ref a, .ref s4.heap.objs.size]) ht.isList.typeIs (PySem.slot_list_getitem.lookup) ?_ (hsub _ _)
  refine wpAny_getItem_list_slice ht.isList (Heap.IsSliceOf.new _ vl vu vs) pl pu ps h0 ?_ (by rw [List.size_toArray]; omega)
  refine ⟨.ref _, _, I5.laid (t' := s4.toks) (o := .lst (pick xs l u o)) (fun b ob q => Heap.get?_push_of_some _ q) (Nat.le_refl _) ?_, rfl, q _ (I5.hok.fresh (Nat.le_refl _))⟩
  refine ⟨hpz, pick its l u o, 0, ?_, ?_⟩
  · unfold pick
    rw [← hlen]
    exact pick_vals r _
  · have e : slicePick its.toArray l u o = (pick its l u o).toArray := by
      unfold slicePick pick
      simp
    rw [e]
    exact Heap.get?_push_size _ rfl
def tSlH (te : TE) (tl th ts : TO) : TE := fun σ H Q => te σ H fun x H1 => tl σ H1 fun lo H2 => th σ H2 fun hi H3 => ts σ H3 fun st H4 =>
  ∃ a xs, x = .ref a ∧ H4 a = some (.lst xs) ∧ st ≠ some 0 ∧ (pick xs lo hi st).length ≤ sizeLine ∧ ∀ p, H4 p = none → Q (.ref p) (upd H4 p (.lst (pick xs lo hi st)))
theorem pe_sliceH {X : Cx} {e : Expr} {lo hi st : Option Expr} {te : TE} {tl th ts : TO} {p2 pos : Pos} (he : PE X e te) (hl : PO X lo tl) (hu : PO X hi th) (hs : PO X st ts)
    (mono : ∀ σ H (Q Q' : VK), (∀ v H', Q v H' → Q' v H') → te σ H Q → te σ H Q')
    (monl : ∀ σ H (Q Q' : Option Int → Hp → Prop), (∀ v H', Q v H' → Q' v H') → tl σ H Q → tl σ H Q')
    (monh : ∀ σ H (Q Q' : Option Int → Hp → Prop), (∀ v H', Q v H' → Q' v H') → th σ H Q → th σ H Q')
    (mons : ∀ σ H (Q Q' : Option Int → Hp → Prop), (∀ v H', Q v H' → Q' v H') → ts σ H Q → ts σ H Q')
    (hsub : ∀ v u, subscripted (.Slice lo hi st p2) false v u = operate [v, u] (getItem v u) := by intros; with_unfolding_all rfl)
    (htmp : ∀ v r, letTemporaryGo e v r = pure () := by intros; with_unfolding_all rfl) :
    PE X (.Subscript e (.Slice lo hi st p2) pos) (tSlH te tl th ts) := by
  refine ⟨fun pins s σ H Q I q => (pe_sliceS he hl hu hs hsub htmp).run pins s σ H Q I ?_⟩
  refine mono σ H _ _ (fun x H1 h1 => ?_) q
  refine monl σ H1 _ _ (fun lo H2 h2 => ?_) h1
  refine monh σ H2 _ _ (fun hi H3 h3 => ?_) h2
  refine mons σ H3 _ _ (fun st H4 h4 => ?_) h3
  obtain ⟨a, xs, h5, h6, h7⟩ := h4
  exact ⟨a, xs, h5, .inl (.inl h6), h7⟩
theorem pe_conv {X : Cx} {e : Expr} {t u : TE} (h : PE X e t) (i : ∀ σ H Q, u σ H Q → t σ H Q) : PE X e u :=
  ⟨fun pins s σ H Q I q => h.run pins s σ H Q I (i σ H Q q)⟩
def rSumH : List V → Hp → VK → Prop := fun vs H Q => ∃ (a : Addr) (ns : List Int), vs = [V.ref a] ∧ H a = some (.lst (ns.map V.int)) ∧ Q (.int ns.sum) H
theorem sum_H {X : Cx} (hc : X.calm = true) : CallR X (.builtin "sum") rSumH := by
  intro pins s σ H vs us Q I r h
  obtain ⟨a, ns, h1, h2, q⟩ := h
  exact cr_sum hc pins s σ H vs us Q I r ⟨a, ns, h1, .inl (.inl h2), q⟩
theorem pick_map {α β : Type} (g : α → β) (xs : List α) (lo hi st : Option Int) : pick (xs.map g) lo hi st = (pick xs lo hi st).map g := by
  unfold pick
  rw [List.length_map, List.map_filterMap]
  congr 1
  funext i
  rw [List.getElem?_map]
end MG

/-! calls by names alone -/
namespace MG
open PySem PySem.Spec PyProof.Rows L2
def CalK (P : Program) (w : World) (K : PySem.W.Frag) (mg : Str → Option Value) (base : Heap) (k : Nat) (x : Str) (ps : List Str) (sp : Sp) (n : Nat) (ks : List Str) (gV : List V → List V → List V) : Prop :=
  ∃ (f : Addr) (fd : FuncData) (g : List Value → List Value → List Value), mg x = some (.ref f) ∧ PySem.W.keepIn K (.ref f) = true ∧ KBn K fd ps n ks g gV ∧ FnOk P w K mg base CX0 k f fd ps sp
section
variable {X : Cx} {k m : Nat} {x : Str} {ps ks : List Str} {sp : Sp} {gV : List V → List V → List V} {p pos : Pos} {kws : List Keyword} {tk : TA}
theorem pe_calK0 (c : CalK X.prog X.w X.K X.mg X.base k x ps sp 0 ks gV) (rm : Room m X.A) (hkw : PK X kws tk) (hk : k ≤ m := by decide) (hg : Gl X x := by rfl)
    (hall : (backToKw pos (keywordEach kws X.env)).all (·.1.isSome) = true := by rfl) (hks : (backToKw pos (keywordEach kws X.env)).filterMap (·.1) = ks := by rfl)
    (hdb : (x == ("__debug__" : Str)) = false := by decide)
    (hpl : ((backTo pos (starEach [] X.env)).any (·.1) || (backToKw pos (keywordEach kws X.env)).any (·.1.isNone)) = false := by rfl) :
    PE X (.Call (.Name x p) [] kws pos) (tCallN 0 ks.length sp gV E0 tNil tk) := by
  obtain ⟨f, fd, g, h1, h2, h3, h4⟩ := c
  refine ⟨?_⟩
  intro pins s σ H Q I h
  refine wpAny_Call_Name_kw (ld_glob I hg h1 ?_ hdb)
  refine PySem.W.callWith_KW0 (h₀ := X.base) I.ok.mod.kin h2 hall ?_ hpl
  refine thn (hkw.run pos pins s σ H _ I h) ?_
  rintro ws s2 ⟨zs, H2, I2, rz, l1, l2, q2⟩
  refine ⟨I2.kIn, ?_⟩
  rw [hks]
  exact run_fnN (us := []) h4 (rm.mono hk) h3 pass0 I2 .nil rz l1 l2 q2
end
end MG

/-! repr: data that can be shown, the text not above n signs, k levels deep -/
namespace MG
open PySem PySem.Spec PyProof.Rows L2
structure Shw (n k : Nat) (d : PyData) : Prop where
  can : d.showable = true
  nod : d.hasDict = false
  dep : d.depth ≤ k
  len : d.shown.length ≤ n
theorem Shw.mono {n n' k k' : Nat} {d : PyData} (h : Shw n k d) (hn : n ≤ n') (hk : k ≤ k') : Shw n' k' d := ⟨h.can, h.nod, Nat.le_trans h.dep hk, Nat.le_trans h.len hn⟩
theorem shw_int {i : Int} (h : i.natAbs < 2 ^ 1000) : Shw 1001 0 (.int i) := by
  have z : i.natAbs.log2 < 1000 := by
    by_cases z : i.natAbs = 0
    · rw [z]
      decide
    · exact (Nat.log2_lt z).mpr h
  refine ⟨?_, rfl, Nat.le_refl _, ?_⟩
  · have z2 : i.natAbs.log2 < 1920 := Nat.lt_trans z (by decide)
    simp [PyData.showable, z2]
  · show (Str.ofString (toString i)).length ≤ 1001
    rw [PySem.ofString_length]
    exact int_text_length_le (by decide) z
theorem shw_none : Shw 4 0 .none := ⟨rfl, rfl, Nat.le_refl _, by decide⟩
theorem shw_bool {b : Bool} : Shw 5 0 (.bool b) := ⟨rfl, rfl, Nat.le_refl _, by cases b <;> decide⟩
theorem shw_all {n k : Nat} : ∀ {ds : List PyData}, (∀ d ∈ ds, Shw n k d) → PyData.showableAll ds = true ∧ PyData.hasDictAll ds = false ∧ PyData.depthAll ds ≤ k ∧ ((PyData.shownAll ds).map (·.length)).sum ≤ ds.length * n
  | [], _ => ⟨rfl, rfl, Nat.zero_le _, Nat.zero_le _⟩
  | d :: ds, h => by
    have h1 := h d (by simp)
    obtain ⟨a, b, c, e⟩ := shw_all (ds := ds) fun x hx => h x (by simp [hx])
    refine ⟨?_, ?_, ?_, ?_⟩
    · show (d.showable && PyData.showableAll ds) = true
      rw [h1.can, a]
      rfl
    · show (d.hasDict || PyData.hasDictAll ds) = false
      rw [h1.nod, b]
      rfl
    · exact Nat.max_le.mpr ⟨h1.dep, c⟩
    · show (d.shown.length + ((PyData.shownAll ds).map (·.length)).sum) ≤ (ds.length + 1) * n
      rw [Nat.add_mul, Nat.one_mul]
      have := h1.len
      omega
theorem shw_list {n k m : Nat} {ds : List PyData} (h : ∀ d ∈ ds, Shw n k d) (hm : ds.length ≤ m) : Shw (m * (n + 2) + 3) (k + 1) (.list ds) := by
  obtain ⟨a, b, c, e⟩ := shw_all h
  refine ⟨a, b, Nat.succ_le_succ c, ?_⟩
  have l := listText_len_le (PyData.shownAll ds)
  rw [PyData.shownAll_length] at l
  have z : ds.length * (n + 2) ≤ m * (n + 2) := Nat.mul_le_mul_right _ hm
  rw [Nat.mul_add] at z
  show (listText (PyData.shownAll ds)).length ≤ _
  omega
theorem shw_tuple {n k m : Nat} {ds : List PyData} (h : ∀ d ∈ ds, Shw n k d) (hm : ds.length ≤ m) : Shw (m * (n + 2) + 3) (k + 1) (.tuple ds) := by
  obtain ⟨a, b, c, e⟩ := shw_all h
  refine ⟨a, b, Nat.succ_le_succ c, ?_⟩
  have l := tupleText_len_le (PyData.shownAll ds)
  rw [PyData.shownAll_length] at l
  have z : ds.length * (n + 2) ≤ m * (n + 2) := Nat.mul_le_mul_right _ hm
  rw [Nat.mul_add] at z
  show (tupleText (PyData.shownAll ds)).length ≤ _
  omega
theorem shw_ints {ns : List Int} {m : Nat} (h : ∀ i ∈ ns, i.natAbs < 2 ^ 1000) (hm : ns.length ≤ m) : Shw (m * 1003 + 3) 1 (.list (ns.map .int)) :=
  shw_list (fun d hd => by obtain ⟨i, hi, rfl⟩ := List.mem_map.mp hd; exact shw_int (h i hi)) (by simpa using hm)
theorem shw_intsT {ns : List Int} {m : Nat} (h : ∀ i ∈ ns, i.natAbs < 2 ^ 1000) (hm : ns.length ≤ m) : Shw (m * 1003 + 3) 1 (.tuple (ns.map .int)) :=
  shw_tuple (fun d hd => by obtain ⟨i, hi, rfl⟩ := List.mem_map.mp hd; exact shw_int (h i hi)) (by simpa using hm)
/-- repr, told by Shw -/
def rReprS (K : PySem.W.Frag) : List V → Hp → VK → Prop := fun xs H Q => ∃ (a : Addr) (d : PyData), xs = [.ref a] ∧ Dp K H (.ref a) d ∧ Shw 16000000 90 d ∧ Q (.str d.shown) H
theorem repr_S {X : Cx} {n : Nat} (hg : X.A.guards = some []) (rm : Room n X.A) : CallR X (.builtin "repr") (rReprS X.K) := by
  intro pins s σ H xs us Q I r h
  obtain ⟨a, d, h1, h2, h3, q⟩ := h
  exact call_reprD hg rm pins s σ H xs us Q I r ⟨a, d, h1, h2, h3.can, h3.nod, Nat.lt_of_le_of_lt h3.dep (by decide), Nat.le_trans h3.len (by decide), q⟩
theorem dpI {K : PySem.W.Frag} {H : Hp} : ∀ ns : List Int, DpAll K H (ns.map V.int) (ns.map PyData.int)
  | [] => .nil
  | n :: ns => .cons (.int n) (dpI ns)
theorem dpL {K : PySem.W.Frag} {H : Hp} {a : Addr} {ns : List Int} (h : H a = some (.lst (ns.map V.int))) : Dp K H (.ref a) (.list (ns.map .int)) := .lst (.inl (.inl h)) (dpI ns)
theorem dpT {K : PySem.W.Frag} {H : Hp} {a : Addr} {ns : List Int} (h : H a = some (.tup (ns.map V.int))) : Dp K H (.ref a) (.tuple (ns.map .int)) := .tup (.inl (.inl h)) (dpI ns)
theorem layI : ∀ ns : List Int, PyData.canLayAll0 (ns.map PyData.int) = true ∧ PyData.depthAll (ns.map PyData.int) = 0
  | [] => ⟨rfl, rfl⟩
  | n :: ns => by
    obtain ⟨a, b⟩ := layI ns
    refine ⟨?_, ?_⟩
    · show (PyData.canLay0 (.int n) && PyData.canLayAll0 (ns.map PyData.int)) = true
      rw [a]
      rfl
    · show max (PyData.depth (.int n)) (PyData.depthAll (ns.map PyData.int)) = 0
      rw [b]
      rfl
theorem shapedI (ns : List Int) : SeqAt.shaped (.tuple (ns.map .int)) = true := by
  obtain ⟨a, b⟩ := layI ns
  have d : (PyData.tuple (ns.map .int)).depth ≤ 64 := by
    show PyData.depthAll (ns.map PyData.int) + 1 ≤ 64
    omega
  have c : (PyData.tuple (ns.map .int)).canLay0 = true := a
  unfold SeqAt.shaped
  rw [c]
  simpa using d
/-- a statement behind which only new things stand -/
def rNext : L2.St → Hp → L2.St → Hp → Prop := fun σ H σ' H' => σ' = σ ∧ Same H H'
end MG

/-! the head: defs by any address that the written part tells, and one more test of it -/
namespace MG
open PySem PySem.Spec PyProof.Rows L2
structure Dm where
  ad : PySem.W.Frag → Addr
  nm : Str
  ql : Str
  st : Stmt
def atG (x : Str) : PySem.W.Frag → Addr := fun K => He.ga K x
def atM (x m : Str) : PySem.W.Frag → Addr := fun K => He.ma K (He.ga K x) m
/-- a property's getter -/
def atP (x m : Str) : PySem.W.Frag → Addr := fun K => match PySem.W.recIn K (He.ma K (He.ga K x) m) "property" with
  | some (.ref g :: _) => g
  | _ => 0
def fnAt (K : PySem.W.Frag) (a : Addr) : He.FnW := match K.lookup a with
  | some ⟨_, _, .func d, _⟩ => some (d.name, d.qualname, d.params, d.body, d.scope, d.globals, d.closure, d.builtins)
  | _ => none
def Dm.val (d : Dm) : He.FnW := some (d.nm, d.ql, defArgs d.st, .stmts (defBody d.st), defScope d.st, mainGlobals, [], builtinsNs)
def noneB : Value → Bool
  | .none => true
  | _ => false
theorem noneB_ok : ∀ {v : Value}, noneB v = true → v = .none
  | .none, _ => rfl
def Dm.ok (K : PySem.W.Frag) (d : Dm) : Bool := PySem.W.keepIn K (.ref (d.ad K)) && (match K.lookup (d.ad K) with
  | some ⟨_, _, .func e, _⟩ => PySem.W.codeIn K e.code d.ql && noneB e.defaults
  | _ => false)
theorem Dm.fun_ {K : PySem.W.Frag} {d : Dm} (e : fnAt K (d.ad K) = d.val) (c : d.ok K = true) : ∃ fd, FnP K d.nm d.ql d.st (d.ad K) fd := by
  obtain ⟨kp, c2⟩ := He.ba c
  unfold fnAt at e
  cases q : K.lookup (d.ad K) with
  | none =>
    rw [q] at c2
    cases c2
  | some o =>
    obtain ⟨oc, od, dt, osl⟩ := o
    rw [q] at c2 e
    cases dt with
    | func fd =>
      obtain ⟨n1, n2, n3, n4, n5, n6, n7, n8, n9, n10, n11, n12, n13, n14, n15⟩ := fd
      have e2 : (some (n1, n2, n3, n4, n5, n6, n7, n15) : He.FnW) = some (d.nm, d.ql, defArgs d.st, .stmts (defBody d.st), defScope d.st, mainGlobals, [], builtinsNs) := e
      simp only [Option.some.injEq, Prod.mk.injEq] at e2
      obtain ⟨h1, h2, h3, h4, h5, h6, h7, h8⟩ := e2
      subst h1 h2 h3 h4 h5 h6 h7 h8
      have c3 : (PySem.W.codeIn K n13 d.ql && noneB n8) = true := c2
      obtain ⟨k1, k2⟩ := He.ba c3
      exact ⟨_, ⟨oc, od, n8, n9, n10, n11, n12, n13, n14, osl, rfl, q, k1, .inl ⟨rfl, noneB_ok k2⟩, .inl rfl⟩, kp⟩
    | _ => cases c2
def obsM (fa : List He.Fa) (fn : List Dm) (ex : PySem.W.Frag → Bool) (K : PySem.W.Frag) : Bool × List He.FnW := (((fa.all fun f => f.ok K) && fn.all fun d => d.ok K) && ex K, fn.map fun d => fnAt K (d.ad K))
def SaysM (fa : List He.Fa) (fn : List Dm) (ex : PySem.W.Frag → Bool) (K : PySem.W.Frag) : Prop := obsM fa fn ex K = (true, fn.map Dm.val)
def obsMG (n : Nat) (fa : List He.Fa) (fn : List Dm) (ex : PySem.W.Frag → Bool) (g : Addr → Option Obj) : Bool × List He.FnW := obsM fa fn ex (He.frG g (He.asD g n))
def hookM (n : Nat) (fa : List He.Fa) (fn : List Dm) (ex : PySem.W.Frag → Bool) : PySem.W.Hook where
  α := Bool × List He.FnW
  obs := fun s => obsMG n fa fn ex s.heap.get?
  val := fun _ => (true, fn.map Dm.val)
  says := fun _ h => ∃ K : PySem.W.Frag, K.In h ∧ SaysM fa fn ex K
  of := fun _ _ e => ⟨_, He.frG_in, e⟩
  keeps := fun _ _ _ ⟨K, hK, c⟩ k => ⟨K, PySem.W.Frag.In.keeps hK k, c⟩
theorem obsMG_eq {n : Nat} {fa : List He.Fa} {fn : List Dm} {ex : PySem.W.Frag → Bool} {g : Addr → Option Obj} {s : Shared} (h : ∀ a, g a = s.heap.get? a) : obsMG n fa fn ex g = (hookM n fa fn ex).obs s := by
  have e : g = s.heap.get? := funext h
  rw [e]
  rfl
section
variable {fa : List He.Fa} {fn : List Dm} {ex : PySem.W.Frag → Bool} {K : PySem.W.Frag}
theorem SaysM.all (c : SaysM fa fn ex K) : ((fa.all fun f => f.ok K) = true ∧ (fn.all fun d => d.ok K) = true) ∧ ex K = true := by
  have z : (((fa.all fun f => f.ok K) && fn.all fun d => d.ok K) && ex K) = true := congrArg (fun z : Bool × List He.FnW => z.1) c
  obtain ⟨a, b⟩ := He.ba z
  exact ⟨He.ba a, b⟩
theorem SaysM.fact (c : SaysM fa fn ex K) (i : Nat) {f : He.Fa} (h : fa[i]? = some f := by rfl) : f.ok K = true :=
  List.all_eq_true.mp c.all.1.1 f (List.mem_of_getElem? h)
theorem SaysM.def_ (c : SaysM fa fn ex K) (i : Nat) {d : Dm} (h : fn[i]? = some d := by rfl) : ∃ fd, FnP K d.nm d.ql d.st (d.ad K) fd := by
  have e : fn.map (fun d => fnAt K (d.ad K)) = fn.map Dm.val := congrArg (fun z : Bool × List He.FnW => z.2) c
  have e2 : (fn.map fun d => fnAt K (d.ad K))[i]? = (fn.map Dm.val)[i]? := by rw [e]
  rw [List.getElem?_map, List.getElem?_map, h] at e2
  exact Dm.fun_ (Option.some.inj e2) (List.all_eq_true.mp c.all.1.2 d (List.mem_of_getElem? h))
theorem SaysM.more (c : SaysM fa fn ex K) : ex K = true := c.all.2
end
/-- the class's own getattr facts that isinstance asks for -/
def isiB (K : PySem.W.Frag) (C : Addr) : Bool := He.eqO (PySem.W.findIn K (.ref C) "__class__") (some (some (.builtin "object.__class__"))) &&
  (He.eqO (PySem.W.specialIn K (.builtin "object.__class__") "__get__") (some (some (.builtin "getset_descriptor.__get__"))) && (decide (PySem.W.takesIn K (.builtin "object.__class__") = some true) && decide (PySem.W.mroIn K C (.type "object") = some true)))
theorem isiB_ok {K : PySem.W.Frag} {C : Addr} (h : isiB K C = true) : PySem.W.findIn K (.ref C) "__class__" = some (some (.builtin "object.__class__")) ∧ PySem.W.specialIn K (.builtin "object.__class__") "__get__" = some (some (.builtin "getset_descriptor.__get__")) ∧
    PySem.W.takesIn K (.builtin "object.__class__") = some true ∧ PySem.W.mroIn K C (.type "object") = some true := by
  obtain ⟨a, h⟩ := He.ba h
  obtain ⟨b, h⟩ := He.ba h
  obtain ⟨c, d⟩ := He.ba h
  exact ⟨He.eqO_ok a, He.eqO_ok b, of_decide_eq_true c, of_decide_eq_true d⟩
/-- a property -/
def propB (K : PySem.W.Frag) (C : Addr) (m : Str) : Bool := He.eqO (PySem.W.findIn K (.ref C) m) (some (some (.ref (He.ma K C m)))) &&
  (He.eqO (PySem.W.specialIn K (.ref (He.ma K C m)) "__get__") (some (some (.builtin "property.__get__"))) && (decide (PySem.W.takesIn K (.ref (He.ma K C m)) = some true) &&
    (match PySem.W.recIn K (He.ma K C m) "property" with
      | some (.ref _ :: _) => true
      | _ => false)))
theorem propB_ok {K : PySem.W.Frag} {x m : Str} (h : propB K (He.ga K x) m = true) : PropOf K (He.ga K x) m (He.ma K (He.ga K x) m) (atP x m K) := by
  obtain ⟨a, h⟩ := He.ba h
  obtain ⟨b, h⟩ := He.ba h
  obtain ⟨c, d⟩ := He.ba h
  refine ⟨He.eqO_ok a, He.eqO_ok b, of_decide_eq_true c, ?_⟩
  unfold atP
  match q : PySem.W.recIn K (He.ma K (He.ga K x) m) "property", d with
  | some (.ref g :: r), _ => exact ⟨r, rfl⟩
/-- a call by position binds -/
theorem bindsP {K : PySem.W.Frag} {x q : Str} {st : Stmt} {f : Addr} {fd : FuncData} {ps : List Str} (F : FnP K x q st f fd)
    (h : ∀ (kV doc pm : Value) (an : Option Addr) (cdv ct : Value) (us : List Value), us.length = ps.length → bindArgs (PySem.W.fnOf x q (defArgs st) (defBody st) (defScope st) .none kV doc pm an cdv ct) ⟨us, []⟩ = pure (ps.zip us)) : Binds K fd ps [] := by
  obtain ⟨oc, od, dV, kV, doc, pm, an, cdv, ct, osl, rfl, lk, hcd, hd, _⟩ := F.ex
  rcases hd with ⟨_, rfl⟩ | ⟨z, _⟩
  · exact .all (h kV doc pm an cdv ct)
  · exact absurd rfl z
theorem bindsA {K : PySem.W.Frag} {x q : Str} {st : Stmt} {f : Addr} {fd : FuncData} {ps : List Str} (F : FnP K x q st f fd)
    (h : ∀ (kV doc pm : Value) (an : Option Addr) (cdv ct : Value) (us : List Value), us.length = ps.length → bindArgs (PySem.W.fnOf x q (defArgs st) (defBody st) (defScope st) .none kV doc pm an cdv ct) ⟨us, []⟩ = pure (ps.zip us)) (s : Shared) (us : List Value) (hl : us.length = ps.length) : BindsTo s fd ⟨us, []⟩ (ps.zip us) := by
  obtain ⟨oc, od, dV, kV, doc, pm, an, cdv, ct, osl, rfl, lk, hcd, hd, _⟩ := F.ex
  rcases hd with ⟨_, rfl⟩ | ⟨z, _⟩
  · exact .of_eq (h kV doc pm an cdv ct us hl)
  · exact absurd rfl z
def sw2 {α : Type} : List α → List α
  | [a, b] => [b, a]
  | l => l
theorem sw2_vals {zs : List V} {ws : List Value} (r : Vals zs ws) : Vals (sw2 zs) (sw2 ws) := by
  cases r with
  | nil => exact .nil
  | cons a r =>
    cases r with
    | nil => exact .cons a .nil
    | cons b r =>
      cases r with
      | nil => exact .cons b (.cons a .nil)
      | cons c r => exact .cons a (.cons b (.cons c r))
/-- a call by names -/
theorem bindsK {K : PySem.W.Frag} {x q : Str} {st : Stmt} {f : Addr} {fd : FuncData} {ps ks : List Str} {n : Nat} {g : List Value → List Value → List Value} {gV : List V → List V → List V} (F : FnP K x q st f fd)
    (h : ∀ (kV doc pm : Value) (an : Option Addr) (cdv ct : Value) (us ws : List Value), us.length = n → ws.length = ks.length → bindArgs (PySem.W.fnOf x q (defArgs st) (defBody st) (defScope st) .none kV doc pm an cdv ct) ⟨us, ks.zip ws⟩ = pure (ps.zip (g us ws)))
    (r : ∀ {vs : List V} {us : List Value} {zs : List V} {ws : List Value}, Vals vs us → Vals zs ws → Vals (gV vs zs) (g us ws)) : KBn K fd ps n ks g gV := by
  obtain ⟨oc, od, dV, kV, doc, pm, an, cdv, ct, osl, rfl, lk, hcd, hd, _⟩ := F.ex
  rcases hd with ⟨_, rfl⟩ | ⟨z, _⟩
  · exact ⟨fun s us ws _ h1 h2 => .of_eq (h kV doc pm an cdv ct us ws h1 h2), r⟩
  · exact absurd rfl z
theorem calOf {P : Program} {w : World} {K : PySem.W.Frag} {mg : Str → Option Value} {base : Heap} {k : Nat} {x : Str} {ps : List Str} {sp : Sp} {f : Addr} {fd : FuncData} {q : Str} {st : Stmt}
    (g : mg x = some (.ref f)) (F : FnP K x q st f fd) (b : Binds K fd ps []) (o : FnOk P w K mg base CX0 k f fd ps sp) : Cal P w K mg base k x ps sp := ⟨f, fd, g, F.kp, b, o⟩
theorem calGOf {P : Program} {w : World} {K : PySem.W.Frag} {mg : Str → Option Value} {base : Heap} {k : Nat} {x : Str} {ps : List Str} {sp : Sp} {f : Addr} {fd : FuncData} {q : Str} {st : Stmt}
    (g : mg x = some (.ref f)) (F : FnP K x q st f fd) (b : Binds K fd ps []) (o : GFn P w K mg base CX0 k f fd ps sp) : CalG P w K mg base k x ps sp := ⟨f, fd, g, F.kp, b, o⟩
end MG

/-! set of a list of ints -/
namespace MG
open PySem PySem.Spec PyProof.Rows L2
section
variable {P : Program} {w : World} {A : Around} {E : Value → Shared → Prop} {s : Shared}
/-- an empty set as it is laid -/
abbrev emp (w : World) : Obj := { cls := .type "set", dict := none, data := .set #[] 0 (.fresh 0 0 (!w.params.followText "set-order")) }
theorem ints_val {items : Array Value} {ns : List Int} (hit : IntsAre items.toList ns) (hz : items.size = ns.length) (i : Nat) (v : Value) (hv : items[i]? = some v) : ∃ k t, ns[i]? = some k ∧ v = .int k t := by
  have hi : i < ns.length := hz ▸ (Array.getElem?_eq_some_iff.mp hv).1
  obtain ⟨t, e⟩ := IntsAre.int_at hit i v ((Array.getElem?_toList ..).trans hv)
  exact ⟨ns[i], t, List.getElem?_eq_getElem hi, by rw [e, List.getD_eq_getElem?_getD, List.getElem?_eq_getElem hi]; rfl⟩
theorem set_of_list {l : Addr} {items : Array Value} (ns : List Int) {Q : Value → Shared → Prop} (hh : A.handled = none) (hl : s.heap.IsList l items) (hit : IntsAre items.toList ns) (hb : ns.length + 1 < scanBound)
    (h : ∀ (h' : Heap) (tk c : Nat), SetR w h' s.heap.objs.size (fun j => decide (j ∈ ns)) c → c ≤ ns.length → (∀ b o, s.heap.get? b = some o → h'.get? b = some o) → Q (.ref s.heap.objs.size) { s with heap := h', toks := tk }) :
    wpAny (model P w) A (call (.type "set") [.ref l]) Q E s := by
  have hisz : items.size = ns.length := (Array.length_toList ..).symm.trans (IntsAre.length hit)
  obtain ⟨c, tl, hmro⟩ := F.called_set.mro
  have hmade := F.called_set.made
  have hsub := F.called_set.sub
  refine wpAny_call (codeAny_of_tree ?_)
  show wpAny _ _ (callAny (.type "set") _) _ _ _
  refine wpAny_pure ⟨Code.quiet_builtin _ (by decide +kernel), codeAny_builtin F.entry_type_call ?_⟩
  rw [Around.under_plain (weight_type_call_type "set" [.ref l] []) rfl]
  have h1 := F.called_set.notType
  have h2 := F.called_set.canCreate
  have hct := F.typeCall_set_1 (.ref l)
  repeat (any_goals (first | assumption | wp_step))
  refine codeAny_mono (code_set_led1 (.ref l) (E := E) (Q₁ := fun ob s₁ => ob = .ref s.heap.objs.size ∧ s₁ = { s with heap := s.heap.push (emp w) }) ⟨rfl, rfl⟩) ?_
  intro r s₁ hr
  cases r with
  | error e => exact hr
  | ok fl =>
    cases fl with
    | ret ob =>
      obtain ⟨rfl, rfl⟩ := hr
      have hS : (s.heap.push (emp w)).get? s.heap.objs.size = some (emp w) := Heap.get?_push_size _ rfl
      have hT : Shared.TypeIs { s with heap := s.heap.push (emp w) } (.ref s.heap.objs.size) "set" := ⟨_, hS, rfl⟩
      have hli := F.called_set.init.lookup
      have hbi := F.called_set.init.bind (.ref s.heap.objs.size)
      repeat (any_goals (first | assumption | wp_step))
      refine codeAny_mono (codeAny_call_builtin (R := wants (fun r s₂ => r = .none ∧ ∃ h' tk c, s₂ = { s with heap := h', toks := tk } ∧ SetR w h' s.heap.objs.size (fun j => decide (j ∈ ns)) c ∧ c ≤ ns.length ∧
          (∀ b o, s.heap.get? b = some o → h'.get? b = some o)) E) F.called_set.init.plain F.entry_set_init (check_set_init_1 hT ?_)) ?_
      · obtain ⟨⟨ocls, odict, odata, oslots⟩, hol, hcl, nl, hdl⟩ := hl
        simp only at hcl hdl
        subst hcl hdl
        have hol' : (s.heap.push (emp w)).get? l = some { cls := .type "list", dict := odict, data := .seq items nl, slots := oslots } := Heap.get?_push_of_some _ hol
        have hsls := F.sub_list_set
        have hslf := F.sub_list_frozenset
        have hne : (Value.type "list" == Value.type "dict") = false := by decide
        have hl1 : (s.heap.push (emp w)).IsList l items := ⟨_, hol', rfl, nl, rfl⟩
        unfold Builtin.«set.__init__» noKeywords Builtin.Frozenset.updateFrom
        generalize hPI : pyIter = PI
        wp_walk
        subst hPI
        refine wpAny_pyIter_list hl1 ?_
        refine wpAny_bind (wpAny_runValue ?_)
        have hlS : l < s.heap.objs.size := Heap.lt_size hol
        have hh3 : A.in1.in1.in1.handled = none := by simp [hh]
        have hz1 : (s.heap.push (emp w)).objs.size = s.heap.objs.size + 1 := Heap.size_push ..
        have hneI : l ≠ (s.heap.push (emp w)).objs.size := by
          rw [hz1]
          exact Nat.ne_of_lt (Nat.lt_succ_of_lt hlS)
        have hSf : s.heap.objs.size ∉ [(s.heap.push (emp w)).objs.size, l] := by
          rw [hz1]
          simp only [List.mem_cons, List.not_mem_nil, or_false, not_or]
          exact ⟨Nat.ne_of_lt (Nat.lt_succ_self _), Nat.ne_of_gt hlS⟩
        refine set_update_ints ((Walks.list hh3 _ l hneI items).toS) s.heap.objs.size hSf ns hisz hb (ints_val hit hisz) (items.size - 0) 0 _ (by omega) (Nat.zero_le _)
          ⟨⟨_, Heap.get?_push_size _ rfl, rfl, rfl⟩, (hl1.push _)⟩ ?hS0 ?hR
        case hS0 => exact ⟨0, Nat.le_refl 0, setR_new_at (Heap.get?_push_of_some _ hS)⟩
        case hR =>
          intro s' c' hm hc' hS'
          obtain ⟨h', g2, d', tk', os'⟩ := s'
          obtain rfl : g2 = s.gens := hm.gens
          obtain rfl : d' = s.drawn := hm.drawn
          obtain rfl : os' = s.os := hm.os
          show wpAny _ _ _ _ _ _
          refine wpAny_pure ?_
          show wpAny _ _ (ret Value.none) _ _ _
          refine wpAny_pure ⟨rfl, h', tk', c', rfl, hS', hisz ▸ hc', ?_⟩
          intro b o e
          have hb0 : b < s.heap.objs.size := Heap.lt_size e
          refine hm.heap b o ?_ (Heap.get?_push_of_some _ (Heap.get?_push_of_some _ e))
          rw [hz1]
          simp only [List.mem_cons, List.not_mem_nil, or_false, not_or]
          exact ⟨Nat.ne_of_lt hb0, Nat.ne_of_lt (Nat.lt_succ_of_lt hb0)⟩
      · intro r₂ s₂ hr₂
        cases r₂ with
        | error e => exact hr₂
        | ok fl₂ =>
          cases fl₂ with
          | ret r =>
            obtain ⟨rfl, h', tk, c', rfl, hS', hc', hk'⟩ := hr₂
            repeat (any_goals (first | assumption | wp_step))
            exact h _ _ _ hS' hc' hk'
          | _ => exact hr₂.elim
    | _ => exact hr.elim
end
section
variable {X : Cx}
def rSetLi (w : World) : List V → Hp → VK → Prop := fun vs H Q => ∃ (a : Addr) (ns : List Int), vs = [.ref a] ∧ H a = some (.lst (ns.map V.int)) ∧ ns.length < 1000 ∧
  ∀ p c, H p = none → c ≤ ns.length → Q (.ref p) (upd H p (SetO w p (fun j => decide (j ∈ ns)) c))
theorem set_L (hc : X.calm = true) : CallR X (.type "set") (rSetLi X.w) := by
  intro pins s σ H vs us Q I r h
  obtain ⟨a, ns, rfl, ha, hl, q⟩ := h
  obtain ⟨u, rfl, rx⟩ := vals1 r
  cases (show u = Value.ref a from rx)
  obtain ⟨its, rv, p, hz⟩ := I.list (a := a) (xs := ns.map V.int) (.inl (.inl ha))
  refine set_of_list ns (I.ok.hd hc) p.isList (by simpa using intsAre_of rv) (Nat.lt_of_le_of_lt (show ns.length + 1 ≤ 1000 by omega) (by decide)) ?_
  intro h' tk c hS hc' hk
  exact ⟨.ref _, _, I.laid (t' := tk) hk (Nat.le_refl _) (setO_new hS), rfl, q _ c (I.hok.fresh (Nat.le_refl _)) hc'⟩
end
end MG

/-! set(xs), set(), s.add(x), sorted: of nested tuples of whole numbers -/
namespace NT
open PySem PySem.Spec PyProof.Rows L2
mutual
/-- what is tracked as the key k -/
def KeyH (K : PySem.W.Frag) (H : Hp) : NestedKey → V → Prop
  | .num i, x => x = .int i
  | .tup ks, x => ∃ (a : Addr) (xs : List V), x = .ref a ∧ SqT K H a xs ∧ KeysH K H ks xs
  | .none, _ => False
  | .text _, _ => False
def KeysH (K : PySem.W.Frag) (H : Hp) : List NestedKey → List V → Prop
  | [], xs => xs = []
  | k :: ks, xs => ∃ x r, xs = x :: r ∧ KeyH K H k x ∧ KeysH K H ks r
end
section
variable {X : Cx} {pins : List (Addr × Obj)} {σ : L2.St} {H : Hp} {s : Shared}
mutual
theorem key_is (I : Inv X pins σ H s) : ∀ (k : NestedKey) (x : V) (v : Value), KeyH X.K H k x → RelV x v → NestedIs s.heap k v ∧ (∃ as, Reads s.heap v k.data as) ∧ numK k = true
  | .num i, x, v, h, r => by
    have e : x = .int i := h
    subst e
    obtain ⟨t, rfl⟩ := r
    exact ⟨.int i t, ⟨_, .int i t⟩, rfl⟩
  | .tup ks, x, v, h, r => by
    obtain ⟨a, xs, rfl, hs, hk⟩ := h
    cases (show v = Value.ref a from r)
    obtain ⟨its, rv, ⟨o, ho, hc, n, hd⟩, _⟩ := I.tuple hs
    obtain ⟨i1, ⟨as, i2⟩, i3⟩ := keys_is I ks xs its hk rv
    exact ⟨.tup ho hc hd (by simpa using i1), ⟨as, .tuple ho hc hd (by simpa using i2)⟩, i3⟩
  | .none, x, v, h, r => h.elim
  | .text y, x, v, h, r => h.elim
theorem keys_is (I : Inv X pins σ H s) : ∀ (ks : List NestedKey) (xs : List V) (vs : List Value), KeysH X.K H ks xs → Vals xs vs → NestedAll s.heap ks vs ∧ (∃ as, ReadsAll s.heap vs (NestedKey.datas ks) as) ∧ numAll ks = true
  | [], xs, vs, h, r => by
    have e : xs = [] := h
    subst e
    cases r
    exact ⟨.nil, ⟨_, .nil⟩, rfl⟩
  | k :: ks, xs, vs, h, r => by
    obtain ⟨x, rest, rfl, h1, h2⟩ := h
    cases r with
    | cons r1 r2 =>
      obtain ⟨a1, ⟨as, a2⟩, a3⟩ := key_is I k x _ h1 r1
      obtain ⟨b1, ⟨bs, b2⟩, b3⟩ := keys_is I ks rest _ h2 r2
      refine ⟨.cons a1 b1, ⟨_, .cons a2 b2⟩, ?_⟩
      rw [numAll, a3, b3]
      rfl
end
/-- a key of depth 8 at most at an address -/
def KeyT (K : PySem.W.Frag) (H : Hp) (k : NestedKey) (a : Addr) : Prop := KeyH K H k (.ref a) ∧ k.depth ≤ 8
theorem KeyT.at (I : Inv X pins σ H s) {k : NestedKey} {a : Addr} (h : KeyT X.K H k a) : KeyAt s.heap k a := by
  obtain ⟨i1, _, i3⟩ := key_is I k (.ref a) (.ref a) h.1 rfl
  exact ⟨i1, h.2, i3⟩
end
/-- the set alone, without the keys' own tuples -/
structure SetN0 (w : World) (h : Heap) (a : Addr) (L : List (Addr × NestedKey)) : Prop where
  ex : ∃ (es : Array (Int × Value)) (ep : Nat) (t : SetTable), (∃ o, h.get? a = some o ∧ o.ExactSet ∧ o.data = .set es ep t) ∧ es.toList = ents w L ∧ Tab t (L.map fun p => p.2.hash w) ∧ (L.map (·.2)).Nodup ∧ t.plain = true ∧
    (w.params.followText "set-order" = true ∨ t.led = true) ∧ L.length * 5 < t.mask * 3
def SetNO (w : World) (a : Addr) (L : List (Addr × NestedKey)) : HO := .ext fun h => SetN0 w h a L
section
variable {w : World} {P : Program} {H : Hp} {h : Heap} {a : Addr} {L : List (Addr × NestedKey)}
theorem SetN.alone {es : Array (Int × Value)} {ep : Nat} {t : SetTable} (R : SetN w h a L es ep t) : SetN0 w h a L := ⟨es, ep, t, R.ob, R.rows, R.tab, R.nd, R.plain, R.led, R.room⟩
theorem SetN0.with_ (R : SetN0 w h a L) (hk : ∀ p ∈ L, KeyAt h p.2 p.1) : ∃ es ep t, SetN w h a L es ep t := by
  obtain ⟨es, ep, t, a1, a2, a3, a4, a5, a6, a7⟩ := R.ex
  exact ⟨es, ep, t, a1, a2, a3, a4, hk, a5, a6, a7⟩
theorem setNO_new (R : SetN0 w h a L) : ObjOk P w H h a (SetNO w a L) := by
  have ⟨es, ep, t, ⟨o, ho, r⟩, q⟩ := R.ex
  refine ⟨R, ⟨o, ho⟩, fun h1 h2 p k => ?_⟩
  have ⟨es', ep', t', ⟨o', ho', r'⟩, q'⟩ := SetN0.ex p
  exact ⟨es', ep', t', ⟨o', k o' ho', r'⟩, q'⟩
theorem setN_fresh {h : Heap} {a : Addr} (ho : h.get? a = some (MG.emp w)) : SetN w h a [] #[] 0 (.fresh 0 0 (!w.params.followText "set-order")) := by
  refine ⟨⟨_, ho, ⟨rfl, rfl, rfl⟩, rfl⟩, rfl, Tab.fresh _ _ _, List.nodup_nil, (fun p hp => by cases hp), rfl, ?_, by show 0 * 5 < 7 * 3; decide⟩
  show _ ∨ (!w.params.followText "set-order") = true
  cases w.params.followText "set-order" <;> simp
end
/-! from a list -/
/-- what the set has got from the first i of the keys -/
structure Had (ks : List (Addr × NestedKey)) (i : Nat) (L : List (Addr × NestedKey)) : Prop where
  sub : ∀ p ∈ L, p ∈ ks.take i
  all : ∀ p ∈ ks.take i, p.2 ∈ L.map (·.2)
theorem Had.next {ks L M : List (Addr × NestedKey)} {i : Nat} {x : Addr × NestedKey} (g : Had ks i L) (hx : ks[i]? = some x) (h1 : x.2 ∈ L.map (·.2) → M = L) (h2 : x.2 ∉ L.map (·.2) → M.Perm (x :: L)) : Had ks (i + 1) M := by
  have et : ks.take (i + 1) = ks.take i ++ [x] := by rw [List.take_succ, hx]; rfl
  refine ⟨fun p hp => ?_, fun p hp => ?_⟩
  · rw [et, List.mem_append]
    by_cases c : x.2 ∈ L.map (·.2)
    · exact .inl (g.sub p (h1 c ▸ hp))
    · rcases List.mem_cons.mp ((h2 c).mem_iff.mp hp) with e | z
      · exact .inr (by simp [e])
      · exact .inl (g.sub p z)
  · have hm : p ∈ ks.take i ∨ p = x := by
      rw [et, List.mem_append] at hp
      simpa using hp
    by_cases c : x.2 ∈ L.map (·.2)
    · rw [h1 c]
      rcases hm with z | z
      · exact g.all p z
      · exact z ▸ c
    · rw [((h2 c).map (·.2)).mem_iff, List.map_cons, List.mem_cons]
      rcases hm with z | z
      · exact .inr (g.all p z)
      · exact .inl (by rw [z])
/-- few distinct ones -/
def FewK (ks : List (Addr × NestedKey)) : Prop := ∀ L : List (Addr × NestedKey), (L.map (·.2)).Nodup → (∀ p ∈ L, p ∈ ks) → L.length ≤ 4095
section
variable {P : Program} {w : World} {A : Around} {E : Value → Shared → Prop} {s : Shared}
theorem SetN.move {h h' : Heap} {a : Addr} {L : List (Addr × NestedKey)} {es : Array (Int × Value)} {ep : Nat} {t : SetTable} (R : SetN w h a L es ep t) (ha : ∀ o, h.get? a = some o → h'.get? a = some o) (hk : ∀ p ∈ L, KeyAt h' p.2 p.1) : SetN w h' a L es ep t := by
  obtain ⟨o, ho, r⟩ := R.ob
  exact ⟨⟨o, ha o ho, r⟩, R.rows, R.tab, R.nd, hk, R.plain, R.led, R.room⟩
/-- set.update's own loop over the walk of a list -/
theorem fill {I : Addr} {fp wr : List Addr} {G : Array GenState → Array GenState → Prop} {n : Nat} {Pv : Nat → Value → Prop} {St : Nat → Shared → Prop} {R : Result → Shared → Prop}
    (W : WalksS P w A.in1 I fp wr G n Pv St) (S : Addr) (hSf : S ∉ fp) (ks : List (Addr × NestedKey)) (hn : n = ks.length) (few : FewK ks) (val : ∀ i v, Pv i v → ∃ p, ks[i]? = some p ∧ v = .ref p.1)
    (h0 : Heap) (hk : ∀ p ∈ ks, KeyAt h0 p.2 p.1) (hS0 : h0.get? S = none) (hw0 : ∀ b ∈ wr, h0.get? b = none) (hu : A.in1.units + 8 < cLine) :
    ∀ (k i : Nat) (s : Shared), n - i = k → i ≤ n → St i s → (∀ b o, h0.get? b = some o → s.heap.get? b = some o) → (∃ L es ep t, SetN w s.heap S L es ep t ∧ Had ks i L) →
      (∀ s' L es ep t, Moved (S :: wr) G s s' → SetN w s'.heap S L es ep t → Had ks n L → (∀ b o, h0.get? b = some o → s'.heap.get? b = some o) → R (.ok (.ret .none)) s') →
      codeAny (model P w) A (.builtin "set.update.loop" ⟨[.ref S, .ref I], []⟩) R s := by
  have hSw : S ∉ wr := fun z => hSf (W.sub _ z)
  have stays : ∀ {s s' : Shared}, Moved wr G s s' → (∀ b o, h0.get? b = some o → s.heap.get? b = some o) → ∀ b o, h0.get? b = some o → s'.heap.get? b = some o := fun {s s'} hm kp b o e =>
    hm.heap b o (fun z => by rw [hw0 b z] at e; cases e) (kp b o e)
  have keysAt : ∀ {h' : Heap}, (∀ b o, h0.get? b = some o → h'.get? b = some o) → ∀ p ∈ ks, KeyAt h' p.2 p.1 := fun {h'} kp p hp => (hk p hp).of fun b o vs m e _ => kp b o e
  intro k
  induction k with
  | zero =>
    intro i s hki hi hst kp hL hR
    obtain ⟨L, es, ep, t, hS, g⟩ := hL
    obtain rfl : i = n := by omega
    refine codeAny_builtin F.entry_set_update_loop ?_
    rw [Around.under_plainId F.plain_set_update_loop _]
    show wpAny _ A.in1 (pyNext (.ref I) >>= _) _ _ s
    refine wpAny_bind (W.done s _ _ hst fun s' hm => ?_)
    show wpAny _ A.in1 (ret Value.none) _ _ s'
    have kp' := stays hm kp
    exact wpAny_pure (hR s' L es ep t (hm.mono fun b hb => List.mem_cons_of_mem _ hb) (hS.move (fun o e => hm.heap S o hSw e) fun p hp => keysAt kp' p (List.mem_of_mem_take (g.sub p hp))) g kp')
  | succ k ih =>
    intro i s hki hi hst kp hL hR
    obtain ⟨L, es, ep, t, hS, g⟩ := hL
    refine codeAny_builtin F.entry_set_update_loop ?_
    rw [Around.under_plainId F.plain_set_update_loop _]
    show wpAny _ A.in1 (pyNext (.ref I) >>= _) _ _ s
    refine wpAny_bind (W.item i s _ _ (by omega) hst fun v s' hP hst' hm => ?_)
    obtain ⟨p, hp, rfl⟩ := val i v hP
    have kp' := stays hm kp
    have sub : ∀ q ∈ L, q ∈ ks := fun q hq => List.mem_of_mem_take (g.sub q hq)
    have hS' := hS.move (h' := s'.heap) (fun o e => hm.heap S o hSw e) fun q hq => keysAt kp' q (sub q hq)
    have hx := keysAt kp' p (List.mem_of_getElem? hp)
    show wpAny _ A.in1 (holding [Value.ref p.1] (setAdd S (.ref p.1)) >>= _) _ _ s'
    refine wpAny_bind (wpAny_holding ?_)
    unfold setAdd
    refine wpAny_holding (wpAny_bind (pyHash_key p.2 _ _ s' _ hx.is (by have := hx.deep; omega) ?_))
    have hl := few L hS'.nd sub
    refine add (s := { s' with toks := s'.toks + p.2.draws }) hS' hx hu (by omega) fun b h' L' es' ep' t' sb R' c1 c2 => ?_
    have kp2 : ∀ b o, h0.get? b = some o → h'.get? b = some o := fun b o e => (sb.2 b (fun z => by rw [z, hS0] at e; cases e)).trans (kp' b o e)
    refine wpAny_pure ⟨plainId_quiet F.plain_set_update_loop _, ih (i + 1) _ (by omega) (by omega) (W.frame _ s' _ _ hst' (Nat.le_add_right _ _) fun b hb o e => ?_) kp2 ⟨L', es', ep', t', R', g.next hp c1 c2⟩ fun s'' L2 es2 ep2 t2 hm2 hS2 g2 k2 => ?_⟩
    · rw [sb.2 b (fun z => hSf (z ▸ hb))]
      exact e
    · refine hR s'' L2 es2 ep2 t2 (Moved.trans W.gtrans ((hm.mono fun b hb => List.mem_cons_of_mem _ hb).then_heap (Nat.le_add_right _ _) fun b o hb e => ?_) hm2) hS2 g2 k2
      rw [sb.2 b (fun z => hb (by simp [z]))]
      exact e
theorem set_of_keys {l : Addr} {items : Array Value} (ks : List (Addr × NestedKey)) {Q : Value → Shared → Prop} (hh : A.handled = none) (hl : s.heap.IsList l items) (hit : items.toList = ks.map fun p => Value.ref p.1) (few : FewK ks)
    (hk : ∀ p ∈ ks, KeyAt s.heap p.2 p.1) (hu : A.units + 12 < cLine)
    (h : ∀ (h' : Heap) (tk : Nat) L es ep t, SetN w h' s.heap.objs.size L es ep t → Had ks ks.length L → (∀ b o, s.heap.get? b = some o → h'.get? b = some o) → Q (.ref s.heap.objs.size) { s with heap := h', toks := tk }) :
    wpAny (model P w) A (call (.type "set") [.ref l]) Q E s := by
  have hisz : items.size = ks.length := by
    have := congrArg List.length hit
    simpa using this
  obtain ⟨c, tl, hmro⟩ := F.called_set.mro
  have hmade := F.called_set.made
  have hsub := F.called_set.sub
  refine wpAny_call (codeAny_of_tree ?_)
  show wpAny _ _ (callAny (.type "set") _) _ _ _
  refine wpAny_pure ⟨Code.quiet_builtin _ (by decide +kernel), codeAny_builtin F.entry_type_call ?_⟩
  rw [Around.under_plain (weight_type_call_type "set" [.ref l] []) rfl]
  have h1 := F.called_set.notType
  have h2 := F.called_set.canCreate
  have hct := F.typeCall_set_1 (.ref l)
  repeat (any_goals (first | assumption | wp_step))
  refine codeAny_mono (code_set_led1 (.ref l) (E := E) (Q₁ := fun ob s₁ => ob = .ref s.heap.objs.size ∧ s₁ = { s with heap := s.heap.push (MG.emp w) }) ⟨rfl, rfl⟩) ?_
  intro r s₁ hr
  cases r with
  | error e => exact hr
  | ok fl =>
    cases fl with
    | ret ob =>
      obtain ⟨rfl, rfl⟩ := hr
      have hS : (s.heap.push (MG.emp w)).get? s.heap.objs.size = some (MG.emp w) := Heap.get?_push_size _ rfl
      have hT : Shared.TypeIs { s with heap := s.heap.push (MG.emp w) } (.ref s.heap.objs.size) "set" := ⟨_, hS, rfl⟩
      have hli := F.called_set.init.lookup
      have hbi := F.called_set.init.bind (.ref s.heap.objs.size)
      repeat (any_goals (first | assumption | wp_step))
      refine codeAny_mono (codeAny_call_builtin (R := wants (fun r s₂ => r = .none ∧ ∃ h' tk L es ep t, s₂ = { s with heap := h', toks := tk } ∧ SetN w h' s.heap.objs.size L es ep t ∧ Had ks ks.length L ∧
          (∀ b o, s.heap.get? b = some o → h'.get? b = some o)) E) F.called_set.init.plain F.entry_set_init (check_set_init_1 hT ?_)) ?_
      · obtain ⟨⟨ocls, odict, odata, oslots⟩, hol, hcl, nl, hdl⟩ := hl
        simp only at hcl hdl
        subst hcl hdl
        have hol' : (s.heap.push (MG.emp w)).get? l = some { cls := .type "list", dict := odict, data := .seq items nl, slots := oslots } := Heap.get?_push_of_some _ hol
        have hsls := F.sub_list_set
        have hslf := F.sub_list_frozenset
        have hne : (Value.type "list" == Value.type "dict") = false := by decide
        have hl1 : (s.heap.push (MG.emp w)).IsList l items := ⟨_, hol', rfl, nl, rfl⟩
        unfold Builtin.«set.__init__» noKeywords Builtin.Frozenset.updateFrom
        generalize hPI : pyIter = PI
        wp_walk
        subst hPI
        refine wpAny_pyIter_list hl1 (wpAny_bind (wpAny_runValue ?_))
        have hlS : l < s.heap.objs.size := Heap.lt_size hol
        have hh3 : A.in1.in1.in1.handled = none := by simp [hh]
        have hz1 : (s.heap.push (MG.emp w)).objs.size = s.heap.objs.size + 1 := Heap.size_push ..
        have hneI : l ≠ (s.heap.push (MG.emp w)).objs.size := by
          rw [hz1]
          exact Nat.ne_of_lt (Nat.lt_succ_of_lt hlS)
        have hSf : s.heap.objs.size ∉ [(s.heap.push (MG.emp w)).objs.size, l] := by
          rw [hz1]
          simp only [List.mem_cons, List.not_mem_nil, or_false, not_or]
          exact ⟨Nat.ne_of_lt (Nat.lt_succ_self _), Nat.ne_of_gt hlS⟩
        have val : ∀ (i : Nat) (v : Value), items[i]? = some v → ∃ p, ks[i]? = some p ∧ v = .ref p.1 := fun i v hv => by
          rw [← Array.getElem?_toList, hit, List.getElem?_map] at hv
          obtain ⟨p, hp, e⟩ := Option.map_eq_some_iff.1 hv
          exact ⟨p, hp, e.symm⟩
        have gone : ∀ b, s.heap.objs.size ≤ b → s.heap.get? b = none := fun b hb => by
          cases q : s.heap.get? b with
          | none => rfl
          | some o => exact absurd (Nat.lt_of_lt_of_le (Heap.lt_size q) hb) (Nat.lt_irrefl _)
        refine fill ((Walks.list hh3 _ l hneI items).toS) s.heap.objs.size hSf ks hisz few val s.heap hk (gone _ (Nat.le_refl _)) (fun b hb => gone b (by
            rw [List.mem_singleton.mp hb, hz1]
            omega)) (by show A.units + 3 + 8 < cLine; omega) (items.size - 0) 0 _ (by omega) (Nat.zero_le _)
          ⟨⟨_, Heap.get?_push_size _ rfl, rfl, rfl⟩, (hl1.push _)⟩ (fun b o e => Heap.get?_push_of_some _ (Heap.get?_push_of_some _ e)) ⟨[], #[], 0, _, setN_fresh (Heap.get?_push_of_some _ hS), ⟨(fun p hp => by cases hp), (fun p hp => by simp at hp)⟩⟩ ?_
        intro s' L es ep t hm hS' g' kp
        obtain ⟨h', g2, d', tk', os'⟩ := s'
        obtain rfl : g2 = s.gens := hm.gens
        obtain rfl : d' = s.drawn := hm.drawn
        obtain rfl : os' = s.os := hm.os
        show wpAny _ _ _ _ _ _
        refine wpAny_pure ?_
        show wpAny _ _ (ret Value.none) _ _ _
        exact wpAny_pure ⟨rfl, h', tk', L, es, ep, t, rfl, hS', hisz ▸ g', kp⟩
      · intro r₂ s₂ hr₂
        cases r₂ with
        | error e => exact hr₂
        | ok fl₂ =>
          cases fl₂ with
          | ret r =>
            obtain ⟨rfl, h', tk, L, es, ep, t, rfl, hS', g', kp⟩ := hr₂
            repeat (any_goals (first | assumption | wp_step))
            exact h _ _ _ _ _ _ hS' g' kp
          | _ => exact hr₂.elim
    | _ => exact hr.elim
end
end NT

/-! the rules for tracked sets and lists of nested tuples -/
namespace NT
open PySem PySem.Spec PyProof.Rows L2
section
variable {X : Cx}
/-- set() that keys are added to -/
def rSetN0 (w : World) : List V → Hp → VK → Prop := fun xs H Q => xs = [] ∧ ∀ p, H p = none → Q (.ref p) (upd H p (SetNO w p []))
theorem cr_setN0 : CallR X (.type "set") (rSetN0 X.w) := by
  intro pins s σ H xs us Q I r h
  obtain ⟨rfl, q⟩ := h
  cases r
  refine setR_new fun _ => ⟨.ref _, _, I.laid (t' := s.toks) (fun b u e => Heap.get?_push_of_some _ e) (Nat.le_refl _) (setNO_new (L := []) ?_), rfl, q _ (I.hok.fresh (Nat.le_refl _))⟩
  exact (setN_fresh (Heap.get?_push_size _ rfl)).alone
/-- set(xs) of a list of keys -/
def rSetN (K : PySem.W.Frag) (w : World) : List V → Hp → VK → Prop := fun xs H Q => ∃ (l : Addr) (ks : List (Addr × NestedKey)), xs = [.ref l] ∧ SqL K H l (ks.map fun p => V.ref p.1) ∧ (∀ p ∈ ks, KeyT K H p.2 p.1) ∧ FewK ks ∧
  ∀ a L, H a = none → (∀ p ∈ L, p ∈ ks) → (∀ p ∈ ks, p.2 ∈ L.map (·.2)) → (L.map (·.2)).Nodup → Q (.ref a) (upd H a (SetNO w a L))
theorem refs_are : ∀ {ks : List (Addr × NestedKey)} {us : List Value}, Vals (ks.map fun p => V.ref p.1) us → us = ks.map fun p => Value.ref p.1
  | [], _, .nil => rfl
  | p :: ks, _, .cons r t => by
    have e : _ = Value.ref p.1 := r
    rw [e, refs_are t]
    rfl
theorem refs_back : ∀ (ks : List (Addr × NestedKey)), Vals (ks.map fun p => V.ref p.1) (ks.map fun p => Value.ref p.1)
  | [] => .nil
  | p :: ks => .cons (show RelV (.ref p.1) (.ref p.1) from rfl) (refs_back ks)
theorem cr_setN (hc : X.calm = true) (hu : X.A.units + 64 < cLine) : CallR X (.type "set") (rSetN X.K X.w) := by
  intro pins s σ H xs us Q I r h
  obtain ⟨l, ks, rfl, hl, hk, few, q⟩ := h
  obtain ⟨u, rfl, rx⟩ := vals1 r
  cases (show u = Value.ref l from rx)
  obtain ⟨its, rv, pl, hz⟩ := I.list hl
  refine set_of_keys (P := X.prog) (w := X.w) ks (I.ok.hd hc) pl.isList (by simpa using refs_are rv) few (fun p hp => (hk p hp).at I) (by omega) fun h' tk L es ep t R g k => ?_
  refine ⟨.ref s.heap.objs.size, _, I.laid (t' := tk) k (Nat.le_refl _) (setNO_new R.alone), rfl, q _ L (I.hok.fresh (Nat.le_refl _)) (fun p hp => List.mem_of_mem_take (g.sub p hp)) (fun p hp => g.all p (by rw [List.take_length]; exact hp)) R.nd⟩
/-- s.add(x) of a key -/
def rNAdd (K : PySem.W.Frag) (w : World) : V → List V → Hp → VK → Prop := fun x xs H Q => ∃ (a p : Addr) (k : NestedKey) (L : List (Addr × NestedKey)), x = .ref a ∧ xs = [.ref p] ∧ H a = some (SetNO w a L) ∧ (∀ q ∈ L, KeyT K H q.2 q.1) ∧ KeyT K H k p ∧ L.length ≤ 4094 ∧
  ∀ M, (k ∈ L.map (·.2) → M = L) → (k ∉ L.map (·.2) → M.Perm ((p, k) :: L)) → (M.map (·.2)).Nodup → Q .non (upd H a (SetNO w a M))
theorem mt_nadd (hu : X.A.units + 64 < cLine) : MtR X "set.add" (rNAdd X.K X.w) := by
  intro pins s σ H x xs v us Q I rx rxs h
  obtain ⟨a, p, k, L, rfl, rfl, ha, hk, hp, hl, q⟩ := h
  cases (show v = Value.ref a from rx)
  obtain ⟨u, rfl, ru⟩ := vals1 rxs
  cases (show u = Value.ref p from ru)
  have R0 : SetN0 X.w s.heap a L := (I.hok a _ ha).1
  obtain ⟨es, ep, t, R⟩ := R0.with_ fun p hp => (hk p hp).at I
  have hx := hp.at I
  obtain ⟨o, ho, hex, hd⟩ := R.ob
  refine wpAny_call_entry F.slot_set_add ⟨o, ho, hex.1⟩ F.entry_set_add ?_ (F.args_set_add_2 _ _)
  unfold Builtin.«set.add» Builtin.Frozenset.oneOther
  simp only [List.isEmpty_nil, bind_assoc]
  unfold Builtin.Frozenset.addrOf setAdd
  refine wpAny_bind (wpAny_pure ?_)
  try dsimp only
  refine wpAny_bind (wpAny_pure ?_)
  try dsimp only
  refine wpAny_bind (wpAny_holding (wpAny_bind (pyHash_key k _ _ s _ hx.is (by
    have := hx.deep
    show X.A.units + 1 + k.depth < cLine
    omega) ?_)))
  refine add (s := { s with toks := s.toks + k.draws }) R hx (by show X.A.units + 1 + 8 < cLine; omega) (by omega) fun b h' L' es' ep' t' sb R' c1 c2 => ?_
  show wpAny _ _ (ret Value.none) _ _ _
  have he : ∃ u, h'.get? a = some u := by
    obtain ⟨o', ho', _⟩ := R'.ob
    exact ⟨o', ho'⟩
  exact wpAny_pure ⟨_, rfl, .non, upd H a (SetNO X.w a L'), I.write (e := a) (t' := s.toks + k.draws) (by rw [ha]; trivial) (.inl rfl) (fun b u hb hu => (sb.2 b hb).trans hu) he (setNO_new R'.alone), rfl, q L' c1 c2 R'.nd⟩
def tNAdd (K : PySem.W.Frag) (w : World) (to : TE) (t : TA) : TE := fun σ H Q => to σ H fun x H1 => (∃ a L, x = V.ref a ∧ H1 a = some (SetNO w a L)) ∧ t σ H1 fun xs H2 => rNAdd K w x xs H2 Q
variable {o e : PySem.Expr} {es : List PySem.Expr} {to : TE} {t : TA} {apos cpos : Pos}
theorem pe_nadd (hu : X.A.units + 64 < cLine) (ho : PE X o to) (ha : PA X (e :: es) t)
    (hbase : attributeBase o "add" X.env (eval o X.env) = eval o X.env := by rfl)
    (hfew : ((((backTo cpos (starEach (e :: es) X.env)).all fun x => !x.fst) && (backToKw cpos (keywordEach [] X.env)).all fun x => x.fst.isSome) && decide (((e :: es).length + ([] : List PySem.Keyword).length + if ([] : List PySem.Keyword).isEmpty = true then 0 else 1) < 30)) = true := by rfl)
    (hline : (apos.endLine == cpos.line) = true := by rfl) (hs : starEach (e :: es) X.env = (false, eval e X.env) :: starEach es X.env := by rfl) (hplain : ((backTo cpos (starEach es X.env)).any fun x => x.fst) = false := by rfl) :
    PE X ((o.Attribute "add" apos).Call (e :: es) [] cpos) (tNAdd X.K X.w to t) := by
  refine ⟨?_⟩
  intro pins s σ H Q I h
  refine wpAny_Call_method_late hbase hfew hline rfl (thn (ho.run pins s σ H (fun x H1 => (∃ a L, x = V.ref a ∧ H1 a = some (SetNO X.w a L)) ∧ t σ H1 fun xs H2 => rNAdd X.K X.w x xs H2 Q) I h) ?_)
  rintro v s1 ⟨x, H1, I1, r1, ⟨a, L, rfl, hka⟩, q1⟩
  cases (show v = Value.ref a from r1)
  have R0 : SetN0 X.w s1.heap a L := (I1.hok a _ hka).1
  obtain ⟨_, _, _, ⟨ob, hob, hex, _⟩, _⟩ := R0.ex
  refine ⟨"set", "set.add", F.plainAttrs_set, F.slot_set_add, F.type_set_add, ⟨ob, hob, hex.1⟩, fun b eb => ?_, ?_⟩
  · cases eb
    exact ⟨ob, hob, hex.2.1⟩
  · have hA := ha.run cpos pins s1 σ H1 (fun xs H2 => rNAdd X.K X.w (.ref a) xs H2 Q) I1 q1
    rw [hs] at hA ⊢
    refine Calls.callWith_builtin (by show (false || ((backTo cpos (starEach es X.env)).any fun x => x.fst)) = false; rw [hplain]; rfl) (Calls.evalArgs_plain (thn hA ?_))
    rintro us s2 ⟨vs, H2, I2, r2, q2⟩
    exact mt_nadd hu pins s2 σ H2 (.ref a) vs (.ref a) us Q I2 rfl r2 q2
end
/-! sorted -/
open PySem.W in
/-- the order of the keys, by their data -/
def leK (p q : Addr × NestedKey) : Bool := sortLe (PyProof.Rows.listOrd PyProof.Rows.itemOrd) false (fun (x : Addr × NestedKey) => keyToks x.2.data) p q
open PySem.W in
/-- what can be sorted: alike, each a tuple with an item -/
structure CanSort (L : List (Addr × NestedKey)) : Prop where
  ali : ∀ p ∈ L, ∀ q ∈ L, alike p.2.data q.2.data = true
  ne : ∀ p ∈ L, ∃ x r, p.2.data = .tuple (x :: r)
theorem CanSort.perm {L M : List (Addr × NestedKey)} (h : CanSort L) (p : M.Perm L) : CanSort M := ⟨fun a ha b hb => h.ali a (p.mem_iff.mp ha) b (p.mem_iff.mp hb), fun a ha => h.ne a (p.mem_iff.mp ha)⟩
section
variable {P : Program} {w : World} {A : Around} {s : Shared}
open PySem.W in
theorem sorts_at {L : List (Addr × NestedKey)} (c : CanSort L) (hr : ∀ p ∈ L, (∃ as, Reads s.heap (.ref p.1) p.2.data as) ∧ p.2.data.depth ≤ 20) (hu : A.units + 30 < cLine) :
    SortsAt P w A s (dataKind s.heap (L.map fun p => p.2.data)) (L.map fun p => Value.ref p.1) := by
  refine SortsAt.data ?_ (fun d hd d' hd' => ?_) (.inl fun d hd => ?_) (fun d hd => ?_)
  · clear c
    induction L with
    | nil => exact .nil
    | cons p L ih => exact .cons (hr p (by simp)).1 (ih fun q hq => hr q (by simp [hq]))
  · obtain ⟨p, hp, rfl⟩ := List.mem_map.mp hd
    obtain ⟨q, hq, rfl⟩ := List.mem_map.mp hd'
    exact c.ali p hp q hq
  · obtain ⟨p, hp, rfl⟩ := List.mem_map.mp hd
    exact c.ne p hp
  · obtain ⟨p, hp, rfl⟩ := List.mem_map.mp hd
    have := (hr p hp).2
    omega
open PySem.W in
theorem sorted_is {L : List (Addr × NestedKey)} (c : ∀ p ∈ L, ∀ q ∈ L, alike p.2.data q.2.data = true) (hr : ∀ p ∈ L, ∃ as, Reads s.heap (.ref p.1) p.2.data as) :
    sortVals (dataKind s.heap (L.map fun p => p.2.data)) false (L.map fun p => Value.ref p.1) (L.map fun p => Value.ref p.1) = (L.mergeSort leK).map fun p => Value.ref p.1 := by
  have all : AllAlike (L.map fun p => p.2.data) := fun d hd d' hd' => by
    obtain ⟨p, hp, rfl⟩ := List.mem_map.mp hd
    obtain ⟨q, hq, rfl⟩ := List.mem_map.mp hd'
    exact c p hp q hq
  have e0 : ∀ (M : List (Addr × NestedKey)), EachIs (fun v (p : Addr × NestedKey) => v = Value.ref p.1) (M.map fun p => Value.ref p.1) M := fun M => by
    induction M with
    | nil => exact .nil
    | cons p M ih => exact .cons rfl ih
  have e1 : ∀ (M : List (Addr × NestedKey)), (∀ p ∈ M, p ∈ L) → EachIs (fun v (p : Addr × NestedKey) => (dataKind s.heap (L.map fun p => p.2.data)).keyOf v = some (keyToks p.2.data)) (M.map fun p => Value.ref p.1) M := fun M => by
    induction M with
    | nil => exact fun _ => .nil
    | cons p M ih =>
      intro h
      obtain ⟨as, r⟩ := hr p (h p (by simp))
      exact .cons (dataKind_some all (List.mem_map.mpr ⟨p, h p (by simp), rfl⟩) r) (ih fun q hq => h q (by simp [hq]))
  have key := sortVals_each (κ := dataKind s.heap (L.map fun p => p.2.data)) (rev := false) (fun (p : Addr × NestedKey) => keyToks p.2.data) (e0 L) (e1 L fun _ h => h)
  have back : ∀ {vs : List Value} {M : List (Addr × NestedKey)}, EachIs (fun v (p : Addr × NestedKey) => v = Value.ref p.1) vs M → vs = M.map fun p => Value.ref p.1 := fun {vs M} e => by
    induction e with
    | nil => rfl
    | cons h _ ih => rw [h, ih]; rfl
  exact back key
end
end NT

/-! sorting tuples of which some may be empty -/
namespace NT
open PySem PySem.Spec PyProof.Rows PySem.W
theorem keyLt_gen (x y : Value) : keyLt' general' x y = oneLt' false x y := rfl
section
variable {P : Program} {w : World} {A : Around} {E : Value → Shared → Prop} {s : Shared}
/-- two tuples, one against the other -/
theorem oneLt_tup (f : Bool) {xs ys : List PyData} {a b : Value} {as bs : List Addr} {Q : Bool → Shared → Prop} (ra : Reads s.heap a (.tuple xs) as) (rb : Reads s.heap b (.tuple ys) bs) (h : alike (.tuple xs) (.tuple ys) = true)
    (hu : A.units + min (PyData.tuple xs).depth (PyData.tuple ys).depth < cLine) (q : Q (dataLt (.tuple xs) (.tuple ys)) s) : wpAny (model P w) A (oneLt' f a b) Q E s := by
  cases f with
  | false => exact oneLt_alike (fun z => nomatch z) ra rb h (fun z => nomatch z) hu q
  | true =>
    have hal : alikeAll xs ys = true := by simpa [alike] using h
    cases ra with
    | @tuple l o vs n _ as₁ h1 h2 h3 h4 =>
      cases rb with
      | @tuple l' o' vs' n' _ bs₁ k1 k2 k3 k4 =>
        have n1 : vs.size = xs.length := by simpa using SeqAt.ReadsAll.length _ _ _ h4
        have n2 : vs'.size = ys.length := by simpa using SeqAt.ReadsAll.length _ _ _ k4
        rw [dataLt_tuple, ← firstLt_toks xs ys hal, ← n1, ← n2] at q
        rw [oneLt'_eq]
        simp only [if_true]
        refine wpAny_bind (wpAny_cRoomFor (SeqAt.room_here hu) ?_)
        refine wpAny_bind (wpAny_callSpecialIfBound?_slot (T := "tuple") ⟨_, h1, h2⟩ F.slot_tuple_lt ?_)
        obtain ⟨cls, dd, data, sl⟩ := o
        obtain ⟨cls2, dd2, data2, sl2⟩ := o'
        simp only at h2 h3 k2 k3
        subst h2 h3 k2 k3
        refine call_meets F.slot_tuple_lt ⟨_, h1, rfl⟩ F.entry_tuple_lt (F.args_tuple_lt_2 _ _) (SeqAt.tuple_ltAt l l' vs vs' n n' dd dd2 sl sl2 (SeqAt.pairEq xs ys) (fun j => dataLt (xs.getD j .none) (ys.getD j .none))) ⟨h1, k1, fun j j1 j2 => ?_, fun j j1 j2 hj => ?_, ?_⟩
        · have := eqAt_alikeAll xs ys A.in1 s vs.toList vs'.toList _ _ h4 k4 hal (SeqAt.room_in hu) j (by simpa using j1) (by simpa using j2)
          simpa using this
        · have := rcLt_alikeAll xs ys A.in1 s vs.toList vs'.toList _ _ h4 k4 hal (SeqAt.room_in hu) j (by simpa using j1) (by simpa using j2) hj
          simpa using this
        · exact wpAny_truthy_bool q
/-- the first items of tuples, None for an empty one -/
inductive Fsts (h : Heap) : List Value → List (Option Value) → Prop
  | nil : Fsts h [] []
  | cons {a : Addr} {o : Obj} {xs : Array Value} {n : Nat} {vs : List Value} {fs : List (Option Value)} : h.get? a = some o → o.cls = .type "tuple" → o.data = .seq xs n → Fsts h vs fs → Fsts h (.ref a :: vs) (xs[0]? :: fs)
theorem fsts_run : ∀ {vs : List Value} {fs : List (Option Value)} {Q : List (Option Value) → Shared → Prop}, Fsts s.heap vs fs → Q fs s → wpAny (model P w) A (vs.mapM firstOfTuple') Q E s := by
  intro vs fs Q t
  induction t generalizing Q with
  | nil => intro q; rw [List.mapM_nil]; exact wpAny_pure q
  | @cons a o xs n vs fs ho hc hd _ ih =>
    intro q
    rw [List.mapM_cons]
    refine wpAny_bind ?_
    rw [kas_first_eq]
    refine wpAny_bind (Looks.here (show Looks (model P w) s.heap (typeOf (.ref a)) o.cls from (Looks.ld ho).andThen .now) ?_)
    rw [hc, if_neg (by decide)]
    refine wpAny_bind (listItems_at ho hd (wpAny_pure ?_))
    exact wpAny_bind (ih (Q := fun bs s' => wpAny (model P w) A (pure (xs[0]? :: bs)) Q E s') (wpAny_pure q))
theorem types_run {vs : List Value} {fs : List (Option Value)} (t : Fsts s.heap vs fs) : ∀ v ∈ vs, Looks (model P w) s.heap (typeOf v) (.type "tuple") := by
  induction t with
  | nil => exact fun v hv => by cases hv
  | @cons a o xs n vs fs ho hc hd _ ih =>
    intro v hv
    rcases List.mem_cons.mp hv with e | z
    · subst e
      exact hc ▸ (show Looks (model P w) s.heap (typeOf (.ref a)) o.cls from (Looks.ld ho).andThen .now)
    · exact ih v z
/-- the kind of such keys -/
theorem kind_some {v0 : Value} {vs : List Value} {f0 : Option Value} {fs : List (Option Value)} (t : Fsts s.heap (v0 :: vs) (f0 :: fs)) (he : none ∈ f0 :: fs) {Q : SortKind → Shared → Prop} (q : Q (if f0.isSome then general' else oneType') s) :
    wpAny (model P w) A (keyKind' (v0 :: vs).toArray) Q E s := by
  rw [kat_kind_eq, List.mapM_toArray, map_eq_pure_bind]
  refine wpAny_bind (wpAny_bind (fsts_run t (wpAny_pure ?_)))
  have hall : ((f0 :: fs).toArray.all fun x => x.isSome) = false := by
    rw [List.all_toArray, List.all_eq_false]
    exact ⟨none, he, by simp⟩
  refine L2.wp_if_neg (by rw [hall]; decide) ?_
  have h0 : (((f0 :: fs).toArray[0]?).bind id).isSome = f0.isSome := by simp
  cases hf : f0.isSome with
  | true =>
    rw [hf, if_pos rfl] at q
    exact L2.wp_if_pos (h0.trans hf) (wpAny_pure q)
  | false =>
    rw [hf, if_neg (by decide)] at q
    refine L2.wp_if_neg (by rw [h0, hf]; decide) ?_
    rw [oneTypeOnly'_eq, List.mapM_toArray, map_eq_pure_bind]
    refine wpAny_bind (wpAny_bind (wpAny_bind (kas_mapM (r := Value.type "tuple") _ (fun v hv Q' hq => (types_run t v hv).here hq) (wpAny_pure ?_))))
    have hall2 : ((List.map (fun _ => Value.type "tuple") (v0 :: vs)).toArray.all fun x => x == Value.type "tuple") = true := by
      simp only [List.all_toArray, List.all_map, List.all_eq_true]
      intro _ _
      exact beq_self_eq_true (Value.type "tuple")
    have h00 : (List.map (fun _ => Value.type "tuple") (v0 :: vs)).toArray[0]? = some (Value.type "tuple") := by simp
    rw [h00]
    simp only [hall2, if_true]
    exact wpAny_pure (wpAny_pure q)
theorem fsts_of {ds : List PyData} {vs : List Value} (e : EachIs (fun v d => ∃ as, Reads s.heap v d as) vs ds) (ht : ∀ d ∈ ds, ∃ r, d = .tuple r) : ∃ fs, Fsts s.heap vs fs ∧ (.tuple [] ∈ ds → none ∈ fs) := by
  induction e with
  | nil => exact ⟨[], .nil, fun z => by cases z⟩
  | @cons v d vs ds h _ ih =>
    obtain ⟨fs, t, hn⟩ := ih fun d hd => ht d (by simp [hd])
    obtain ⟨r, rfl⟩ := ht d (by simp)
    obtain ⟨as, h⟩ := h
    cases h with
    | @tuple l o xs n _ _ h1 h2 h3 h4 =>
      refine ⟨xs[0]? :: fs, .cons h1 h2 h3 t, fun z => ?_⟩
      rcases List.mem_cons.mp z with z | z
      · injection z with z
        subst z
        have hl := SeqAt.ReadsAll.length _ _ _ h4
        have : xs[0]? = none := by
          rw [Array.getElem?_eq_none]
          simpa using hl
        simp [this]
      · exact List.mem_cons_of_mem _ (hn z)
/-- tuples that are alike, some of them empty -/
theorem sorts_some {vs : List Value} {ds : List PyData} (e : EachIs (fun v d => ∃ as, Reads s.heap v d as) vs ds) (hal : AllAlike ds) (ht : ∀ d ∈ ds, ∃ r, d = .tuple r) (he : .tuple [] ∈ ds) (hu : ∀ d, d ∈ ds → A.units + d.depth < cLine) :
    SortsAt P w A s (dataKind s.heap ds) vs := by
  obtain ⟨fs, t, hn⟩ := fsts_of e ht
  have hne := hn he
  have lt : ∀ f : Bool, ∀ (E : Value → Shared → Prop) (x y : Value) (a b : List (Int ⊕ List Nat)) {Q : Bool → Shared → Prop}, (dataKind s.heap ds).keyOf x = some a → (dataKind s.heap ds).keyOf y = some b → Q (PyProof.Rows.lexLt itemOrd a b) s → wpAny (model P w) A (oneLt' f x y) Q E s := fun f E x y a b Q ha hb q => by
    obtain ⟨d, as, hd, ra, rfl⟩ := dataKind_inv ha
    obtain ⟨d', as', hd', rb, rfl⟩ := dataKind_inv hb
    have hdd := hal d hd d' hd'
    obtain ⟨r1, rfl⟩ := ht d hd
    obtain ⟨r2, rfl⟩ := ht d' hd'
    exact oneLt_tup f ra rb hdd (Nat.lt_of_le_of_lt (Nat.add_le_add_left (Nat.min_le_left _ _) _) (hu _ hd)) q
  refine ⟨fun v hv => ?_, ?_⟩
  · obtain ⟨d, hd, as, r⟩ := e.left v hv
    exact ⟨_, dataKind_some hal hd r⟩
  · cases t with
    | nil => cases hne
    | @cons a o xs n vs fs ho hc hd t =>
      refine ⟨if (xs[0]?).isSome then general' else oneType', ?_, fun _ E Q q => kind_some (.cons ho hc hd t) hne q⟩
      intro E x y a b Q ha hb q
      cases (xs[0]?).isSome with
      | true => exact lt false E x y a b ha hb q
      | false => exact lt true E x y a b ha hb q
/-- what can be sorted: alike, each a tuple -/
structure CanTup (L : List (Addr × NestedKey)) : Prop where
  ali : ∀ p ∈ L, ∀ q ∈ L, alike p.2.data q.2.data = true
  tup : ∀ p ∈ L, ∃ r, p.2.data = .tuple r
theorem CanTup.perm {L M : List (Addr × NestedKey)} (h : CanTup L) (p : M.Perm L) : CanTup M := ⟨fun a ha b hb => h.ali a (p.mem_iff.mp ha) b (p.mem_iff.mp hb), fun a ha => h.tup a (p.mem_iff.mp ha)⟩
theorem sorts_tup {L : List (Addr × NestedKey)} (c : CanTup L) (hr : ∀ p ∈ L, (∃ as, Reads s.heap (.ref p.1) p.2.data as) ∧ p.2.data.depth ≤ 20) (hu : A.units + 30 < cLine) :
    SortsAt P w A s (dataKind s.heap (L.map fun p => p.2.data)) (L.map fun p => Value.ref p.1) := by
  by_cases he : PyData.tuple [] ∈ L.map fun p => p.2.data
  · refine sorts_some ?_ (fun d hd d' hd' => ?_) (fun d hd => ?_) he (fun d hd => ?_)
    · clear c he
      induction L with
      | nil => exact .nil
      | cons p L ih => exact .cons (hr p (by simp)).1 (ih fun q hq => hr q (by simp [hq]))
    · obtain ⟨p, hp, rfl⟩ := List.mem_map.mp hd
      obtain ⟨q, hq, rfl⟩ := List.mem_map.mp hd'
      exact c.ali p hp q hq
    · obtain ⟨p, hp, rfl⟩ := List.mem_map.mp hd
      exact c.tup p hp
    · obtain ⟨p, hp, rfl⟩ := List.mem_map.mp hd
      have := (hr p hp).2
      omega
  · refine sorts_at ⟨c.ali, fun p hp => ?_⟩ hr hu
    obtain ⟨r, e⟩ := c.tup p hp
    cases r with
    | nil => exact absurd (List.mem_map.mpr ⟨p, hp, e⟩) he
    | cons x r => exact ⟨x, r, e⟩
end
end NT

/-! sorted of a list, of a set of keys -/
namespace NT
open PySem PySem.Spec PyProof.Rows L2
mutual
theorem data_depth : ∀ k : NestedKey, k.data.depth ≤ k.depth
  | .none => Nat.le_refl _
  | .num _ => Nat.le_refl _
  | .text _ => Nat.le_refl _
  | .tup ks => by
    have := datas_depth ks
    show PyData.depthAll (NestedKey.datas ks) + 1 ≤ NestedKey.depthAll ks + 1
    omega
theorem datas_depth : ∀ ks : List NestedKey, PyData.depthAll (NestedKey.datas ks) ≤ NestedKey.depthAll ks
  | [] => Nat.le_refl _
  | k :: ks => by
    have h1 := data_depth k
    have h2 := datas_depth ks
    show max k.data.depth (PyData.depthAll (NestedKey.datas ks)) ≤ max k.depth (NestedKey.depthAll ks)
    omega
end
section
variable {X : Cx} {pins : List (Addr × Obj)} {σ : L2.St} {H : Hp} {s : Shared}
theorem KeyT.reads (I : Inv X pins σ H s) {k : NestedKey} {a : Addr} (h : KeyT X.K H k a) : (∃ as, Reads s.heap (.ref a) k.data as) ∧ k.data.depth ≤ 20 := by
  obtain ⟨_, i2, _⟩ := key_is I k (.ref a) (.ref a) h.1 rfl
  have := data_depth k
  have := h.2
  exact ⟨i2, by omega⟩
/-- the sorted keys -/
def Sd (L M : List (Addr × NestedKey)) : Prop := M.Perm L ∧ M.Pairwise fun p q => leK p q = true
open PySem.W in
theorem sd_merge (L : List (Addr × NestedKey)) : Sd L (L.mergeSort leK) := by
  refine ⟨List.mergeSort_perm _ _, ?_⟩
  have T := sortLe_total (PyProof.Rows.listOrd PyProof.Rows.itemOrd) false (fun (x : Addr × NestedKey) => keyToks x.2.data)
  exact List.pairwise_mergeSort T.trans (fun a b => by rw [Bool.or_eq_true]; exact T.total a b) L
/-- sorted(xs), xs a list of keys -/
def rSortNL (K : PySem.W.Frag) : List V → Hp → VK → Prop := fun vs H Q => ∃ (l : Addr) (ks : List (Addr × NestedKey)), vs = [.ref l] ∧ SqL K H l (ks.map fun p => V.ref p.1) ∧ (∀ p ∈ ks, KeyT K H p.2 p.1) ∧ CanTup ks ∧
  ∀ M p, Sd ks M → H p = none → Q (.ref p) (upd H p (.lst (M.map fun q => V.ref q.1)))
theorem cr_sortNL (hu : X.A.units + 64 < cLine) : CallR X (.builtin "sorted") (rSortNL X.K) := by
  intro pins s σ H vs us Q I r h
  obtain ⟨l, ks, rfl, hl, hk, hc, q⟩ := h
  obtain ⟨u, rfl, rx⟩ := vals1 r
  cases (show u = Value.ref l from rx)
  obtain ⟨its, rv, pl, hz⟩ := I.list hl
  have e := refs_are rv
  subst e
  rw [List.length_map] at hz
  have keep : ∀ b o, s.heap.get? b = some o → (PySem.W.sortingHeap (PySem.W.copyHeap s.heap (ks.map fun p => Value.ref p.1)) (s.heap.objs.size + 1) (ks.map fun p => Value.ref p.1)).get? b = some o := fun b o e => PySem.W.sorting_copy_old e
  have rd : ∀ p ∈ ks, (∃ as, Reads (PySem.W.sortingHeap (PySem.W.copyHeap s.heap (ks.map fun p => Value.ref p.1)) (s.heap.objs.size + 1) (ks.map fun p => Value.ref p.1)) (.ref p.1) p.2.data as) ∧ p.2.data.depth ≤ 20 := fun p hp => by
    obtain ⟨⟨as, ra⟩, rd⟩ := (hk p hp).reads I
    exact ⟨⟨as, Reads.keeps keep ra⟩, rd⟩
  refine PySem.W.sorted_vals (l := l) pl.isList (sorts_tup (s := { s with heap := PySem.W.sortingHeap (PySem.W.copyHeap s.heap (ks.map fun p => Value.ref p.1)) (s.heap.objs.size + 1) (ks.map fun p => Value.ref p.1) }) hc rd (by show X.A.units + 2 + 30 < cLine; omega)) (by rw [List.length_map]; exact hz) ?_
  rw [sorted_is (s := { s with heap := PySem.W.sortingHeap (PySem.W.copyHeap s.heap (ks.map fun p => Value.ref p.1)) (s.heap.objs.size + 1) (ks.map fun p => Value.ref p.1) }) hc.ali fun p hp => (rd p hp).1]
  have sd := sd_merge ks
  generalize ks.mergeSort leK = M at sd ⊢
  obtain ⟨ep, he⟩ := PyProof.Rows.sortedAll_at s.heap (ks.map fun p => Value.ref p.1) (M.map fun p => Value.ref p.1).toArray
  have hlen : (M.map fun q => V.ref q.1).length ≤ sizeLine := by rw [List.length_map, sd.1.length_eq]; exact hz
  exact ⟨.ref _, upd H (s.heap.objs.size + 1) (.lst (M.map fun q => V.ref q.1)), I.laid (t' := s.toks) (fun _ _ => PyProof.Rows.sortedAll_old) (Nat.le_succ _) ⟨hlen, _, ep, refs_back M, he⟩, rfl, q _ _ sd (I.hok.fresh (Nat.le_succ _))⟩
/-- sorted(s), s a set of keys -/
def rSortN (K : PySem.W.Frag) (w : World) : List V → Hp → VK → Prop := fun vs H Q => ∃ (a : Addr) (L : List (Addr × NestedKey)), vs = [.ref a] ∧ H a = some (SetNO w a L) ∧ (∀ p ∈ L, KeyT K H p.2 p.1) ∧ CanTup L ∧ L.length ≤ 4095 ∧
  ∀ M p, Sd L M → H p = none → Q (.ref p) (upd H p (.lst (M.map fun q => V.ref q.1)))
theorem split_refs {L : List (Addr × NestedKey)} (nd : (L.map (·.2)).Nodup) (one : ∀ p ∈ L, ∀ q ∈ L, p.1 = q.1 → p.2 = q.2) {vs : List Value} (pm : vs.Perm (L.map fun p => Value.ref p.1)) : ∃ M : List (Addr × NestedKey), vs = M.map (fun p => Value.ref p.1) ∧ M.Perm L := by
  have back : ∀ vs : List Value, (∀ v ∈ vs, ∃ p ∈ L, v = Value.ref p.1) → ∃ M : List (Addr × NestedKey), vs = M.map (fun p => Value.ref p.1) ∧ ∀ p ∈ M, p ∈ L := by
    intro vs
    induction vs with
    | nil => exact fun _ => ⟨[], rfl, fun p hp => by cases hp⟩
    | cons v vs ih =>
      intro h
      obtain ⟨p, hp, rfl⟩ := h v (by simp)
      obtain ⟨M, rfl, hM⟩ := ih fun u hu => h u (by simp [hu])
      exact ⟨p :: M, rfl, fun q hq => by
        rcases List.mem_cons.mp hq with e | z
        · exact e ▸ hp
        · exact hM q z⟩
  obtain ⟨M, rfl, hM⟩ := back vs fun v hv => by
    obtain ⟨p, hp, e⟩ := List.mem_map.mp (pm.mem_iff.mp hv)
    exact ⟨p, hp, e.symm⟩
  have nL : L.Nodup := List.Pairwise.of_map (·.2) (fun _ _ hne e => hne (congrArg (·.2) e)) nd
  have nr : (L.map fun p => Value.ref p.1).Nodup := List.pairwise_map.mpr (nL.imp_of_mem fun {p q} hp hq hne e => by
    injection e with e
    exact hne (Prod.ext e (one p hp q hq e)))
  have nM : M.Nodup := List.Pairwise.of_map (fun p => Value.ref p.1) (fun _ _ hne e => hne (congrArg (fun p : Addr × NestedKey => Value.ref p.1) e)) (pm.nodup_iff.mpr nr)
  refine ⟨M, rfl, (List.perm_ext_iff_of_nodup nM nL).mpr fun p => ⟨hM p, fun hp => ?_⟩⟩
  obtain ⟨q, hq, e⟩ := List.mem_map.mp (pm.mem_iff.mpr (List.mem_map.mpr ⟨p, hp, rfl⟩))
  injection e with e
  have : q = p := Prod.ext e (one q (hM q hq) p hp e)
  exact this ▸ hq
theorem cr_sortN (hc : X.calm = true) (hu : X.A.units + 64 < cLine) : CallR X (.builtin "sorted") (rSortN X.K X.w) := by
  intro pins s σ H vs us Q I r h
  obtain ⟨a, L, rfl, ha, hk, hs, hl, q⟩ := h
  obtain ⟨u, rfl, rx⟩ := vals1 r
  cases (show u = Value.ref a from rx)
  have R0 : SetN0 X.w s.heap a L := (I.hok a _ ha).1
  obtain ⟨es, ep, t, R⟩ := R0.with_ fun p hp => (hk p hp).at I
  obtain ⟨o, ho, hex, hd⟩ := R.ob
  have hsz := R.size
  refine Calls.call_function_entry kind_sorted plain_sorted entry_sorted (args_sorted1 _) ?_
  unfold Builtin.«sorted»
  refine wpAny_bind (m := checkCount "sorted" 1 1 _) (wpAny_pure ?_)
  refine wpAny_bind (collect_set (A := X.A.in1) (I.ok.hd hc) ⟨o, ho, hex.1, hd⟩ R.fits (by unfold scanBound; omega) R.tab.ris R.led fun s1 vs k1 hz g1 o1 pm => ?_)
  have hes : es.toList.map (·.2) = L.map fun q => Value.ref q.1 := by
    rw [R.rows]
    unfold ents
    rw [List.map_map]
    rfl
  rw [hes] at pm
  obtain ⟨M, rfl, hM⟩ := split_refs R.nd (fun p hp q hq e => (R.keys p hp).inj (e ▸ R.keys q hq)) pm
  have hMl : M.length ≤ 4095 := by rw [hM.length_eq]; exact hl
  refine wpAny_bind (wpAny_newList ?_ (by rw [List.length_map, sizeLine_eq]; omega))
  have hoL : (s1.heap.push (seqObj "list" (M.map fun p => Value.ref p.1).toArray 0)).get? s1.heap.objs.size = some (seqObj "list" (M.map fun p => Value.ref p.1).toArray 0) := Heap.get?_push_size _ rfl
  have keep : ∀ b u, s.heap.get? b = some u → (PySem.W.sortingHeap (s1.heap.push (seqObj "list" (M.map fun p => Value.ref p.1).toArray 0)) s1.heap.objs.size (M.map fun p => Value.ref p.1)).get? b = some u := fun b u e => by
    have e1 := k1 b u e
    exact PySem.W.sortingHeap_old (Nat.ne_of_lt (Heap.lt_size e1)) (Heap.get?_push_of_some _ e1)
  have rd : ∀ p ∈ M, (∃ as, Reads (PySem.W.sortingHeap (s1.heap.push (seqObj "list" (M.map fun p => Value.ref p.1).toArray 0)) s1.heap.objs.size (M.map fun p => Value.ref p.1)) (.ref p.1) p.2.data as) ∧ p.2.data.depth ≤ 20 := fun p hp => by
    obtain ⟨⟨as, ra⟩, rd⟩ := (hk p (hM.mem_iff.mp hp)).reads I
    exact ⟨⟨as, Reads.keeps keep ra⟩, rd⟩
  have hcM := hs.perm hM
  refine wpAny_bind (wpAny_holding (wpAny_call_entry slot_list_sort ⟨_, hoL, rfl⟩ entry_list_sort (PySem.W.list_sort_vals (s := { s1 with heap := s1.heap.push (seqObj "list" (M.map fun p => Value.ref p.1).toArray 0) }) hoL
    (sorts_tup (s := { s1 with heap := PySem.W.sortingHeap (s1.heap.push (seqObj "list" (M.map fun p => Value.ref p.1).toArray 0)) s1.heap.objs.size (M.map fun p => Value.ref p.1) }) hcM rd (by show X.A.units + 2 + 30 < cLine; omega)) (by rw [List.length_map, sizeLine_eq]; omega) ⟨_, rfl, ?_⟩) (args_list_sort _)))
  rw [sorted_is (s := { s1 with heap := PySem.W.sortingHeap (s1.heap.push (seqObj "list" (M.map fun p => Value.ref p.1).toArray 0)) s1.heap.objs.size (M.map fun p => Value.ref p.1) }) hcM.ali fun p hp => (rd p hp).1]
  have sd0 := sd_merge M
  have sd : Sd L (M.mergeSort leK) := ⟨sd0.1.trans hM, sd0.2⟩
  generalize M.mergeSort leK = N at sd ⊢
  obtain ⟨c, hcc⟩ := sortedHeap_at (vs := M.map fun p => Value.ref p.1) (out := (N.map fun p => Value.ref p.1).toArray) hoL
  have k : ∀ b u, s.heap.get? b = some u → (sortedHeap (s1.heap.push (seqObj "list" (M.map fun p => Value.ref p.1).toArray 0)) s1.heap.objs.size (M.map fun p => Value.ref p.1) (N.map fun p => Value.ref p.1).toArray).get? b = some u := fun b u e => by
    have e1 := k1 b u e
    have hlt := Heap.lt_size e1
    rw [sortedHeap_old (Nat.ne_of_lt hlt) (by rw [size_push']; exact Nat.lt_succ_of_lt hlt)]
    exact Heap.get?_push_of_some _ e1
  have hlen : (N.map fun q => V.ref q.1).length ≤ sizeLine := by rw [List.length_map, sd.1.length_eq, sizeLine_eq]; omega
  have hn : H s1.heap.objs.size = none := I.hok.fresh hz
  generalize hheap : sortedHeap (s1.heap.push (seqObj "list" (M.map fun p => Value.ref p.1).toArray 0)) s1.heap.objs.size (M.map fun p => Value.ref p.1) (N.map fun p => Value.ref p.1).toArray = h2 at hcc k ⊢
  have J : Inv X pins σ (upd H s1.heap.objs.size (.lst (N.map fun q => V.ref q.1))) { s with heap := h2, gens := s1.gens, drawn := s1.drawn, toks := s1.toks } :=
    I.call (ch := []) (Un.laid k hz hn) (I.hok.laid k hz ⟨hlen, _, c, refs_back N, hcc⟩) (by rw [g1]; exact I.bare) (fun _ z => nomatch z)
  have es1 : ({ s1 with heap := h2 } : Shared) = { s with heap := h2, gens := s1.gens, drawn := s1.drawn, toks := s1.toks } := by
    cases s1
    cases s
    cases o1
    rfl
  refine wpAny_pure ⟨_, rfl, ?_⟩
  rw [es1]
  exact ⟨.ref _, _, J, rfl, q N _ sd hn⟩
end
end NT

/-! numbers of payments: tables of functions on the naturals -/
namespace KM
def stp (c : Nat) (w : Nat → Int) (n : Nat) : Int := w n + (if h : 0 < c ∧ c ≤ n then stp c w (n - c) else 0)
termination_by n
decreasing_by omega
theorem stp_lt {c n : Nat} {w : Nat → Int} (h : n < c) : stp c w n = w n := by
  rw [stp, dif_neg (by omega)]
  omega
theorem stp_ge {c n : Nat} {w : Nat → Int} (h0 : 0 < c) (h : c ≤ n) : stp c w n = w n + stp c w (n - c) := by
  rw [stp, dif_pos ⟨h0, h⟩]
theorem stp_zero {c : Nat} {w : Nat → Int} : stp c w 0 = w 0 := by
  rw [stp, dif_neg (by omega)]
  omega
theorem stp_uniq {c : Nat} {w u : Nat → Int} (h0 : 0 < c) (h : ∀ n, u n = w n + (if c ≤ n then u (n - c) else 0)) (n : Nat) : u n = stp c w n := by
  induction n using Nat.strongRecOn with
  | ind n ih =>
    rw [h n]
    by_cases q : c ≤ n
    · rw [if_pos q, stp_ge h0 q, ih (n - c) (by omega)]
    · rw [if_neg q, stp_lt (by omega)]
      omega
theorem stp_congr {c : Nat} {w v : Nat → Int} (h : ∀ n, w n = v n) (n : Nat) : stp c w n = stp c v n := by
  have e : w = v := funext h
  rw [e]
theorem stp_comm {a b : Nat} {w : Nat → Int} (ha : 0 < a) (hb : 0 < b) (n : Nat) : stp a (stp b w) n = stp b (stp a w) n := by
  -- the left one, less its shift by b, is stp a w
  refine stp_uniq (c := b) hb ?_ n
  intro n
  induction n using Nat.strongRecOn with
  | ind n ih =>
    by_cases qa : a ≤ n
    · have e1 := stp_ge (w := stp b w) ha qa
      have e2 := stp_ge (w := w) ha qa
      have i1 := ih (n - a) (by omega)
      rw [e1, e2]
      by_cases qb : b ≤ n
      · rw [if_pos qb, stp_ge hb qb]
        by_cases qab : a + b ≤ n
        · rw [if_pos (by omega)] at i1
          have e3 : stp a (stp b w) (n - b) = stp b w (n - b) + stp a (stp b w) (n - b - a) := stp_ge ha (by omega)
          have e4 : n - a - b = n - b - a := by omega
          rw [e4] at i1
          omega
        · rw [if_neg (by omega)] at i1
          have e3 : stp a (stp b w) (n - b) = stp b w (n - b) := stp_lt (by omega)
          omega
      · rw [if_neg qb, stp_lt (by omega)]
        rw [if_neg (by omega)] at i1
        omega
    · rw [stp_lt (w := stp b w) (by omega), stp_lt (w := w) (c := a) (by omega)]
      by_cases qb : b ≤ n
      · rw [if_pos qb, stp_ge hb qb]
        have e3 : stp a (stp b w) (n - b) = stp b w (n - b) := stp_lt (by omega)
        omega
      · rw [if_neg qb, stp_lt (by omega)]
        omega
def w0 (n : Nat) : Int := if n = 0 then 1 else 0
/-- by the coins, one after the other -/
def cnt (cs : List Int) : Nat → Int := cs.foldl (fun w c => stp c.toNat w) w0
theorem fold_comm {c : Nat} (hc : 0 < c) : ∀ (cs : List Int) (w : Nat → Int), (∀ d ∈ cs, 1 ≤ d) → ∀ n, cs.foldl (fun w c => stp c.toNat w) (stp c w) n = stp c (cs.foldl (fun w c => stp c.toNat w) w) n
  | [], w, _, n => rfl
  | d :: cs, w, h, n => by
    have hd : 0 < d.toNat := by have := h d (by simp); omega
    show cs.foldl (fun w c => stp c.toNat w) (stp d.toNat (stp c w)) n = _
    have e : stp d.toNat (stp c w) = stp c (stp d.toNat w) := funext fun n => stp_comm hd hc n
    rw [e]
    exact fold_comm hc cs (stp d.toNat w) (fun x hx => h x (by simp [hx])) n
theorem cnt_zero (cs : List Int) : cnt cs 0 = 1 := by
  have key : ∀ (cs : List Int) (w : Nat → Int), cs.foldl (fun w c => stp c.toNat w) w 0 = w 0 := by
    intro cs
    induction cs with
    | nil => intro w; rfl
    | cons c cs ih => intro w; exact (ih _).trans stp_zero
  exact key cs w0
/-- a coin taken out of the row -/
theorem cnt_mem {c : Int} : ∀ (cs : List Int) (w : Nat → Int), (∀ d ∈ cs, 1 ≤ d) → cs.Nodup → c ∈ cs → ∀ n,
    cs.foldl (fun w c => stp c.toNat w) w n = stp c.toNat ((cs.filter (fun d => !decide (d = c))).foldl (fun w c => stp c.toNat w) w) n
  | [], w, _, _, h, n => by cases h
  | d :: cs, w, h1, hn, h, n => by
    have hnd := List.nodup_cons.mp hn
    by_cases e : d = c
    · subst e
      have hf : (d :: cs).filter (fun x => !decide (x = d)) = cs := by
        rw [List.filter_cons_of_neg (by simp)]
        refine List.filter_eq_self.mpr ?_
        intro x hx
        have hxd : x ≠ d := fun z => hnd.1 (z ▸ hx)
        simp [hxd]
      rw [hf]
      exact fold_comm (by have := h1 d (by simp); omega) cs w (fun x hx => h1 x (by simp [hx])) n
    · have hm : c ∈ cs := by
        rcases List.mem_cons.mp h with z | z
        · exact absurd z.symm e
        · exact z
      rw [List.filter_cons_of_pos (by simp [e])]
      exact cnt_mem cs (stp d.toNat w) (fun x hx => h1 x (by simp [hx])) hnd.2 hm n
theorem cnt_take {c : Int} {cs : List Int} (h1 : ∀ d ∈ cs, 1 ≤ d) (hn : cs.Nodup) (h : c ∈ cs) {n : Nat} (hc : c.toNat ≤ n) :
    cnt cs n = cnt cs (n - c.toNat) + cnt (cs.filter (fun d => !decide (d = c))) n := by
  have hp : 0 < c.toNat := by have := h1 c h; omega
  have e := cnt_mem cs w0 h1 hn h
  show cs.foldl _ w0 n = cs.foldl _ w0 (n - c.toNat) + _
  rw [e n, e (n - c.toNat), stp_ge hp hc]
  show _ + _ = _ + List.foldl _ w0 _ n
  omega
theorem stp_bound {c : Nat} {w : Nat → Int} {B : Int} {N : Nat} (hc : 0 < c) (hB : 0 ≤ B) (h : ∀ n, n ≤ N → 0 ≤ w n ∧ w n ≤ B) : ∀ n, n ≤ N → 0 ≤ stp c w n ∧ stp c w n ≤ B * ((n : Int) + 1) := by
  intro n
  induction n using Nat.strongRecOn with
  | ind n ih =>
    intro hn
    have h1 := h n hn
    have e0 : B * ((n : Int) + 1) = B * n + B := by rw [Int.mul_add, Int.mul_one]
    have z0 : 0 ≤ B * (n : Int) := Int.mul_nonneg hB (by omega)
    by_cases q : c ≤ n
    · rw [stp_ge hc q]
      obtain ⟨i1, i2⟩ := ih (n - c) (by omega) (by omega)
      have e1 : B * (((n - c : Nat) : Int) + 1) ≤ B * n := Int.mul_le_mul_of_nonneg_left (by omega) hB
      omega
    · rw [stp_lt (by omega)]
      omega
theorem cnt_bound {N : Nat} : ∀ (cs : List Int) (w : Nat → Int) (B : Int), (∀ d ∈ cs, 1 ≤ d) → 0 ≤ B → (∀ n, n ≤ N → 0 ≤ w n ∧ w n ≤ B) →
    ∀ n, n ≤ N → 0 ≤ cs.foldl (fun w c => stp c.toNat w) w n ∧ cs.foldl (fun w c => stp c.toNat w) w n ≤ B * ((N : Int) + 1) ^ cs.length
  | [], w, B, _, _, h, n, hn => by
    have := h n hn
    simpa using this
  | c :: cs, w, B, h1, hB, h, n, hn => by
    have hc : 0 < c.toNat := by have := h1 c (by simp); omega
    have hB2 : 0 ≤ B * ((N : Int) + 1) := Int.mul_nonneg hB (by omega)
    have key := cnt_bound cs (stp c.toNat w) (B * ((N : Int) + 1)) (fun d hd => h1 d (by simp [hd])) hB2 (fun n hn => by
      obtain ⟨a, b⟩ := stp_bound hc hB h n hn
      exact ⟨a, Int.le_trans b (Int.mul_le_mul_of_nonneg_left (by omega) hB)⟩) n hn
    refine ⟨key.1, Int.le_trans key.2 (Int.le_of_eq ?_)⟩
    show B * ((N : Int) + 1) * ((N : Int) + 1) ^ cs.length = B * ((N : Int) + 1) ^ (cs.length + 1)
    rw [Int.pow_succ, Int.mul_assoc, Int.mul_comm (((N : Int) + 1) ^ cs.length)]
theorem cnt_small {cs : List Int} (h1 : ∀ d ∈ cs, 1 ≤ d) (hl : cs.length ≤ 15) {n : Nat} (hn : n ≤ 400) : 0 ≤ cnt cs n ∧ (cnt cs n).natAbs < 2 ^ 1000 := by
  have h := cnt_bound (N := 400) cs w0 1 h1 (by decide) (fun n _ => by unfold w0; split <;> decide) n hn
  refine ⟨h.1, ?_⟩
  have h2 : cnt cs n ≤ 1 * ((400 : Nat) + 1 : Int) ^ cs.length := h.2
  have h3 : ((400 : Nat) + 1 : Int) ^ cs.length ≤ ((401 : Nat) : Int) ^ 15 := by
    have : (401 : Nat) ^ cs.length ≤ 401 ^ 15 := Nat.pow_le_pow_right (by decide) hl
    exact_mod_cast this
  have h4 : (401 : Nat) ^ 15 < 2 ^ 1000 := by decide +kernel
  have h5 : ((401 : Nat) : Int) ^ 15 = ((401 ^ 15 : Nat) : Int) := by exact_mod_cast rfl
  have h0 : 0 ≤ cnt cs n := h.1
  rw [h5] at h3
  omega
/-! tables -/
def tab (n : Nat) (f : Nat → Int) : List Int := (List.range n).map f
theorem tab_len (n : Nat) (f : Nat → Int) : (tab n f).length = n := by simp [tab]
theorem tab_at {n i : Nat} {f : Nat → Int} (h : i < n) : (tab n f)[i]? = some (f i) := by
  simp [tab, h]
theorem tab_set {n i : Nat} {f : Nat → Int} {v : Int} : (tab n f).set i v = tab n (fun j => if j = i then v else f j) := by
  apply List.ext_getElem?
  intro j
  rw [List.getElem?_set, tab_len]
  by_cases hj : j < n
  · rw [tab_at (f := fun j => if j = i then v else f j) hj, tab_at (f := f) hj]
    by_cases e : i = j
    · rw [if_pos e, if_pos (by omega), if_pos e.symm]
    · rw [if_neg e, if_neg (fun z => e z.symm)]
  · have h1 : (tab n fun j => if j = i then v else f j)[j]? = none := by
      rw [List.getElem?_eq_none_iff, tab_len]; omega
    have h2 : (tab n f)[j]? = none := by
      rw [List.getElem?_eq_none_iff, tab_len]; omega
    rw [h1, h2]
    by_cases e : i = j
    · rw [if_pos e, if_neg (by omega)]
    · rw [if_neg e]
theorem tab_w0 (n : Nat) : ([1] ++ (List.replicate n 0) : List Int) = tab (n + 1) w0 := by
  apply List.ext_getElem?
  intro j
  by_cases hj : j < n + 1
  · rw [tab_at hj]
    cases j with
    | zero => rfl
    | succ j =>
      rw [show ([1] ++ List.replicate n (0 : Int))[j + 1]? = (List.replicate n (0 : Int))[j]? from rfl, List.getElem?_replicate, if_pos (by omega)]
      rfl
  · have h1 : (tab (n + 1) w0)[j]? = none := by
      rw [List.getElem?_eq_none_iff, tab_len]; omega
    rw [h1, List.getElem?_eq_none_iff]
    simp
    omega
/-- a table half way through a coin's step -/
def half (c : Nat) (w : Nat → Int) (m : Nat) (n : Nat) : Int := if n < m then stp c w n else w n
theorem half_start (c : Nat) (w : Nat → Int) (n : Nat) : half c w c n = w n := by
  unfold half
  by_cases h : n < c
  · rw [if_pos h, stp_lt h]
  · rw [if_neg h]
theorem half_step {c : Nat} (hc : 0 < c) (w : Nat → Int) {m : Nat} (hm : c ≤ m) (n : Nat) : (if n = m then half c w m m + half c w m (m - c) else half c w m n) = half c w (m + 1) n := by
  unfold half
  by_cases e : n = m
  · subst e
    rw [if_pos rfl, if_neg (by omega), if_pos (by omega), if_pos (by omega), stp_ge hc hm]
  · rw [if_neg e]
    by_cases h : n < m
    · rw [if_pos h, if_pos (by omega)]
    · rw [if_neg h, if_neg (by omega)]
theorem half_end {c : Nat} {w : Nat → Int} {k n : Nat} (h : n < k) : half c w k n = stp c w n := if_pos h
theorem tab_congr {n : Nat} {f g : Nat → Int} (h : ∀ i, i < n → f i = g i) : tab n f = tab n g := by
  apply List.map_congr_left
  intro i hi
  exact h i (List.mem_range.mp hi)
end KM

/-! lots as the heap has them; what the program's defs promise of them; draws -/
namespace Kx
open PySem L2 MG KM
structure Bi (mg : Str → Option Value) : Prop where
  b_isinstance : mg "isinstance" = none
  b_int : mg "int" = none
  b_bool : mg "bool" = none
  b_str : mg "str" = none
  b_tuple : mg "tuple" = none
  b_list : mg "list" = none
  b_len : mg "len" = none
  b_enumerate : mg "enumerate" = none
  b_range : mg "range" = none
  b_zip : mg "zip" = none
  b_reversed : mg "reversed" = none
  b_divmod : mg "divmod" = none
  b_abs : mg "abs" = none
  b_sorted : mg "sorted" = none
  b_sum : mg "sum" = none
  b_repr : mg "repr" = none
  b_all : mg "all" = none
  b_any : mg "any" = none
  b_min : mg "min" = none
  b_max : mg "max" = none
  b_set : mg "set" = none
  b_dict : mg "dict" = none
/-- some of the items, by their places -/
def gP {α : Type} (is : List Nat) (zs : List α) : List α := is.filterMap (zs[·]?)
def sp_is_integer : Sp := fun vs H Q _ => ∃ n : Int, vs = [.int n] ∧ Q (.bl true) H
def sp_is_between : Sp := fun vs H Q _ => ∃ n a b : Int, vs = [.int n, .int a, .int b] ∧ Q (.bl (decide (a ≤ n) && decide (n ≤ b))) H
def sp_check_small : Sp := fun vs H Q _ => ∃ n : Int, vs = [.int n] ∧ 0 ≤ n ∧ n ≤ 400 ∧ Q .non H
/-! ### lots -/
def asc : Int → List Int → Prop
  | _, [] => True
  | a, c :: r => a < c ∧ c ≤ 60 ∧ asc c r
def ahd : Int → List Int → Nat → Int
  | a, _, 0 => a
  | a, [], _ => a
  | _, c :: r, i + 1 => ahd c r i
theorem asc_at : ∀ {cs : List Int} {a : Int} {i : Nat} {c : Int}, asc a cs → cs[i]? = some c → ahd a cs i < c ∧ c ≤ 60 ∧ ahd a cs (i + 1) = c
  | [], _, _, _, _, h => by simp at h
  | d :: r, a, 0, c, h, e => by
    have e' : d = c := by simpa using e
    subst e'
    obtain ⟨h1, h2, h3⟩ := h
    refine ⟨h1, h2, ?_⟩
    cases r <;> rfl
  | d :: r, a, i + 1, c, h, e => by
    obtain ⟨h1, h2, h3⟩ := h
    exact asc_at (cs := r) (a := d) h3 (by simpa using e)
def asch (hi : Int) : Int → List Int → Prop
  | _, [] => True
  | a, c :: r => a < c ∧ c ≤ hi ∧ asch hi c r
theorem asch_at : ∀ {hi : Int} {cs : List Int} {a : Int} {i : Nat} {c : Int}, asch hi a cs → cs[i]? = some c → ahd a cs i < c ∧ c ≤ hi ∧ ahd a cs (i + 1) = c
  | _, [], _, _, _, _, h => by simp at h
  | hi, d :: r, a, 0, c, h, e => by
    have e' : d = c := by simpa using e
    subst e'
    obtain ⟨h1, h2, h3⟩ := h
    refine ⟨h1, h2, ?_⟩
    cases r <;> rfl
  | hi, d :: r, a, i + 1, c, h, e => by
    obtain ⟨h1, h2, h3⟩ := h
    exact asch_at (cs := r) (a := d) h3 (by simpa using e)
theorem asch_of : ∀ {cs : List Int} {a : Int}, asc a cs → asch 60 a cs
  | [], _, _ => True.intro
  | _ :: _, _, ⟨h1, h2, h3⟩ => ⟨h1, h2, asch_of h3⟩
def sp_is_number : Sp := fun vs H Q _ => ∃ n : Int, vs = [.int n] ∧ Q (.bl (decide (0 ≤ n))) H
def sp_is_small : Sp := fun vs H Q _ => ∃ n : Int, vs = [.int n] ∧ 0 ≤ n ∧ n ≤ 400 ∧ Q (.bl true) H
def sp_count_ascending : Sp := fun vs H Q _ => ∃ (t : Addr) (cs : List Int) (lo hi : Int) (m : Nat), vs = [.ref t, .int lo, .int hi, .int m] ∧ H t = some (.tup (cs.map V.int)) ∧ cs.length ≤ m ∧ m ≤ 1000 ∧ asch hi (lo - 1) cs ∧ ∀ H', Same H H' → Q (.int cs.length) H'
structure Lotc (cs : List Int) : Prop where
  ne : cs ≠ []
  few : cs.length ≤ 15
  up : asc 0 cs
def sp_count_right : Sp := fun vs H Q _ => ∃ (t : Addr) (cs : List Int), vs = [.ref t] ∧ H t = some (.tup (cs.map V.int)) ∧ Lotc cs ∧ ∀ H', Same H H' → Q (.int cs.length) H'
/-! the class Lot: at C; its one field -/
structure Tc (K : PySem.W.Frag) (mg : Str → Option Value) (C : Addr) : Prop where
  cl : Cls K C
  nc : NoAttr K C "_coins"
  gL : mg "Lot" = some (.ref C)
  k1 : PySem.W.findIn K (.ref C) "__class__" = some (some (.builtin "object.__class__"))
  k2 : PySem.W.specialIn K (.builtin "object.__class__") "__get__" = some (some (.builtin "getset_descriptor.__get__"))
  k3 : PySem.W.takesIn K (.builtin "object.__class__") = some true
  k4 : PySem.W.mroIn K C (.type "object") = some true
/-- a lot stands at p, with the coins cs -/
def LotAt (C : Addr) (H : Hp) (p : Addr) (cs : List Int) : Prop := ∃ dx t, H p = some (.ins C dx [("_coins", .ref t)]) ∧ H t = some (.tup (cs.map V.int)) ∧ Lotc cs
theorem LotAt.same {C : Addr} {H H' : Hp} {p : Addr} {cs : List Int} (h : LotAt C H p cs) (s : Same H H') : LotAt C H' p cs := by
  obtain ⟨dx, t, h1, h2, h3⟩ := h
  exact ⟨dx, t, s _ _ h1, s _ _ h2, h3⟩
def sp_Lot_init (C : Addr) : Sp := fun vs H Q _ => ∃ (p dx t : Addr) (cs : List Int), vs = [.ref p, .ref t] ∧ H p = some (.ins C dx []) ∧ H t = some (.tup (cs.map V.int)) ∧ Lotc cs ∧
  ∀ H', But p H H' → H' p = some (.ins C dx [("_coins", .ref t)]) → Q .non H'
def sp_check_lot (C : Addr) : Sp := fun vs H Q _ => ∃ (p dx : Addr) (fs : List (Str × V)), vs = [.ref p] ∧ H p = some (.ins C dx fs) ∧ Q .non H
def sp_put_ways : Sp := fun vs H Q _ => ∃ (l : Addr) (c : Int) (n : Nat) (g : Nat → Int), vs = [.ref l, .int c] ∧ H l = some (.lst ((tab n g).map V.int)) ∧ 1 ≤ c ∧ c ≤ 60 ∧ n ≤ 100000 ∧
  ∀ H', But l H H' → H' l = some (.lst ((tab n (stp c.toNat g)).map V.int)) → Q .non H'
theorem set_map {ns : List Int} {i : Nat} {v : Int} : (ns.map V.int).set i (.int v) = (ns.set i v).map V.int := by
  rw [List.map_set]
def sp_count_ways : Sp := fun vs H Q _ => ∃ (t : Addr) (cs : List Int) (m : Nat), vs = [.ref t, .int m] ∧ H t = some (.tup (cs.map V.int)) ∧ (∀ c ∈ cs, 1 ≤ c ∧ c ≤ 60) ∧ m ≤ 50000 ∧
  ∀ l H', H l = none → Same H H' → H' l = some (.lst ((tab (m + 1) (cnt cs)).map V.int)) → Q (.ref l) H'
theorem take_fold {cs : List Int} {i : Nat} {z : Int} (h : cs[i]? = some z) (g : Nat → Int) : (cs.take (i + 1)).foldl (fun w c => stp c.toNat w) g = stp z.toNat ((cs.take i).foldl (fun w c => stp c.toNat w) g) := by
  rw [List.take_add_one, h, List.foldl_append]
  rfl
def sp_count_payments (C : Addr) : Sp := fun vs H Q _ => ∃ (p : Addr) (cs : List Int) (n : Nat), vs = [.ref p, .int n] ∧ LotAt C H p cs ∧ n ≤ 400 ∧ ∀ H', Same H H' → Q (.int (cnt cs n)) H'
/-- lot.coins -/
def Prp (P : Program) (w : World) (K : PySem.W.Frag) (mg : Str → Option Value) (base : Heap) (C : Addr) : Prop :=
  ∃ (p g : Addr) (fd : FuncData), PropOf K C "coins" p g ∧ FnOk P w K mg base CX0 1 g fd ["self"] (getSp C "_coins") ∧ Binds K fd ["self"] []
theorem pe_coins {X : Cx} {C : Addr} {n : Nat} {e : Expr} {ta : TE} {pos : Pos} (c : Prp X.prog X.w X.K X.mg X.base C) (cl : Cls X.K C) (rm : Room n X.A) (he : PE X e ta) (h2 : 2 ≤ n := by decide)
    (hab : attributeBase e "coins" X.env (eval e X.env) = eval e X.env := by rfl) : PE X (.Attribute e "coins" pos) (tProp C (getSp C "_coins") [] E0 ta) := by
  obtain ⟨p, g, fd, h1, h3, h4⟩ := c
  exact pe_prop he cl h1 h3 (rm.mono h2) h4 .nil pass0 hab
theorem lot_pos : ∀ {cs : List Int} {a : Int}, 0 ≤ a → asc a cs → ∀ c ∈ cs, 1 ≤ c ∧ c ≤ 60
  | [], _, _, _, c, h => by cases h
  | d :: r, a, ha, ⟨h1, h2, h3⟩, c, h => by
    rcases List.mem_cons.mp h with rfl | h
    · exact ⟨by omega, h2⟩
    · exact lot_pos (by omega) h3 c h
/-- where draws come from: three numbers -/
def Bw (H : Hp) (b : Addr) : Prop := ∃ x y z : Int, H b = some (.lst [.int x, .int y, .int z])
def sp_l_dip : Sp := fun vs H Q _ => ∃ (b : Addr) (m : Int), vs = [.ref b, .int m] ∧ Bw H b ∧ 0 < m ∧ m < 1000000000000000000000000000000000000000000000000000000000000 ∧ ∀ r H', 0 ≤ r → r < m → Bw H' b → But b H H' → Q (.int r) H'
/-- one item of a list or a tuple -/
def sp_l_one : Sp := fun vs H Q _ => ∃ (b a : Addr) (xs : List V), vs = [.ref b, .ref a] ∧ Bw H b ∧ a ≠ b ∧ (H a = some (.lst xs) ∨ H a = some (.tup xs)) ∧ 0 < xs.length ∧ xs.length < 1000000 ∧ ∀ x H', x ∈ xs → Bw H' b → But b H H' → Q x H'
/-- a new list of ints -/
def rInts : L2.St → Hp → V → Hp → Prop := fun _ H v H' => ∃ (p : Addr) (ms : List Int), v = .ref p ∧ H p = none ∧ Same H H' ∧ H' p = some (.lst (ms.map V.int))
theorem cut_ints (ns : List Int) (a b : Option Int) : ∃ ms : List Int, cutV (ns.map V.int) a b = ms.map V.int ∧ ms.length ≤ ns.length := by
  refine ⟨(ns.drop (HT.sIx ns.length 0 a)).take (HT.sIx ns.length ns.length b - HT.sIx ns.length 0 a), ?_, ?_⟩
  · unfold cutV
    rw [List.length_map, List.map_take, List.map_drop]
  · rw [List.length_take, List.length_drop]
    omega
def sp_l_bowl (K : PySem.W.Frag) : Sp := fun vs H Q _ => ∃ (a : Addr) (ns : List Int) (k : Nat), vs = [.ref a, .int k] ∧ SqL K H a (ns.map V.int) ∧ ns.length ≤ 63 ∧ k < 100 ∧ ∀ b H', H b = none → Same H H' → Bw H' b → Q (.ref b) H'
theorem asc_of : ∀ {cs : List Int} {a : Int}, cs.Pairwise (· < ·) → (∀ c ∈ cs, a < c ∧ c ≤ 60) → asc a cs
  | [], _, _, _ => True.intro
  | c :: r, a, h, hb => by
    have hp := List.pairwise_cons.mp h
    have h1 := hb c (by simp)
    exact ⟨h1.1, h1.2, asc_of hp.2 fun d hd => ⟨hp.1 d hd, (hb d (by simp [hd])).2⟩⟩
def rl (m : Nat) : List Int := (List.range m).map fun (i : Nat) => 1 + (i : Int)
theorem rl_mem {m : Nat} {c : Int} (h : c ∈ rl m) : 1 ≤ c ∧ c ≤ m := by
  obtain ⟨i, hi, rfl⟩ := List.mem_map.mp h
  have := List.mem_range.mp hi
  omega
theorem rl_nodup (m : Nat) : (rl m).Nodup := by
  unfold rl List.Nodup
  rw [List.pairwise_map]
  exact List.nodup_range.imp fun h => by omega
theorem rl_len (m : Nat) : (rl m).length = m := by simp [rl]
theorem drawn_lot {fs ls fs' : List Int} {m : Nat} (hm : m ≤ 60) (hp : (fs ++ ls).Perm (rl m)) (hs : fs'.Perm fs) (ho : fs'.Pairwise (· ≤ ·)) (h0 : 0 < fs.length) (h15 : fs.length ≤ 15) : Lotc fs' := by
  have nd : fs'.Nodup := hs.nodup_iff.mpr ((hp.nodup_iff.mpr (rl_nodup m)).sublist (List.sublist_append_left fs ls))
  have mem : ∀ c ∈ fs', 0 < c ∧ c ≤ 60 := fun c hc => by
    have := rl_mem (hp.mem_iff.mp (List.mem_append_left ls (hs.mem_iff.mp hc)))
    omega
  have el := hs.length_eq
  refine ⟨?_, by omega, asc_of ?_ mem⟩
  · intro z
    rw [z] at el
    simp at el
    omega
  · have := ho.and nd
    exact this.imp fun h => by omega
theorem rgV_rl (m : Nat) : rgV 1 ((m : Int) + 1) = (rl m).map V.int := by
  unfold rgV rl
  rw [List.map_map, show ((m : Int) + 1 - 1).toNat = m by omega]
  rfl
def sp_l_coins : Sp := fun vs H Q _ => ∃ (b : Addr) (n m : Nat), vs = [.ref b, .int n, .int m] ∧ Bw H b ∧ 1 ≤ n ∧ n ≤ m ∧ m ≤ 60 ∧ n ≤ 15 ∧
  ∀ t cs H', H t = none → Lotc cs → H' t = some (.tup (cs.map V.int)) → Bw H' b → But b H H' → Q (.ref t) H'
theorem down_sum {c : Nat} (hc : 0 < c) (g : Nat → Int) (n : Nat) : ((List.range (n / c + 1)).map fun k => g (n - c * k)).sum = stp c g n := by
  induction n using Nat.strongRecOn with
  | ind n ih =>
    rw [List.range_succ_eq_map, List.map_cons, List.sum_cons, List.map_map]
    by_cases h : c ≤ n
    · have e : n / c = (n - c) / c + 1 := by
        rw [← Nat.div_eq_sub_div hc h]
      have i := ih (n - c) (by omega)
      rw [stp_ge hc h, ← i, e]
      congr 1
      congr 1
      apply List.map_congr_left
      intro k _
      show g (n - c * (k + 1)) = g (n - c - c * k)
      congr 1
      rw [Nat.mul_add, Nat.mul_one]
      omega
    · rw [stp_lt (by omega), Nat.div_eq_of_lt (by omega)]
      simp
theorem pick_down {n t c : Nat} (hc : 0 < c) (ht : t < n) (g : Nat → Int) : pick (tab n g) (some (t : Int)) none (some (-(c : Int))) = (List.range (t / c + 1)).map fun k => g (t - c * k) := by
  have hb : sliceBounds (some (t : Int)) none (some (-(c : Int))) n = ((t : Int), -1, -(c : Int)) := by
    unfold sliceBounds
    have h1 : ¬ (-(c : Int) > 0) := by omega
    simp only [Option.getD_some, h1, if_false]
    rw [if_neg (by omega)]
    have e : max (-1) (min (t : Int) ((n : Int) - 1)) = t := by omega
    rw [e]
  unfold pick
  rw [tab_len, hb]
  show (sliceRange (t : Int) (-1) (-(c : Int))).filterMap _ = _
  have hr : sliceRange (t : Int) (-1) (-(c : Int)) = (List.range (t / c + 1)).map fun k => t - c * k := by
    unfold sliceRange
    have h1 : ¬ (-(c : Int) > 0) := by omega
    have h2 : (t : Int) > -1 := by omega
    have e : ((t : Int) - -1 - -(c : Int) - 1) / (- -(c : Int)) = ((t / c + 1 : Nat) : Int) := by
      rw [show (t : Int) - -1 - -(c : Int) - 1 = t + 1 * c by omega, Int.neg_neg, Int.add_mul_ediv_right _ _ (by omega)]
      omega
    simp only [h1, if_false, h2, if_true, e, Int.toNat_natCast]
    apply List.map_congr_left
    intro k hk
    have hk' := List.mem_range.mp hk
    have : c * k ≤ t := by
      have : c * k ≤ c * (t / c) := Nat.mul_le_mul_left c (by omega)
      exact Nat.le_trans this (Nat.mul_div_le t c)
    have e2 : -(c : Int) * (k : Int) = -((c * k : Nat) : Int) := by
      rw [Int.neg_mul]
      omega
    rw [e2]
    omega
  rw [hr, List.filterMap_map]
  have key : ∀ ks : List Nat, ks.filterMap ((fun x => (tab n g)[x]?) ∘ fun k => t - c * k) = ks.map fun k => g (t - c * k) := by
    intro ks
    induction ks with
    | nil => rfl
    | cons k ks ih =>
      have e : ((fun x => (tab n g)[x]?) ∘ fun k => t - c * k) k = some (g (t - c * k)) := tab_at (n := n) (show t - c * k < n by omega)
      rw [List.filterMap_cons_some e, List.map_cons, ih]
  exact key _
theorem tab_succ (n : Nat) (g : Nat → Int) : tab (n + 1) g = tab n g ++ [g n] := by
  unfold tab
  rw [List.range_succ, List.map_append]
  rfl
def sp_l_many : Sp := fun vs H Q _ => ∃ (t : Addr) (cs : List Int) (m : Nat), vs = [.ref t, .int m] ∧ H t = some (.tup (cs.map V.int)) ∧ (∀ c ∈ cs, 1 ≤ c ∧ c ≤ 60) ∧ m ≤ 1000 ∧
  ∀ l H', H l = none → Same H H' → H' l = some (.lst ((tab (m + 1) (cnt cs)).map V.int)) → Q (.ref l) H'
/-- Lot(coins) -/
def MkL (P : Program) (w : World) (K : PySem.W.Frag) (mg : Str → Option Value) (base : Heap) (C : Addr) : Prop :=
  ∃ (f : Addr) (fd : FuncData), Mk K C f ∧ FnOk P w K mg base CX0 5 f fd ["self", "coins"] (sp_Lot_init C) ∧ Binds K fd ["self", "coins"] []
theorem pe_lot {X : Cx} {C : Addr} {n : Nat} {e : Expr} {t : TA} {p pos : Pos} (c : MkL X.prog X.w X.K X.mg X.base C) (g : X.mg "Lot" = some (.ref C)) (rm : Room n X.A) (ha : PA X [e] t) (h5 : 6 ≤ n := by decide) (hg : Gl X "Lot" := by rfl)
    (he : starEach [e] X.env = [(false, eval e X.env)] := by rfl) : PE X (.Call (.Name "Lot" p) [e] [] pos) (tMake C (sp_Lot_init C) [] E0 t) := by
  obtain ⟨f, fd, h1, h2, h3⟩ := c
  exact pe_make h1 h2 (rm.mono h5) hg g h3 .nil pass0 ha (by decide) he rfl
/-- what making a lot leaves -/
theorem made_lot {C : Addr} {H : Hp} {t : Addr} {cs : List Int} {R : Addr → Hp → Prop} (ht : H t = some (.tup (cs.map V.int))) (hc : Lotc cs) (q : ∀ p H', H p = none → Same H H' → LotAt C H' p cs → R p H') :
    ∀ x dx, H x = none → H dx = none → ¬ dx = x → sp_Lot_init C [.ref x, .ref t] (upd (upd H dx (.own x)) x (.ins C dx [])) (fun v H2 => v = .non ∧ R x H2) E0 := by
  intro x dx nx ndx ne
  have s0 : Same H (upd H dx (.own x)) := same_new ndx
  have nt : t ≠ x := ne_of_none ht nx
  refine ⟨x, dx, t, cs, rfl, upd_same, ?_, hc, ?_⟩
  · rw [upd_ne nt]
    exact s0 _ _ ht
  · intro H' bt h'
    have s1 : Same H H' := fun a o ha => bt a o (ne_of_none ha nx) (by rw [upd_ne (ne_of_none ha nx)]; exact s0 _ _ ha)
    exact ⟨rfl, q x H' nx s1 ⟨dx, t, h', s1 _ _ ht, hc⟩⟩
theorem Bw.same {H H' : Hp} {b : Addr} (h : Bw H b) (s : Same H H') : Bw H' b := by
  obtain ⟨x, y, z, e⟩ := h
  exact ⟨x, y, z, s _ _ e⟩
theorem LotAt.but {C : Addr} {H H' : Hp} {p b : Addr} {cs : List Int} (h : LotAt C H p cs) (hb : Bw H b) (x : But b H H') : LotAt C H' p cs := by
  obtain ⟨dx, t, h1, h2, h3⟩ := h
  obtain ⟨i, j, k, e⟩ := hb
  exact ⟨dx, t, x _ _ (ne_of h1 e (by intro z; cases z)) h1, x _ _ (ne_of h2 e (by intro z; cases z)) h2, h3⟩
theorem asc_pw : ∀ {cs : List Int} {a : Int}, asc a cs → cs.Pairwise (· < ·) ∧ ∀ c ∈ cs, a < c ∧ c ≤ 60
  | [], _, _ => ⟨List.Pairwise.nil, fun c h => by cases h⟩
  | d :: r, a, ⟨h1, h2, h3⟩ => by
    obtain ⟨p, q⟩ := asc_pw h3
    refine ⟨List.pairwise_cons.mpr ⟨fun c hc => (q c hc).1, p⟩, fun c hc => ?_⟩
    rcases List.mem_cons.mp hc with rfl | hc
    · exact ⟨h1, h2⟩
    · have := q c hc
      exact ⟨by omega, this.2⟩
theorem lot_nodup {cs : List Int} (h : Lotc cs) : cs.Nodup := (asc_pw h.up).1.imp fun h => by omega
theorem lot_less {cs : List Int} {c : Int} (h : Lotc cs) (h2 : 1 < cs.length) : Lotc (cs.filter (fun d => !decide (d = c))) := by
  obtain ⟨p, q⟩ := asc_pw h.up
  have nd := lot_nodup h
  have hf := h.few
  refine ⟨?_, ?_, asc_of (p.filter _) fun d hd => q d (List.mem_filter.mp hd).1⟩
  · match cs, h2, nd with
    | x :: y :: r, _, nd =>
      have ne : x ≠ y := fun e => (List.nodup_cons.mp nd).1 (by simp [e])
      intro z
      have hx : x = c := by
        have := (List.filter_eq_nil_iff.mp z) x (by simp)
        simpa using this
      have hy : y = c := by
        have := (List.filter_eq_nil_iff.mp z) y (by simp)
        simpa using this
      exact ne (hx.trans hy.symm)
  · exact Nat.le_trans (List.length_filter_le _ _) hf
def sp_law (K : PySem.W.Frag) : Sp := fun vs H Q _ => ∃ (a : Addr) (ns : List Int), vs = [.ref a] ∧ SqL K H a (ns.map V.int) ∧ ns.length ≤ 63 ∧ ∀ H', Q (.bl true) H'
end Kx

namespace MG
open PySem PySem.Spec PyProof.Rows L2
/-- a test told once -/
def tCutT (R : L2.St → Hp → Bool → Hp → Prop) (tt : TT) : TT := fun σ H Q => tt σ H (R σ H) ∧ ∀ b H', R σ H b H' → Q b H'
theorem pt_cutR {X : Cx} {e : Expr} {tt : TT} (R : L2.St → Hp → Bool → Hp → Prop) (h : PT X e tt) : PT X e (tCutT R tt) := by
  refine ⟨?_⟩
  rintro pins s σ H Q I ⟨a, b⟩
  refine wpAny_mono (h.run pins s σ H _ I a) ?_ (fun _ _ z => z)
  intro u s' hz
  obtain ⟨H', I', q⟩ := hz
  exact ⟨H', I', b _ H' q⟩
/-- a while whose test is told once -/
theorem while_cut {R : L2.St → Hp → Bool → Hp → Prop} {c : TT} {tb : TS} {D : Ends} {σ : L2.St} {H : Hp} (Pv : L2.St → Hp → Prop) (μ : L2.St → Hp → Nat) (h0 : Pv σ H)
    (ht : ∀ σ H, Pv σ H → c σ H (R σ H))
    (hs : ∀ σ H b H1, Pv σ H → R σ H b H1 → if b = true then tb { D with nx := fun σ' H' => Pv σ' H' ∧ μ σ' H' < μ σ H, ct := fun σ' H' => Pv σ' H' ∧ μ σ' H' < μ σ H, bk := D.nx } σ H1 else D.nx σ H1) : tWhile (tCutT R c) tb D σ H :=
  while_by Pv μ h0 (fun σ H p => ⟨ht σ H p, fun b H' r => hs σ H b H' p r⟩) (fun σ H Q Q' m h => ⟨h.1, fun b H' r => m _ _ (h.2 b H' r)⟩)
/-- t + u of tracked tuples, t not empty -/
def rCatHT : R2 := fun x y H Q => ∃ a b xs ys, x = .ref a ∧ y = .ref b ∧ H a = some (.tup xs) ∧ H b = some (.tup ys) ∧ xs ≠ [] ∧ xs.length + ys.length ≤ sizeLine ∧
  (ys = [] → Q (.ref a) H) ∧ (ys ≠ [] → ∀ p, H p = none → Q (.ref p) (upd H p (.tup (xs ++ ys))))
theorem cat_HT {X : Cx} : OpR X (binaryOp .Add) rCatHT := by
  intro pins s σ H x y v u Q I rx ry h
  obtain ⟨a, b, xs, ys, h1, h2, ha, hb, hx, hz, q1, q2⟩ := h
  exact op_catT pins s σ H x y v u Q I rx ry ⟨a, b, xs, ys, h1, h2, sqT ha, sqT hb, hx, hz, q1, q2⟩
theorem pick_rev {α : Type} (xs : List α) : pick xs none none (some (-1)) = xs.reverse := by
  have hb : sliceBounds none none (some (-1)) xs.length = ((xs.length : Int) - 1, -1, -1) := by
    unfold sliceBounds
    simp
  unfold pick
  rw [hb]
  have hr : sliceRange ((xs.length : Int) - 1) (-1) (-1) = (List.range xs.length).map fun k => xs.length - 1 - k := by
    unfold sliceRange
    have h1 : ¬ ((-1 : Int) > 0) := by omega
    simp only [h1, if_false]
    by_cases h0 : xs.length = 0
    · rw [if_neg (by omega), h0]
      rfl
    · rw [if_pos (by omega)]
      have e : (((xs.length : Int) - 1 - -1 - -1 - 1) / - -1).toNat = xs.length := by
        rw [Int.neg_neg, Int.ediv_one]
        omega
      rw [e]
      apply List.map_congr_left
      intro k hk
      have := List.mem_range.mp hk
      omega
  show (sliceRange ((xs.length : Int) - 1) (-1) (-1)).filterMap (xs[·]?) = _
  rw [hr, List.filterMap_map]
  apply List.ext_getElem?
  intro i
  have key : ∀ (n : Nat), n ≤ xs.length → (List.range n).filterMap ((fun x => xs[x]?) ∘ fun k => xs.length - 1 - k) = xs.reverse.take n := by
    intro n
    induction n with
    | zero => intro _; rfl
    | succ n ih =>
      intro hn
      have hlt : n < xs.reverse.length := by rw [List.length_reverse]; omega
      rw [List.range_succ, List.filterMap_append, ih (by omega), List.take_add_one]
      congr 1
      have e1 : xs.reverse[n]? = xs[xs.length - 1 - n]? := List.getElem?_reverse (by omega)
      rw [e1]
      have hx : xs[xs.length - 1 - n]? = some xs[xs.length - 1 - n] := List.getElem?_eq_getElem (by omega)
      simp [hx]
  rw [key _ (Nat.le_refl _)]
  rw [show xs.length = xs.reverse.length from (List.length_reverse).symm, List.take_length]
theorem fnOk_no {P : Program} {w : World} {K : PySem.W.Frag} {mg : Str → Option Value} {base : Heap} {C : CXT} {n : Nat} {g : Addr} {dat : FuncData} {pars : List Str} {pr : Sp} (h : ∀ a b c d, ¬ pr a b c d) : FnOk P w K mg base C n g dat pars pr :=
  ⟨fun a b c d z => (h a b c d z).elim, fun A out s H ar us vs Q E _ _ _ _ z => (h _ _ _ _ z).elim⟩
/-! lists and tuples of rows of ints -/
def Each (H : Hp) (ps : List Addr) (L : List (List Int)) : Prop := ps.length = L.length ∧ ∀ (i : Nat) (p : Addr) (l : List Int), ps[i]? = some p → L[i]? = some l → H p = some (.tup (l.map V.int))
theorem Each.same {H H' : Hp} {ps : List Addr} {L : List (List Int)} (h : Each H ps L) (s : Same H H') : Each H' ps L := ⟨h.1, fun i p l a b => s _ _ (h.2 i p l a b)⟩
theorem Each.nil {H : Hp} : Each H [] [] := ⟨rfl, fun i p l a _ => by simp at a⟩
theorem Each.snoc {H : Hp} {ps : List Addr} {L : List (List Int)} {p : Addr} {l : List Int} (h : Each H ps L) (e : H p = some (.tup (l.map V.int))) : Each H (ps ++ [p]) (L ++ [l]) := by
  refine ⟨by simp [h.1], ?_⟩
  intro i q m a b
  by_cases hi : i < ps.length
  · rw [List.getElem?_append_left hi] at a
    rw [List.getElem?_append_left (h.1 ▸ hi)] at b
    exact h.2 i q m a b
  · rw [List.getElem?_append_right (by omega)] at a
    rw [List.getElem?_append_right (by have := h.1; omega)] at b
    have e1 : i - ps.length = 0 := by
      match z : i - ps.length, a with
      | 0, _ => rfl
      | k + 1, a => simp at a
    have e2 : i - L.length = 0 := by have := h.1; omega
    rw [e1] at a
    rw [e2] at b
    simp at a b
    subst a b
    exact e
theorem Each.append {H : Hp} {ps qs : List Addr} {L M : List (List Int)} (h : Each H ps L) (g : Each H qs M) : Each H (ps ++ qs) (L ++ M) := by
  refine ⟨by simp [h.1, g.1], ?_⟩
  intro i q m a b
  by_cases hi : i < ps.length
  · rw [List.getElem?_append_left hi] at a
    rw [List.getElem?_append_left (h.1 ▸ hi)] at b
    exact h.2 i q m a b
  · rw [List.getElem?_append_right (by omega)] at a
    rw [List.getElem?_append_right (by have := h.1; omega), ← h.1] at b
    exact g.2 _ q m a b
theorem Each.dp {K : PySem.W.Frag} {H : Hp} : ∀ {ps : List Addr} {L : List (List Int)}, Each H ps L → DpAll K H (ps.map V.ref) (L.map fun l => PyData.tuple (l.map .int))
  | [], [], _ => .nil
  | [], _ :: _, h => by have := h.1; simp at this
  | _ :: _, [], h => by have := h.1; simp at this
  | p :: ps, l :: L, h => .cons (dpT (h.2 0 p l rfl rfl)) (Each.dp ⟨by have := h.1; simpa using this, fun i q m a b => h.2 (i + 1) q m (by simpa using a) (by simpa using b)⟩)
theorem Each.upd {H : Hp} {ps : List Addr} {L : List (List Int)} {D : Addr} {xs : List V} {o : HO} (h : Each H ps L) (e : H D = some (.lst xs)) : Each (upd H D o) ps L :=
  ⟨h.1, fun i p l a b => by
    have := h.2 i p l a b
    rw [upd_ne (ne_of this e (by intro z; cases z))]
    exact this⟩
theorem Same.updN {H H' : Hp} {D : Addr} {o : HO} (s : Same H H') (n : H D = none) : Same H (upd H' D o) := fun a u e => by
  rw [upd_ne (ne_of_none e n)]
  exact s _ _ e
def RowsT (H : Hp) (t : Addr) (L : List (List Int)) : Prop := ∃ ps : List Addr, H t = some (.tup (ps.map V.ref)) ∧ Each H ps L
def RowsL (H : Hp) (t : Addr) (L : List (List Int)) : Prop := ∃ ps : List Addr, H t = some (.lst (ps.map V.ref)) ∧ Each H ps L
theorem RowsT.same {H H' : Hp} {t : Addr} {L : List (List Int)} (h : RowsT H t L) (s : Same H H') : RowsT H' t L := let ⟨ps, a, b⟩ := h; ⟨ps, s _ _ a, b.same s⟩
theorem RowsL.same {H H' : Hp} {t : Addr} {L : List (List Int)} (h : RowsL H t L) (s : Same H H') : RowsL H' t L := let ⟨ps, a, b⟩ := h; ⟨ps, s _ _ a, b.same s⟩
theorem RowsT.dp {K : PySem.W.Frag} {H : Hp} {t : Addr} {L : List (List Int)} (h : RowsT H t L) : Dp K H (.ref t) (.tuple (L.map fun l => PyData.tuple (l.map .int))) := let ⟨ps, a, b⟩ := h; .tup (sqT a) b.dp
theorem shw_rows {L : List (List Int)} {m k : Nat} (h : ∀ l ∈ L, l.length ≤ k ∧ ∀ i ∈ l, i.natAbs < 2 ^ 1000) (hm : L.length ≤ m) : Shw (m * (k * 1003 + 5) + 3) 2 (.tuple (L.map fun l => PyData.tuple (l.map .int))) := by
  refine (shw_tuple (n := k * 1003 + 3) (k := 1) (m := m) (fun d hd => ?_) (by simpa using hm)).mono (Nat.le_refl _) (Nat.le_refl _)
  obtain ⟨l, hl, rfl⟩ := List.mem_map.mp hd
  exact shw_intsT (h l hl).2 (h l hl).1
theorem ref_at {ps : List Addr} {i : Nat} {x : V} (h : (ps.map V.ref)[i]? = some x) : ∃ p, ps[i]? = some p ∧ x = .ref p := by
  rw [List.getElem?_map] at h
  cases e : ps[i]? with
  | none => rw [e] at h; cases h
  | some z => rw [e] at h; exact ⟨z, rfl, (Option.some.inj h).symm⟩
theorem mapR_at {ps : List Addr} {i : Nat} {z : Addr} (h : ps[i]? = some z) : (ps.map V.ref)[i]? = some (.ref z) := by
  rw [List.getElem?_map, h]
  rfl
end MG

/-! all payments of a sum, ascending; which of them stands at a place; the place of one -/
namespace KM
/-- how many there are by the coins from here on -/
def tw : List Int → Nat → Int
  | [] => w0
  | c :: cs => stp c.toNat (tw cs)
theorem tw_cnt : ∀ {cs : List Int}, (∀ d ∈ cs, 1 ≤ d) → ∀ n, tw cs n = cnt cs n := by
  intro cs
  induction cs with
  | nil => intro _ n; rfl
  | cons c cs ih =>
    intro h n
    have hc : 1 ≤ c := h c (by simp)
    have hr : ∀ d ∈ cs, 1 ≤ d := fun d z => h d (List.mem_cons_of_mem _ z)
    show stp c.toNat (tw cs) n = (c :: cs).foldl (fun w c => stp c.toNat w) w0 n
    rw [List.foldl_cons, fold_comm (by omega) cs w0 hr n]
    exact stp_congr (fun n => ih hr n) n
def blk (c : Nat) (q : Nat → List (List Int)) (n m : Nat) : List (List Int) := (q (n - m * c)).map (fun p => (m : Int) :: p)
/-- those in which the first coin stands m times or more -/
def from_ (c : Nat) (q : Nat → List (List Int)) (n m : Nat) : List (List Int) := (List.range' m (n / c + 1 - m)).flatMap (blk c q n)
def allP : List Int → Nat → List (List Int)
  | [], n => if n = 0 then [[]] else []
  | c :: cs, n => from_ c.toNat (allP cs) n 0
theorem from_step {c n m : Nat} {q : Nat → List (List Int)} (h : m ≤ n / c) : from_ c q n m = blk c q n m ++ from_ c q n (m + 1) := by
  unfold from_
  rw [show n / c + 1 - m = (n / c + 1 - (m + 1)) + 1 from by omega, List.range'_succ, List.flatMap_cons]
theorem from_end {c n m : Nat} {q : Nat → List (List Int)} (h : n / c < m) : from_ c q n m = [] := by
  unfold from_
  rw [show n / c + 1 - m = 0 from by omega]
  rfl
theorem blk_len {c n m : Nat} {q : Nat → List (List Int)} : (blk c q n m).length = (q (n - m * c)).length := by simp [blk]
theorem from_shift {c n m : Nat} {q : Nat → List (List Int)} (hc : 0 < c) (hn : c ≤ n) : (from_ c q n (m + 1)).length = (from_ c q (n - c) m).length := by
  unfold from_
  have e : n / c = (n - c) / c + 1 := by
    have := Nat.sub_add_cancel hn
    rw [← this, Nat.add_div_right _ hc, Nat.add_sub_cancel]
  rw [show n / c + 1 - (m + 1) = (n - c) / c + 1 - m from by omega, List.range'_eq_map_range, List.range'_eq_map_range (s := m)]
  simp only [List.length_flatMap, List.map_map]
  congr 1
  apply List.map_congr_left
  intro j _
  simp only [Function.comp, blk_len]
  rw [show n - (m + 1 + j) * c = n - c - (m + j) * c from by
    rw [show m + 1 + j = (m + j) + 1 from by omega, Nat.add_mul]
    omega]
theorem all_len : ∀ {cs : List Int}, (∀ d ∈ cs, 1 ≤ d) → ∀ n, ((allP cs n).length : Int) = tw cs n := by
  intro cs
  induction cs with
  | nil =>
    intro _ n
    by_cases h : n = 0 <;> simp [allP, tw, w0, h]
  | cons c cs ih =>
    intro h n
    have hc : 1 ≤ c := h c (by simp)
    have hr : ∀ d ∈ cs, 1 ≤ d := fun d z => h d (List.mem_cons_of_mem _ z)
    refine stp_uniq (c := c.toNat) (w := tw cs) (u := fun n => ((allP (c :: cs) n).length : Int)) (by omega) ?_ n
    intro n
    show ((from_ c.toNat (allP cs) n 0).length : Int) = _
    rw [from_step (Nat.zero_le _), List.length_append, blk_len, Nat.zero_mul, Nat.sub_zero, Int.natCast_add, ih hr n]
    by_cases q : c.toNat ≤ n
    · rw [if_pos q, from_shift (by omega) q]
      rfl
    · rw [if_neg q, from_end (by rw [Nat.div_eq_of_lt (by omega)]; omega)]
      rfl
/-- a turn of the search: this first number is too small -/
theorem from_more {c n m k : Nat} {q : Nat → List (List Int)} {p : List Int} (hm : m ≤ n / c) (h : (from_ c q n m)[k]? = some p) (hk : (q (n - m * c)).length ≤ k) :
    m + 1 ≤ n / c ∧ (from_ c q n (m + 1))[k - (q (n - m * c)).length]? = some p := by
  rw [from_step hm, List.getElem?_append_right (by rw [blk_len]; exact hk), blk_len] at h
  refine ⟨?_, h⟩
  rcases Nat.lt_or_ge (n / c) (m + 1) with z | z
  · rw [from_end z] at h
    simp at h
  · exact z
/-- the search ends -/
theorem from_here {c n m k : Nat} {q : Nat → List (List Int)} {p : List Int} (hm : m ≤ n / c) (h : (from_ c q n m)[k]? = some p) (hk : k < (q (n - m * c)).length) :
    ∃ r, (q (n - m * c))[k]? = some r ∧ p = (m : Int) :: r := by
  rw [from_step hm, List.getElem?_append_left (by rw [blk_len]; exact hk)] at h
  unfold blk at h
  rw [List.getElem?_map] at h
  match e : (q (n - m * c))[k]?, h with
  | some r, h => exact ⟨r, rfl, by simpa using h.symm⟩
/-- what is left stays a number -/
theorem from_left {c n m : Nat} (hc : 0 < c) (hm : m + 1 ≤ n / c) : c ≤ n - m * c ∧ n - (m + 1) * c = n - m * c - c := by
  have h := (Nat.le_div_iff_mul_le hc).mp hm
  rw [Nat.add_mul] at *
  omega
/-- what a payment comes to -/
def wrt : List Int → List Int → Int
  | c :: cs, m :: p => c * m + wrt cs p
  | _, _ => 0
theorem wrt_nn : ∀ (cs p : List Int), (∀ d ∈ cs, 1 ≤ d) → (∀ m ∈ p, 0 ≤ m) → 0 ≤ wrt cs p
  | [], [], _, _ => Int.le_refl _
  | [], _ :: _, _, _ => Int.le_refl _
  | _ :: _, [], _, _ => Int.le_refl _
  | d :: ds, x :: xs, h, h0 => by
    have a := wrt_nn ds xs (fun y hy => h y (by simp [hy])) (fun y hy => h0 y (by simp [hy]))
    have b : 0 ≤ d * x := Int.mul_nonneg (by have := h d (by simp); omega) (h0 x (by simp))
    show 0 ≤ d * x + wrt ds xs
    omega
/-- each of them is a payment of the sum -/
theorem all_is : ∀ {cs : List Int}, (∀ d ∈ cs, 1 ≤ d) → ∀ {n : Nat} {p : List Int}, p ∈ allP cs n → p.length = cs.length ∧ (∀ m ∈ p, 0 ≤ m) ∧ wrt cs p = n := by
  intro cs
  induction cs with
  | nil =>
    intro _ n p h
    by_cases z : n = 0
    · simp [allP, z] at h
      subst h
      simp [wrt, z]
    · simp [allP, z] at h
  | cons c cs ih =>
    intro h n p hp
    have hc : 1 ≤ c := h c (by simp)
    have hr : ∀ d ∈ cs, 1 ≤ d := fun d z => h d (List.mem_cons_of_mem _ z)
    obtain ⟨m, hm, hb⟩ := List.mem_flatMap.mp (show p ∈ (List.range' 0 (n / c.toNat + 1 - 0)).flatMap (blk c.toNat (allP cs) n) from hp)
    obtain ⟨r, hr1, rfl⟩ := List.mem_map.mp hb
    obtain ⟨l1, l2, l3⟩ := ih hr hr1
    have hm' : m ≤ n / c.toNat := by
      have := List.mem_range'_1.mp hm
      omega
    have hle : m * c.toNat ≤ n := (Nat.le_div_iff_mul_le (by omega)).mp hm'
    refine ⟨by simp [l1], ?_, ?_⟩
    · intro x hx
      rcases List.mem_cons.mp hx with rfl | hx
      · omega
      · exact l2 x hx
    · show c * m + wrt cs r = n
      rw [l3, Int.natCast_sub hle, Int.natCast_mul, Int.toNat_of_nonneg (by omega), Int.mul_comm c]
      omega
/-- the place of a payment -/
def rk : List Int → List Int → Nat → Nat
  | c :: cs, m :: p, n => ((List.range m.toNat).map fun j => (allP cs (n - j * c.toNat)).length).sum + rk cs p (n - m.toNat * c.toNat)
  | _, _, _ => 0
theorem from_at {c n : Nat} {q : Nat → List (List Int)} : ∀ (d m k : Nat), m + d ≤ n / c → (from_ c q n m)[((List.range d).map fun j => (q (n - (m + j) * c)).length).sum + k]? = (from_ c q n (m + d))[k]? := by
  intro d
  induction d with
  | zero => intro m k _; simp
  | succ d ih =>
    intro m k h
    rw [from_step (show m ≤ n / c by omega), List.range_succ_eq_map, List.map_cons, List.map_map, List.sum_cons]
    rw [List.getElem?_append_right (by rw [blk_len]; simp only [Nat.add_zero]; omega), blk_len]
    have e := ih (m + 1) k (by omega)
    rw [show m + (d + 1) = m + 1 + d from by omega, ← e]
    congr 1
    have e2 : ((List.range d).map ((fun j => (q (n - (m + j) * c)).length) ∘ Nat.succ)) = (List.range d).map fun j => (q (n - (m + 1 + j) * c)).length := by
      apply List.map_congr_left
      intro j _
      simp only [Function.comp]
      rw [show m + j.succ = m + 1 + j from by omega]
    rw [e2]
    simp only [Nat.add_zero]
    omega
/-- a payment of a sum stands at its place -/
theorem rk_at : ∀ {cs : List Int}, (∀ d ∈ cs, 1 ≤ d) → ∀ {p : List Int} {n : Nat}, p.length = cs.length → (∀ m ∈ p, 0 ≤ m) → wrt cs p = n → (allP cs n)[rk cs p n]? = some p := by
  intro cs
  induction cs with
  | nil =>
    intro _ p n hl _ hw
    match p, hl with
    | [], _ =>
      have z : n = 0 := by
        have : (0 : Int) = n := hw
        omega
      subst z
      rfl
  | cons c cs ih =>
    intro h p n hl h0 hw
    match p, hl with
    | m :: p, hl =>
      have hc : 1 ≤ c := h c (by simp)
      have hr : ∀ d ∈ cs, 1 ≤ d := fun d z => h d (List.mem_cons_of_mem _ z)
      have hm : 0 ≤ m := h0 m (by simp)
      have hw' : c * m + wrt cs p = n := hw
      have wn : 0 ≤ wrt cs p := wrt_nn cs p hr fun y hy => h0 y (by simp [hy])
      have em : ((m.toNat * c.toNat : Nat) : Int) = c * m := by
        rw [Int.natCast_mul, Int.toNat_of_nonneg hm, Int.toNat_of_nonneg (by omega), Int.mul_comm]
      have hle : m.toNat * c.toNat ≤ n := by omega
      have hd : 0 + m.toNat ≤ n / c.toNat := by
        rw [Nat.zero_add]
        exact (Nat.le_div_iff_mul_le (by omega)).mpr hle
      have i := ih hr (p := p) (n := n - m.toNat * c.toNat) (by simpa using hl) (fun y hy => h0 y (by simp [hy])) (by omega)
      have f := from_at (c := c.toNat) (n := n) (q := allP cs) m.toNat 0 (rk cs p (n - m.toNat * c.toNat)) hd
      simp only [Nat.zero_add] at f
      show (from_ c.toNat (allP cs) n 0)[_]? = _
      refine f.trans ?_
      rw [from_step (by omega)]
      have lt : rk cs p (n - m.toNat * c.toNat) < (allP cs (n - m.toNat * c.toNat)).length := by
        rcases Nat.lt_or_ge (rk cs p (n - m.toNat * c.toNat)) (allP cs (n - m.toNat * c.toNat)).length with z | z
        · exact z
        · rw [List.getElem?_eq_none z] at i
          cases i
      rw [List.getElem?_append_left (by rw [blk_len]; exact lt)]
      unfold blk
      rw [List.getElem?_map, i]
      simp [Int.toNat_of_nonneg hm]
/-- lesser, as tuples of numbers are compared -/
def lx : List Int → List Int → Bool
  | a :: p, b :: q => a < b || (a == b && lx p q)
  | [], _ :: _ => true
  | _, [] => false
theorem all_asc : ∀ {cs : List Int}, (∀ d ∈ cs, 1 ≤ d) → ∀ n, (allP cs n).Pairwise fun p q => lx p q = true := by
  intro cs
  induction cs with
  | nil =>
    intro _ n
    by_cases z : n = 0 <;> simp [allP, z]
  | cons c cs ih =>
    intro h n
    have hr : ∀ d ∈ cs, 1 ≤ d := fun d z => h d (List.mem_cons_of_mem _ z)
    have go : ∀ d m, n / c.toNat + 1 - m = d → (from_ c.toNat (allP cs) n m).Pairwise (fun p q => lx p q = true) ∧ ∀ p ∈ from_ c.toNat (allP cs) n m, ∃ x r, p = x :: r ∧ (m : Int) ≤ x := by
      intro d
      induction d with
      | zero =>
        intro m e
        rw [from_end (by omega)]
        simp
      | succ d id =>
        intro m e
        obtain ⟨i1, i2⟩ := id (m + 1) (by omega)
        rw [from_step (by omega)]
        refine ⟨List.pairwise_append.mpr ⟨?_, i1, ?_⟩, ?_⟩
        · unfold blk
          rw [List.pairwise_map]
          refine (ih hr (n - m * c.toNat)).imp ?_
          intro a b hab
          simp [lx, hab]
        · intro a ha b hb
          obtain ⟨r, _, rfl⟩ := List.mem_map.mp ha
          obtain ⟨x, r', rfl, hx⟩ := i2 b hb
          have : (m : Int) < x := by omega
          simp [lx, this]
        · intro p hp
          rcases List.mem_append.mp hp with hp | hp
          · obtain ⟨r, _, rfl⟩ := List.mem_map.mp hp
            exact ⟨_, r, rfl, Int.le_refl _⟩
          · obtain ⟨x, r, rfl, hx⟩ := i2 p hp
            exact ⟨x, r, rfl, by omega⟩
    exact (go _ 0 rfl).1
end KM

/-! all payments, by the law's own recursion; bounds -/
namespace KM
theorem all_one {c : Int} (hc : 1 ≤ c) (n : Nat) : allP [c] n = if n % c.toNat = 0 then [[((n / c.toNat : Nat) : Int)]] else [] := by
  have h0 : 0 < c.toNat := by omega
  have hm : n - n / c.toNat * c.toNat = n % c.toNat := by
    have := Nat.div_add_mod n c.toNat
    rw [Nat.mul_comm] at this
    omega
  have go : ∀ d m, m + d = n / c.toNat → from_ c.toNat (allP []) n m = if n % c.toNat = 0 then [[((n / c.toNat : Nat) : Int)]] else [] := by
    intro d
    induction d with
    | zero =>
      intro m e
      have e' : m = n / c.toNat := by omega
      subst e'
      rw [from_step (Nat.le_refl _), from_end (Nat.lt_succ_self _), List.append_nil]
      unfold blk allP
      rw [hm]
      by_cases z : n % c.toNat = 0
      · rw [if_pos z, if_pos z]
        rfl
      · rw [if_neg z, if_neg z]
        rfl
    | succ d ih =>
      intro m e
      rw [from_step (by omega), ih (m + 1) (by omega)]
      have hl : (m + 1) * c.toNat ≤ n := (Nat.le_div_iff_mul_le h0).mp (by omega)
      have hb : blk c.toNat (allP []) n m = [] := by
        unfold blk allP
        rw [if_neg (by rw [Nat.add_mul] at hl; omega)]
        rfl
      rw [hb]
      rfl
  exact go _ 0 (Nat.zero_add _)
theorem from_take {c n : Nat} {q : Nat → List (List Int)} {j : Nat} : (List.range' 0 (j + 1)).flatMap (blk c q n) = (List.range' 0 j).flatMap (blk c q n) ++ blk c q n j := by
  rw [List.range'_concat, List.flatMap_append]
  simp
theorem from_all {c n : Nat} {q : Nat → List (List Int)} : (List.range' 0 (n / c + 1)).flatMap (blk c q n) = from_ c q n 0 := rfl
theorem blk_le {c n j : Nat} {q : Nat → List (List Int)} : ∀ {k : Nat}, j < k → (blk c q n j).length ≤ ((List.range' 0 k).flatMap (blk c q n)).length := by
  intro k
  induction k with
  | zero => intro h; omega
  | succ k ih =>
    intro h
    rw [from_take, List.length_append]
    by_cases e : j = k
    · subst e; omega
    · have := ih (by omega)
      omega
theorem part_le {c n : Nat} {q : Nat → List (List Int)} : ∀ {k m : Nat}, k ≤ m → ((List.range' 0 k).flatMap (blk c q n)).length ≤ ((List.range' 0 m).flatMap (blk c q n)).length := by
  intro k m h
  induction m with
  | zero =>
    have : k = 0 := by omega
    subst this
    exact Nat.le_refl _
  | succ m ih =>
    by_cases e : k = m + 1
    · subst e; exact Nat.le_refl _
    · rw [from_take (j := m), List.length_append]
      have := ih (by omega)
      omega
/-- the payments by fewer coins are no more -/
theorem all_less {c : Int} {cs : List Int} {n j : Nat} (h : j ≤ n / c.toNat) : (allP cs (n - j * c.toNat)).length ≤ (allP (c :: cs) n).length := by
  have := blk_le (c := c.toNat) (n := n) (q := allP cs) (k := n / c.toNat + 1) (j := j) (by omega)
  rw [blk_len] at this
  exact this
theorem all_small {cs : List Int} (h : ∀ d ∈ cs, 1 ≤ d) {n : Nat} {m : Nat} (hb : tw cs n ≤ m) : (allP cs n).length ≤ m := by
  have := all_len h n
  omega
theorem tw_nn {cs : List Int} (h : ∀ d ∈ cs, 1 ≤ d) (n : Nat) : 0 ≤ tw cs n := by
  have := all_len h n
  omega
theorem drop_cons {cs : List Int} {i : Nat} {c : Int} (h : cs[i]? = some c) : cs.drop i = c :: cs.drop (i + 1) := by
  obtain ⟨hi, e⟩ := List.getElem?_eq_some_iff.mp h
  rw [List.drop_eq_getElem_cons hi, e]
/-- numbers of a payment are small -/
theorem all_mem {cs : List Int} (h : ∀ d ∈ cs, 1 ≤ d) : ∀ {n : Nat} {p : List Int}, p ∈ allP cs n → ∀ m ∈ p, 0 ≤ m ∧ m ≤ n := by
  induction cs with
  | nil =>
    intro n p hp m hm
    by_cases z : n = 0
    · simp [allP, z] at hp
      subst hp
      cases hm
    · simp [allP, z] at hp
  | cons c cs ih =>
    intro n p hp x hx
    have hc : 1 ≤ c := h c (by simp)
    have hr : ∀ d ∈ cs, 1 ≤ d := fun d z => h d (List.mem_cons_of_mem _ z)
    obtain ⟨m, hm, hb⟩ := List.mem_flatMap.mp (show p ∈ (List.range' 0 (n / c.toNat + 1 - 0)).flatMap (blk c.toNat (allP cs) n) from hp)
    obtain ⟨r, hr1, rfl⟩ := List.mem_map.mp hb
    have hm' : m ≤ n / c.toNat := by
      have := List.mem_range'_1.mp hm
      omega
    have : n / c.toNat ≤ n := Nat.div_le_self _ _
    rcases List.mem_cons.mp hx with rfl | hx
    · omega
    · have := ih hr hr1 x hx
      omega
theorem tab_take {n k : Nat} {g : Nat → Int} (h : k ≤ n) : (tab n g).take k = tab k g := by
  unfold tab
  rw [← List.map_take, List.take_range, Nat.min_eq_left h]
end KM
namespace KM
theorem drop_is {α : Type} {p : List α} {i : Nat} {x : α} {r : List α} (h : p.drop i = x :: r) : p[i]? = some x ∧ p.take (i + 1) = p.take i ++ [x] ∧ p.drop (i + 1) = r := by
  have e : p[i]? = some x := by
    have := congrArg (fun l : List α => l[0]?) h
    simpa [List.getElem?_drop] using this
  refine ⟨e, ?_, ?_⟩
  · rw [List.take_add_one, e]
    rfl
  · have := congrArg List.tail h
    rw [List.tail_drop] at this
    exact this
theorem all_len_of {cs : List Int} (h : ∀ d ∈ cs, 1 ≤ d) {n k : Nat} {p : List Int} (e : (allP cs n)[k]? = some p) : p.length = cs.length := (all_is h (List.mem_of_getElem? e)).1
end KM

namespace Kx
open PySem L2 MG KM
/-- for each index the numbers of payments by the coins from there on -/
def Tabs (H : Hp) (l : Addr) (cs : List Int) (m : Nat) : Prop := ∃ ps : List Addr, H l = some (.lst (ps.map V.ref)) ∧ ps.length = cs.length + 1 ∧ ∀ i p, ps[i]? = some p → H p = some (.lst ((tab (m + 1) (tw (cs.drop i))).map V.int))
theorem Tabs.same {H H' : Hp} {l : Addr} {cs : List Int} {m : Nat} (h : Tabs H l cs m) (s : Same H H') : Tabs H' l cs m := by
  obtain ⟨ps, a, b, c⟩ := h
  exact ⟨ps, s _ _ a, b, fun i p e => s _ _ (c i p e)⟩
theorem Tabs.at {H : Hp} {l : Addr} {cs : List Int} {m : Nat} (h : Tabs H l cs m) {i : Nat} (hi : i ≤ cs.length) : ∃ xs p, H l = some (.lst xs) ∧ xs[i]? = some (.ref p) ∧ H p = some (.lst ((tab (m + 1) (tw (cs.drop i))).map V.int)) := by
  obtain ⟨ps, a, b, c⟩ := h
  have hx : ps[i]? = some ps[i] := List.getElem?_eq_getElem (by omega)
  exact ⟨_, _, a, mapR_at hx, c _ _ hx⟩
def sp_tail_ways : Sp := fun vs H Q _ => ∃ (t : Addr) (cs : List Int) (m : Nat), vs = [.ref t, .int m] ∧ H t = some (.tup (cs.map V.int)) ∧ (∀ c ∈ cs, 1 ≤ c ∧ c ≤ 60) ∧ cs.length ≤ 15 ∧ m ≤ 50000 ∧
  ∀ l H', H l = none → Same H H' → Tabs H' l cs m → Q (.ref l) H'
def sp_payment_at : Sp := fun vs H Q _ => ∃ (t l : Addr) (cs : List Int) (m n k : Nat) (p : List Int), vs = [.ref t, .ref l, .int n, .int k] ∧ H t = some (.tup (cs.map V.int)) ∧ (∀ c ∈ cs, 1 ≤ c ∧ c ≤ 60) ∧ cs.length ≤ 15 ∧
  Tabs H l cs m ∧ n ≤ m ∧ m ≤ 50000 ∧ (allP cs n)[k]? = some p ∧ ∀ q H', H q = none → Same H H' → H' q = some (.tup (p.map V.int)) → Q (.ref q) H'
def sp_payments (C : Addr) : Sp := fun vs H Q _ => ∃ (p : Addr) (cs : List Int) (n : Nat), vs = [.ref p, .int n] ∧ LotAt C H p cs ∧ n ≤ 400 ∧ tw cs n ≤ 400 ∧
  ∀ t H', H t = none → Same H H' → RowsT H' t (allP cs n) → Q (.ref t) H'
def sp_l_all (d : Nat) : Sp := fun vs H Q _ => ∃ (t : Addr) (cs : List Int) (n : Nat), vs = [.ref t, .int n] ∧ H t = some (.tup (cs.map V.int)) ∧ (∀ c ∈ cs, 1 ≤ c ∧ c ≤ 60) ∧ cs ≠ [] ∧ cs.length ≤ d ∧ d ≤ 15 ∧ n ≤ 400 ∧ (allP cs n).length ≤ 400 ∧
  ∀ l H', H l = none → Same H H' → RowsL H' l (allP cs n) → Q (.ref l) H'
def sp_l_sum_with_few : Sp := fun vs H Q _ => ∃ (b t : Addr) (cs : List Int) (m : Nat), vs = [.ref b, .ref t, .int m] ∧ Bw H b ∧ H t = some (.tup (cs.map V.int)) ∧ Lotc cs ∧ 1 ≤ m ∧ m ≤ 400 ∧
  ∀ (n : Nat) H', n ≤ 400 → cnt cs n ≤ m → Bw H' b → But b H H' → Q (.int n) H'
/-- a def that draws and says True -/
def sp_drawn : Sp := fun vs H Q _ => ∃ b : Addr, vs = [.ref b] ∧ Bw H b ∧ ∀ H', Bw H' b → But b H H' → Q (.bl true) H'
theorem nb_of {H : Hp} {b t : Addr} {o : HO} (hb : Bw H b) (h : H t = some o) (n : ∀ l, o ≠ .lst l) : t ≠ b := by
  obtain ⟨x, y, z, e⟩ := hb
  exact ne_of h e (n _)
theorem nb_new {H : Hp} {b p : Addr} (hb : Bw H b) (h : H p = none) : p ≠ b := by
  obtain ⟨x, y, z, e⟩ := hb
  exact fun w => by rw [w, e] at h; cases h
end Kx
namespace Kx
open PySem L2 MG KM
theorem ref_int_ne {ps : List Addr} {ns : List Int} (h : ns ≠ []) : HO.lst (ps.map V.ref) ≠ HO.lst (ns.map V.int) := by
  intro e
  injection e with e
  match ps, ns, h, e with
  | [], _ :: _, _, e => simp at e
  | _ :: _, _ :: _, _, e => simp at e
theorem tab_ne {n : Nat} {g : Nat → Int} : tab (n + 1) g ≠ [] := by
  intro z
  have := congrArg List.length z
  rw [tab_len] at this
  simp at this
end Kx
namespace Kx
open PySem L2 MG KM
theorem cut_tail (x : V) (xs : List V) : cutV (x :: xs) (some 1) none = xs := by
  simp [cutV, HT.sIx]
theorem cut_init (xs : List V) : cutV xs none (some (-1)) = xs.dropLast := by
  unfold cutV
  rw [List.dropLast_eq_take]
  simp [HT.sIx]
  congr 1
  omega
theorem cut_to (xs : List V) {k : Nat} (h : k ≤ xs.length) : cutV xs none (some (k : Int)) = xs.take k := by
  unfold cutV
  have h0 : ¬ ((k : Int) < 0) := by omega
  simp [HT.sIx, h0, Nat.min_eq_left h]
end Kx

/-! t[::-1] of a tuple; t < u -/
namespace MG
open PySem PySem.Spec PyProof.Rows L2 HT
section
variable {prog : Program} {w : World} {A : Around} {E : Value → Shared → Prop} {s : Shared}
theorem applied_rev {sl : Addr} {vs : Value} {n : Nat} {Q : Int × Int × Nat → Shared → Prop} (hs : s.heap.IsSliceOf sl .none .none vs) (ps : IsPart vs (some (-1)))
    (h : Q ((n : Int) - 1, -1, n) s) : wpAny (model prog w) A (Builtin.Slice.sliceApplied (.ref sl) (pure (n : Int))) Q E s := by
  obtain ⟨os, hos, hcs, hds⟩ := id hs
  unfold Builtin.Slice.sliceApplied Builtin.Slice.sliceFields
  refine wpAny_bind (wpAny_bind (wpAny_field hos hds (x := .none) rfl (wpAny_bind (wpAny_field hos hds (x := .none) rfl (wpAny_bind (wpAny_field hos hds (x := vs) rfl (wpAny_pure ?_)))))))
  refine wpAny_bind (slicePart_ ps ?_)
  show wpAny _ _ (if ((-1 : Int) == 0) = true then _ else _) _ _ s
  rw [if_neg (by decide)]
  refine wpAny_bind (slicePart_none (wpAny_bind (slicePart_none (wpAny_bind (wpAny_pure ?_)))))
  have e : Builtin.Slice.sliceAdjust none none (-1) (n : Int) = ((n : Int) - 1, -1) := rfl
  show wpAny _ _ (match Builtin.Slice.sliceAdjust none none (-1) (n : Int) with | (lo, hi) => pure (lo, (-1 : Int), Builtin.Slice.slicePlaces lo hi (-1))) _ _ s
  rw [e]
  have e2 : Builtin.Slice.slicePlaces ((n : Int) - 1) (-1) (-1) = n := by
    unfold Builtin.Slice.slicePlaces
    rw [if_neg (by decide)]
    by_cases h0 : n = 0
    · subst h0; rfl
    · rw [if_pos (by omega), Int.neg_neg, Int.ediv_one]
      omega
  show wpAny _ _ (pure ((n : Int) - 1, (-1 : Int), Builtin.Slice.slicePlaces ((n : Int) - 1) (-1) (-1))) _ _ s
  rw [e2]
  exact wpAny_pure h
theorem pick_back (xs : Array Value) : ((List.range xs.size).filterMap fun (m : Nat) => xs[(((xs.size : Int) - 1) + (m : Int) * -1).toNat]?).toArray = xs.toList.reverse.toArray := by
  have e : (fun (m : Nat) => xs[(((xs.size : Int) - 1) + (m : Int) * -1).toNat]?) = fun (m : Nat) => xs.toList[((xs.size : Int) - 1 + (m : Int) * -1).toNat]? := by
    funext m
    simp
  rw [e]
  congr 1
  have p := pick_rev xs.toList
  have hb : sliceBounds none none (some (-1)) xs.toList.length = ((xs.toList.length : Int) - 1, -1, -1) := by
    unfold sliceBounds
    simp
  rw [← p]
  unfold pick
  rw [hb]
  have hr : sliceRange ((xs.toList.length : Int) - 1) (-1) (-1) = (List.range xs.size).map fun (m : Nat) => (((xs.size : Int) - 1) + (m : Int) * -1).toNat := by
    unfold sliceRange
    have h1 : ¬ ((-1 : Int) > 0) := by omega
    simp only [h1, if_false, Array.length_toList]
    by_cases h0 : xs.size = 0
    · rw [if_neg (by omega), h0]
      rfl
    · rw [if_pos (by omega)]
      have e : (((xs.size : Int) - 1 - -1 - -1 - 1) / - -1).toNat = xs.size := by
        rw [Int.neg_neg, Int.ediv_one]
        omega
      rw [e]
      apply List.map_congr_left
      intro k hk
      have := List.mem_range.mp hk
      omega
  show _ = (sliceRange ((xs.toList.length : Int) - 1) (-1) (-1)).filterMap (xs.toList[·]?)
  rw [hr, List.filterMap_map]
  rfl
theorem getItem_tuple_rev {t sl : Addr} {items : Array Value} {vs : Value} {Q : Value → Shared → Prop} (ht : IsTup s.heap t items) (hs : s.heap.IsSliceOf sl .none .none vs) (ps : IsPart vs (some (-1)))
    (h : Q (.ref s.heap.objs.size) { s with heap := s.heap.push { cls := .type "tuple", data := .seq items.toList.reverse.toArray } })
    (hsz : items.size ≤ sizeLine) : wpAny (model prog w) A (getItem (.ref t) (.ref sl)) Q E s := by
  have htake : sizeOk (.seq items.toList.reverse.toArray) := by
    show items.toList.reverse.toArray.size ≤ sizeLine
    rw [List.size_toArray, List.length_reverse, Array.length_toList]
    exact hsz
  obtain ⟨os, hos, hcs, hds⟩ := id hs
  have hTs : s.TypeIs (.ref sl) "slice" := ⟨os, hos, hcs⟩
  unfold getItem
  try with_reducible refine wpAny_holding ?_
  first | refine wpAny_bind (wpAny_pure ?_) | skip
  refine wpAny_bind (wpAny_sequenceKey ht.typeIs (by decide) ?_)
  refine wpAny_bind (wpAny_callSpecial?_slot (name := Str.ofString "__getitem__") ht.typeIs PyProof.Rows.slot_tuple_getitem
    (wpAny_call_entry PyProof.Rows.slot_tuple_getitem ht.typeIs entry_tuple_getitem ?_ (args_tuple_getitem _ _)))
  show wpAny _ _ (Builtin.Tuple.tupleItemsOf (.ref t) >>= _) _ _ s
  refine wpAny_bind (tupleItemsOf_ ht ?_)
  refine wpAny_bind (wpAny_typeOf hTs ?_)
  rw [if_pos (by decide)]
  refine wpAny_bind (applied_rev hs ps ?_)
  have hno : ¬ ((((items.size : Int) - 1 == 0) && ((-1 : Int) == 1) && (items.size == items.size)) = true) := by
    intro q
    rw [Bool.and_eq_true, Bool.and_eq_true] at q
    exact absurd q.1.2 (by decide)
  show wpAny _ _ (if (((items.size : Int) - 1 == 0) && ((-1 : Int) == 1) && (items.size == items.size)) = true then _ else _) _ _ s
  rw [if_neg hno, pick_back]
  first
    | exact wpAny_bind (m := Builtin.Tuple.tupleExact _) (wpAny_newObj_type (wpAny_pure ⟨_, rfl, wpAny_pure h⟩) htake)
    | exact wpAny_bind (m := Builtin.Tuple.tupleExact _) (wpAny_newObj_type (wpAny_bind (wpAny_pure (wpAny_pure ⟨_, rfl, wpAny_pure h⟩))) htake)
    | exact wpAny_bind (wpAny_bind (m := Builtin.Tuple.tupleExact _) (wpAny_newObj_type (wpAny_pure (wpAny_pure ⟨_, rfl, wpAny_pure h⟩)) htake))
    | exact wpAny_bind (wpAny_bind (m := Builtin.Tuple.tupleExact _) (wpAny_newObj_type (wpAny_pure ⟨_, rfl, wpAny_pure h⟩) htake))
end
/-- t[::-1] -/
def tRevT (K : PySem.W.Frag) (te : TE) (ts : TO) : TE := fun σ H Q => te σ H fun x H1 => ts σ H1 fun st H2 => ∃ a xs, x = .ref a ∧ SqT K H2 a xs ∧ st = some (-1) ∧ ∀ p, H2 p = none → Q (.ref p) (upd H2 p (.tup xs.reverse))
theorem vals_reverse {xs : List V} {its : List Value} (r : Vals xs its) : Vals xs.reverse its.reverse := by
  induction r with
  | nil => exact .nil
  | cons h r ih =>
    rw [List.reverse_cons, List.reverse_cons]
    exact ih.append (.cons h .nil)
theorem pe_revT {X : Cx} {e : Expr} {st : Option Expr} {te : TE} {ts : TO} {p2 pos : Pos} (he : PE X e te) (hs : PO X st ts)
    (hsub : ∀ v u, subscripted (.Slice none none st p2) false v u = operate [v, u] (getItem v u) := by intros; with_unfolding_all rfl) :
    PE X (.Subscript e (.Slice none none st p2) pos) (tRevT X.K te ts) := by
  refine ⟨?_⟩
  intro pins s σ H Q I h
  refine Subscript_ (thn (he.run pins s σ H _ I h) ?_)
  rintro v s1 ⟨x, H1, I1, r1, q1⟩
  refine wpAny_Slice (thn ((po_none (X := X)).run pins s1 σ H1 (fun o H2 => o = none ∧ H2 = H1) I1 ⟨rfl, rfl⟩) ?_)
  rintro vl s2 ⟨l, H2, I2, pl, rfl, rfl⟩
  refine thn ((po_none (X := X)).run pins s2 σ H2 (fun o H3 => o = none ∧ H3 = H2) I2 ⟨rfl, rfl⟩) ?_
  rintro vu s3 ⟨u, H3, I3, pu, rfl, rfl⟩
  refine thn (hs.run pins s3 σ H3 _ I3 q1) ?_
  rintro vs s4 ⟨o, H4, I4, ps, a, xs, rfl, hx, rfl, q⟩
  cases r1
  cases pl
  cases pu
  have I5 : Inv X pins σ H4 { s4 with heap := s4.heap.push { cls := .type "slice", data := .fields #[.none, .none, vs] } } := I4.kept (t' := s4.toks) fun b ob q => Heap.get?_push_of_some _ q
  obtain ⟨its, r, ht, hz⟩ := I5.tuple hx
  have hlen := r.length
  show wpAny (model X.prog X.w) X.A (subscriptTail e (.Slice none none st p2) (.ref a) (.ref s4.heap.objs.size)) (EP X pins σ Q) X.xe { s4 with heap := s4.heap.push { cls := .type "slice", data := .fields #[.none, .none, vs] } }
  refine tail_any (ops := [.ref a, .ref s4.heap.objs.size]) ht.typeIs (PyProof.Rows.slot_tuple_getitem.lookup) ?_ (hsub _ _)
  refine getItem_tuple_rev ht (Heap.IsSliceOf.new _ .none .none vs) ps ?_ (by rw [List.size_toArray]; omega)
  refine ⟨.ref _, _, I5.laid (t' := s4.toks) (o := .tup xs.reverse) (fun b ob q => Heap.get?_push_of_some _ q) (Nat.le_refl _) ?_, rfl, q _ (I5.hok.fresh (Nat.le_refl _))⟩
  refine ⟨by rw [List.length_reverse]; omega, its.reverse, vals_reverse r, ?_⟩
  have e : (its.toArray.toList.reverse).toArray = its.reverse.toArray := by simp
  rw [← e]
  exact IsTup.new _ _
/-- t < u, tuples of ints -/
def lxI : List Int → List Int → Bool
  | a :: p, b :: q => a < b || (a == b && lxI p q)
  | [], _ :: _ => true
  | _, [] => false
def rLtU (K : PySem.W.Frag) : R2 := fun x y H Q => ∃ (a b : Addr) (ns ms : List Int), x = .ref a ∧ y = .ref b ∧ SqT K H a (ns.map V.int) ∧ SqT K H b (ms.map V.int) ∧ Q (.bl (lxI ns ms)) H
theorem lex_lx (ns ms : List Int) : ∀ (d i : Nat), i ≤ min ns.length ms.length → min ns.length ms.length - i = d →
    Ob.lexAt (fun j => decide (ns.getD j 0 = ms.getD j 0)) (fun j => decide (ns.getD j 0 < ms.getD j 0)) (decide (ns.length < ms.length)) i d = lxI (ns.drop i) (ms.drop i) := by
  intro d
  induction d with
  | zero =>
    intro i hi e
    rw [Ob.lexAt_zero]
    rcases Nat.lt_or_ge i ms.length with h | h
    · have hn : ns.length ≤ i := by omega
      rw [List.drop_eq_nil_of_le hn, List.drop_eq_getElem_cons h]
      simp [lxI]
      omega
    · rw [List.drop_eq_nil_of_le h]
      have : lxI (ns.drop i) [] = false := by cases ns.drop i <;> rfl
      rw [this]
      simp
      omega
  | succ d ih =>
    intro i hi e
    rw [Ob.lexAt_succ, ih (i + 1) (by omega) (by omega)]
    have h1 : i < ns.length := by omega
    have h2 : i < ms.length := by omega
    rw [List.drop_eq_getElem_cons h1, List.drop_eq_getElem_cons h2]
    have e1 : ns.getD i 0 = ns[i] := by simp [h1]
    have e2 : ms.getD i 0 = ms[i] := by simp [h2]
    rw [e1, e2]
    by_cases q : ns[i] = ms[i]
    · simp [lxI, q]
    · simp [lxI, q]
theorem op_ltU {X : Cx} (hu : X.A.units < cLine) : OpR X (compareOp .Lt) (rLtU X.K) := by
  intro pins s σ H x y v u Q I rx ry h
  obtain ⟨a, b, ns, ms, rfl, rfl, ha, hb, q⟩ := h
  cases rx
  cases ry
  obtain ⟨its, r1, p1, _⟩ := I.tuple ha
  obtain ⟨its2, r2, p2, _⟩ := I.tuple hb
  have i1 : IntsAre its ns := Vals.ints r1
  have i2 : IntsAre its2 ms := Vals.ints r2
  have e1 : its.toArray.size = ns.length := by rw [List.size_toArray]; exact i1.length
  have e2 : its2.toArray.size = ms.length := by rw [List.size_toArray]; exact i2.length
  have at1 : ∀ j (h1 : j < its.toArray.size), ∃ t, its.toArray[j] = .int (ns.getD j 0) t := fun j h1 => PyProof.Rows.IntsAre.int_at i1 _ _ (by simp at h1; simp [h1])
  have at2 : ∀ j (h1 : j < its2.toArray.size), ∃ t, its2.toArray[j] = .int (ms.getD j 0) t := fun j h1 => PyProof.Rows.IntsAre.int_at i2 _ _ (by simp at h1; simp [h1])
  have R := Ob.RcOp.tuples_lt (A := X.A) (s := s) (e := fun j => decide (ns.getD j 0 = ms.getD j 0)) (r := fun j => decide (ns.getD j 0 < ms.getD j 0)) p1 p2 hu (fun j h1 h2 => by
    obtain ⟨t, et⟩ := at1 j h1
    obtain ⟨t', et'⟩ := at2 j h2
    rw [et, et']
    have z : (ns.getD j 0 == ms.getD j 0) = decide (ns.getD j 0 = ms.getD j 0) := by
      by_cases q : ns.getD j 0 = ms.getD j 0
      · rw [decide_eq_true q]; exact beq_iff_eq.mpr q
      · rw [decide_eq_false q]; exact beq_eq_false_iff_ne.mpr q
    rw [← z]
    exact SeqAt.EqAt.int_int _ _ _ _) (fun j h1 h2 _ => by
    obtain ⟨t, et⟩ := at1 j h1
    obtain ⟨t', et'⟩ := at2 j h2
    rw [et, et']
    exact Ob.RcOp.lt_int _ _ _ _)
  rw [e1, e2] at R
  have z0 := lex_lx ns ms (min ns.length ms.length) 0 (Nat.zero_le _) (Nat.sub_zero _)
  rw [List.drop_zero, List.drop_zero] at z0
  rw [z0] at R
  exact R X.prog X.w X.xe (EP X pins σ Q) ⟨.bl _, H, I, rfl, q⟩
end MG
namespace MG
open PySem PySem.Spec PyProof.Rows L2
/-- a comprehension over zip of two tuples of one length -/
theorem lc_zipT {K : PySem.W.Frag} {a b : Addr} {xs ys : List V} {g : TG} {tt : TT} {te : TE} {vs : List Nat} {σ : L2.St} {H1 : Hp} {D : Addr} {Qd : Hp → Prop} (hl : xs.length = ys.length) (Pv : Nat → Hp → Prop) (h0 : Pv 0 (upd H1 D (.lst [])))
    (hq : ∀ i H, Pv i H → SqT K H a xs ∧ SqT K H b ys)
    (hs : ∀ i x y T H, xs[i]? = some x → ys[i]? = some y → Pv i H → H T = none → g (.ref T) (wipe σ vs) (upd H T (.tup [x, y])) fun σ2 H2 => wipe σ2 vs = wipe σ vs ∧ tt σ2 H2 fun b H3 =>
      if b = true then te σ2 H3 fun z H4 => ∃ acc, H4 D = some (.lst acc) ∧ acc.length < sizeLine ∧ Pv (i + 1) (upd H4 D (.lst (acc ++ [z]))) else Pv (i + 1) H3) (hd : ∀ H, Pv xs.length H → Qd H) :
    ∃ W : Nat → Nat → Hp → Prop, (∃ m, W 0 m (upd H1 D (.lst []))) ∧ ∀ i m H, W i m H →
      ((RZ.ItzT K a b).stop i H ∧ Qd H) ∨ ((RZ.ItzT K a b).go i H ∧ ∃ Nx : Hp → Prop, (∀ H', Nx H' → ∃ m', m' < m ∧ W (i + 1) m' H') ∧ ∀ x H', (RZ.ItzT K a b).yld i H x H' → g x (wipe σ vs) H' fun σ2 H2 => wipe σ2 vs = wipe σ vs ∧ tt σ2 H2 fun b H3 =>
        if b = true then te σ2 H3 fun y H4 => ∃ acc, H4 D = some (.lst acc) ∧ acc.length < sizeLine ∧ Nx (upd H4 D (.lst (acc ++ [y]))) else Nx H3) := by
  refine ⟨fun i m H => m = xs.length - i ∧ i ≤ xs.length ∧ Pv i H, ⟨xs.length, by simp, Nat.zero_le _, h0⟩, ?_⟩
  rintro i m H ⟨rfl, hi, p⟩
  obtain ⟨q1, q2⟩ := hq i H p
  by_cases hlt : i < xs.length
  · have e1 : xs[i]? = some xs[i] := List.getElem?_eq_getElem hlt
    have e2 : ys[i]? = some (ys[i]'(hl ▸ hlt)) := List.getElem?_eq_getElem (hl ▸ hlt)
    refine .inr ⟨⟨xs, ys, _, _, q1, q2, e1, e2⟩, Pv (i + 1), fun H' p' => ⟨xs.length - (i + 1), by omega, rfl, hlt, p'⟩, fun x H' z => ?_⟩
    obtain ⟨T, u, v, rfl, hT, rfl, f1, f2⟩ := z
    exact hs i u v T H (f1 xs q1) (f2 ys q2) p hT
  · have e : i = xs.length := by omega
    subst e
    exact .inl ⟨⟨xs, ys, q1, q2, .inl (Nat.le_refl _)⟩, hd H p⟩
/-- isinstance of an int, a built-in class -/
def rIsiI : List V → Hp → VK → Prop := fun xs H Q => ∃ (i : Int) (n : String) (b : Bool), xs = [.int i, .ty n] ∧ kitB "int" n = some b ∧ Q (.bl b) H
theorem isi_I {X : Cx} : CallR X (.builtin "isinstance") rIsiI := by
  intro pins s σ H xs us Q I r h
  obtain ⟨i, n, b, h1, h2, q⟩ := h
  exact call_isi pins s σ H xs us Q I r ⟨_, _, .type "int", .type n, b, h1, .ty _, .base (.int i), kit_ty h2, q⟩
end MG
namespace MG
open PySem PySem.Spec PyProof.Rows L2
/-- divmod by a positive divisor of at most sixty digits -/
theorem divmod_B {X : Cx} : CallR X (.builtin "divmod") (fun xs H Q => ∃ i j, xs = [.int i, .int j] ∧ (0 < j ∧ j < 1000000000000000000000000000000000000000000000000000000000000) ∧ ∀ p, H p = none → Q (.ref p) (upd H p (.tup [.int (i / j), .int (i % j)]))) := by
  intro pins s σ H xs us Q I r h
  obtain ⟨i, j, h1, ⟨h2, h3⟩, q⟩ := h
  refine call_divmodW pins s σ H xs us Q I r ⟨i, j, h1, ⟨h2, PyProof.noPylong_of_log2 ?_⟩, q⟩
  have : j.natAbs < 2 ^ 200 := by
    have e : (1000000000000000000000000000000000000000000000000000000000000 : Nat) < 2 ^ 200 := by decide +kernel
    omega
  exact Nat.lt_of_lt_of_le (PySem.Flt.log2_lt_of (by decide) this) (by decide)
end MG

namespace Kx
open PySem L2 MG KM
def Pay (cs p : List Int) : Prop := p.length = cs.length ∧ ∀ m ∈ p, 0 ≤ m
def sp_count_told : Sp := fun vs H Q _ => ∃ (t : Addr) (p : List Int), vs = [.ref t, .int p.length] ∧ H t = some (.tup (p.map V.int)) ∧ p.length ≤ 15 ∧ (∀ m ∈ p, 0 ≤ m) ∧ ∀ H', Same H H' → Q (.int p.length) H'
def sp_check_payment : Sp := fun vs H Q _ => ∃ (t : Addr) (p : List Int), vs = [.ref t, .int p.length] ∧ H t = some (.tup (p.map V.int)) ∧ p.length ≤ 15 ∧ (∀ m ∈ p, 0 ≤ m) ∧ ∀ H', Same H H' → Q .non H'
def sp_sum_paid (C : Addr) : Sp := fun vs H Q _ => ∃ (l t : Addr) (cs p : List Int), vs = [.ref l, .ref t] ∧ LotAt C H l cs ∧ H t = some (.tup (p.map V.int)) ∧ p.length = cs.length ∧ ∀ H', Same H H' → Q (.int (wrt cs p)) H'
def sp_nth_payment (C : Addr) : Sp := fun vs H Q _ => ∃ (l : Addr) (cs : List Int) (n k : Nat) (p : List Int), vs = [.ref l, .int n, .int k] ∧ LotAt C H l cs ∧ n ≤ 400 ∧ (allP cs n)[k]? = some p ∧
  ∀ q H', H q = none → Same H H' → H' q = some (.tup (p.map V.int)) → Q (.ref q) H'
def sp_place_of (C : Addr) : Sp := fun vs H Q _ => ∃ (l t : Addr) (cs p : List Int) (n : Nat), vs = [.ref l, .ref t] ∧ LotAt C H l cs ∧ H t = some (.tup (p.map V.int)) ∧ Pay cs p ∧ wrt cs p = n ∧ n ≤ 400 ∧ ∀ H', Same H H' → Q (.int (rk cs p n)) H'
def sp_l_worth : Sp := fun vs H Q _ => ∃ (a t : Addr) (cs p : List Int), vs = [.ref a, .ref t] ∧ H a = some (.tup (cs.map V.int)) ∧ H t = some (.tup (p.map V.int)) ∧ (∀ c ∈ cs, 1 ≤ c ∧ c ≤ 60) ∧ cs.length ≤ 15 ∧ p.length = cs.length ∧ ∀ H', Same H H' → Q (.int (wrt cs p)) H'
def TabsF (H0 H : Hp) (l : Addr) (cs : List Int) (m : Nat) : Prop := ∃ ps : List Addr, H l = some (.lst (ps.map V.ref)) ∧ ps.length = cs.length + 1 ∧ ∀ (i : Nat) (p : Addr), ps[i]? = some p → H0 p = none ∧ H p = some (.lst ((tab (m + 1) (tw (cs.drop i))).map V.int))
theorem TabsF.tabs {H0 H : Hp} {l : Addr} {cs : List Int} {m : Nat} (h : TabsF H0 H l cs m) : Tabs H l cs m := let ⟨ps, a, b, c⟩ := h; ⟨ps, a, b, fun i p e => (c i p e).2⟩
def sp_l_tails : Sp := fun vs H Q _ => ∃ (t : Addr) (cs : List Int) (m : Nat), vs = [.ref t, .int m] ∧ H t = some (.tup (cs.map V.int)) ∧ (∀ c ∈ cs, 1 ≤ c ∧ c ≤ 60) ∧ cs.length ≤ 15 ∧ m ≤ 1000 ∧
  ∀ l H', H l = none → Same H H' → TabsF H H' l cs m → Q (.ref l) H'
def sp_l_ahead : Sp := fun vs H Q _ => ∃ (t l u : Addr) (cs p : List Int) (m n : Nat), vs = [.ref t, .ref l, .ref u] ∧ H t = some (.tup (cs.map V.int)) ∧ (∀ c ∈ cs, 1 ≤ c ∧ c ≤ 60) ∧ cs.length ≤ 15 ∧ Tabs H l cs m ∧ m ≤ 1000 ∧ H u = some (.tup (p.map V.int)) ∧ Pay cs p ∧ wrt cs p = n ∧ n ≤ m ∧
  ∀ H', Same H H' → Q (.int (rk cs p n)) H'
def sp_l_is_payment : Sp := fun vs H Q _ => ∃ (a t : Addr) (cs p : List Int), vs = [.ref a, .ref t] ∧ H a = some (.tup (cs.map V.int)) ∧ H t = some (.tup (p.map V.int)) ∧ cs.length ≤ 15 ∧ Pay cs p ∧ ∀ H', Same H H' → Q (.bl true) H'
def sp_l_some_payment : Sp := fun vs H Q _ => ∃ (b t : Addr) (cs : List Int), vs = [.ref b, .ref t] ∧ Bw H b ∧ H t = some (.tup (cs.map V.int)) ∧ Lotc cs ∧
  ∀ q (p : List Int) (n : Nat) H', H q = none → Pay cs p → wrt cs p = n → n ≤ 400 → H' q = some (.tup (p.map V.int)) → Bw H' b → But b H H' → Q (.ref q) H'
theorem pay_le : ∀ {cs p : List Int}, (∀ c ∈ cs, 1 ≤ c) → (∀ m ∈ p, 0 ≤ m) → p.length = cs.length → ∀ m ∈ p, m ≤ wrt cs p
  | [], [], _, _, _, m, hm => by cases hm
  | c :: cs, x :: p, hc, hp, hl, m, hm => by
    have h1 := wrt_nn cs p (fun d hd => hc d (by simp [hd])) (fun y hy => hp y (by simp [hy]))
    have hx := hp x (by simp)
    have hc1 := hc c (by simp)
    have e : wrt (c :: cs) (x :: p) = c * x + wrt cs p := rfl
    have hcx : x ≤ c * x := by
      have := Int.mul_le_mul_of_nonneg_right hc1 hx
      omega
    rw [e]
    rcases List.mem_cons.mp hm with rfl | hm
    · omega
    · have := pay_le (fun d hd => hc d (List.mem_cons_of_mem _ hd)) (fun y hy => hp y (List.mem_cons_of_mem _ hy)) (by simpa using hl) m hm
      have : 0 ≤ c * x := Int.mul_nonneg (by omega) hx
      omega
  | [], _ :: _, _, _, h, _, _ => by simp at h
  | _ :: _, [], _, _, h, _, _ => by simp at h
theorem wrt_drop {cs p : List Int} {i : Nat} {c m : Int} (hc : cs[i]? = some c) (hm : p[i]? = some m) : wrt (cs.drop i) (p.drop i) = c * m + wrt (cs.drop (i + 1)) (p.drop (i + 1)) := by
  rw [drop_cons hc, drop_cons hm]
  rfl
theorem rk_drop {cs p : List Int} {i n : Nat} {c m : Int} (hc : cs[i]? = some c) (hm : p[i]? = some m) : rk (cs.drop i) (p.drop i) n = ((List.range m.toNat).map fun j => (allP (cs.drop (i + 1)) (n - j * c.toNat)).length).sum + rk (cs.drop (i + 1)) (p.drop (i + 1)) (n - m.toNat * c.toNat) := by
  rw [drop_cons hc, drop_cons hm]
  rfl
end Kx
namespace Kx
open PySem L2 MG KM
theorem zip_wrt : ∀ (cs p : List Int), (List.zipWith (· * ·) cs p).sum = wrt cs p
  | [], _ => rfl
  | _ :: _, [] => rfl
  | c :: cs, m :: p => by
    show c * m + (List.zipWith (· * ·) cs p).sum = c * m + wrt cs p
    rw [zip_wrt cs p]
theorem take_zip {cs p : List Int} {i : Nat} {c m : Int} (hc : cs[i]? = some c) (hm : p[i]? = some m) : (List.zipWith (· * ·) cs p).take (i + 1) = (List.zipWith (· * ·) cs p).take i ++ [c * m] := by
  have e : (List.zipWith (· * ·) cs p)[i]? = some (c * m) := by
    rw [List.getElem?_zipWith, hc, hm]
  rw [List.take_add_one, e]
  rfl
theorem sum_range_succ (g : Nat → Nat) (j : Nat) : ((List.range (j + 1)).map g).sum = ((List.range j).map g).sum + g j := by
  rw [List.range_succ, List.map_append, List.sum_append]
  simp
end Kx
namespace Kx
open PySem L2 MG KM
theorem sum_cast (g : Nat → Nat) : ∀ l : List Nat, (l.map fun x => ((g x : Nat) : Int)).sum = (((l.map g).sum : Nat) : Int)
  | [] => rfl
  | a :: l => by
    rw [List.map_cons, List.map_cons, List.sum_cons, List.sum_cons, sum_cast g l]
    simp
end Kx
namespace Kx
open PySem L2 MG KM
theorem lx_irr : ∀ p : List Int, lx p p = false
  | [] => rfl
  | a :: p => by simp [lx, lx_irr p]
theorem lx_asym : ∀ (p q : List Int), lx p q = true → lx q p = false
  | [], [], h => by simp [lx] at h
  | [], _ :: _, _ => rfl
  | _ :: _, [], h => by simp [lx] at h
  | a :: p, b :: q, h => by
    simp only [lx, Bool.or_eq_true, Bool.and_eq_true, decide_eq_true_eq, beq_iff_eq] at h
    simp only [lx, Bool.or_eq_false_iff, Bool.and_eq_false_iff, decide_eq_false_iff_not, beq_eq_false_iff_ne]
    rcases h with h | ⟨h1, h2⟩
    · exact ⟨by omega, .inl (by omega)⟩
    · exact ⟨by omega, .inr (lx_asym p q h2)⟩
theorem lxI_lx : ∀ (p q : List Int), lxI p q = lx p q
  | [], [] => rfl
  | [], _ :: _ => rfl
  | _ :: _, [] => rfl
  | a :: p, b :: q => by simp [lx, lxI, lxI_lx p q]
theorem lx_place {cs : List Int} (h1 : ∀ d ∈ cs, 1 ≤ d) {n k j : Nat} {p q : List Int} (hp : (allP cs n)[k]? = some p) (hq : (allP cs n)[j]? = some q) : lx p q = decide (k < j) := by
  have ha := List.pairwise_iff_getElem.mp (all_asc h1 n)
  obtain ⟨hk, ek⟩ := List.getElem?_eq_some_iff.mp hp
  obtain ⟨hj, ej⟩ := List.getElem?_eq_some_iff.mp hq
  rcases Nat.lt_trichotomy k j with h | h | h
  · have := ha k j hk hj h
    rw [ek, ej] at this
    rw [this, decide_eq_true h]
  · subst h
    have : p = q := ek.symm.trans ej
    subst this
    rw [lx_irr, decide_eq_false (by omega)]
  · have := ha j k hj hk h
    rw [ek, ej] at this
    rw [lx_asym _ _ this, decide_eq_false (by omega)]
theorem rk_of {cs : List Int} (h1 : ∀ d ∈ cs, 1 ≤ d) {n k : Nat} {p : List Int} (hp : (allP cs n)[k]? = some p) : rk cs p n = k := by
  obtain ⟨i1, i2, i3⟩ := all_is h1 (List.mem_of_getElem? hp)
  have hr := rk_at h1 i1 i2 i3
  have e1 := lx_place h1 hp hr
  have e2 := lx_place h1 hr hp
  rw [lx_irr] at e1 e2
  have := of_decide_eq_false e1.symm
  have := of_decide_eq_false e2.symm
  omega
end Kx
namespace Kx
open PySem L2 MG KM
theorem cnt_lt {cs : List Int} (h1 : ∀ d ∈ cs, 1 ≤ d) (hl : cs.length ≤ 15) {n : Nat} (hn : n ≤ 400) : cnt cs n < 1000000000000000000000000000000000000000000000000000000000000 := by
  have h := cnt_bound (N := 400) cs w0 1 h1 (by decide) (fun n _ => by unfold w0; split <;> decide) n hn
  have h2 : cnt cs n ≤ 1 * ((400 : Nat) + 1 : Int) ^ cs.length := h.2
  have h3 : ((400 : Nat) + 1 : Int) ^ cs.length ≤ ((401 : Nat) : Int) ^ 15 := by
    have : (401 : Nat) ^ cs.length ≤ 401 ^ 15 := Nat.pow_le_pow_right (by decide) hl
    exact_mod_cast this
  have h4 : (401 : Nat) ^ 15 < 1000000000000000000000000000000000000000000000000000000000000 := by decide +kernel
  have h5 : ((401 : Nat) : Int) ^ 15 = ((401 ^ 15 : Nat) : Int) := by exact_mod_cast rfl
  rw [h5] at h3
  omega
end Kx

/-! == by an own __eq__, whatever it answers -/
namespace MG
open PySem PySem.Spec PyProof.Rows L2
section
variable {X : Cx}
/-- x == y, both instances of the class at C whose __eq__ keeps sp -/
def rEqO (C : Addr) (sp : Sp) : R2 := fun x y H Q => ∃ a b dx dy fs gs, x = .ref a ∧ y = .ref b ∧ H a = some (.ins C dx fs) ∧ H b = some (.ins C dy gs) ∧ sp [.ref a, .ref b] H Q E0
theorem op_eqO {C f : Addr} {fd : FuncData} {ps : List Str} {sp : Sp} {k n : Nat} (F : FnOk X.prog X.w X.K X.mg X.base CX0 k f fd ps sp)
    (hs : PySem.W.findIn X.K (.ref C) "__eq__" = some (some (.ref f))) (hf : PySem.W.isFn X.K (.ref f) = true) (hb : Binds X.K fd ps []) (rm : Room n X.A) (hk : k ≤ n) : OpR X (compareOp .Eq) (rEqO C sp) := by
  intro pins s σ H x y v u Q I rx ry h
  obtain ⟨a, b, dx, dy, fs, gs, rfl, rfl, ha, hb', hsp⟩ := h
  cases rx
  cases ry
  show wpAny (model X.prog X.w) X.A (richCompare .Eq (.ref a) (.ref b)) (EP X pins σ Q) X.xe s
  obtain ⟨mA, J, _⟩ := ins_get I.hok ha
  obtain ⟨mB, J', _⟩ := ins_get I.hok hb'
  obtain ⟨od, J, _⟩ := J.look
  obtain ⟨od', J', _⟩ := J'.look
  obtain ⟨m, hF⟩ := I.fr
  refine PySem.W.cmp_K (op := .Eq) (tb := .ref C) rm.units0 hF I.ok.mod.kin J J'.type (by simp [PySem.W.notFirst]) hs hf ?_
  have r2 : Vals [V.ref a, V.ref b] [Value.ref a, Value.ref b] := .cons rfl (.cons rfl .nil)
  refine wpAny_mono (run_fn (dvs := []) (ds := []) (E := E0) F (rm.mono hk) hb .nil pass0 I r2 (by simpa using hsp)) ?_ (fun _ _ z => z)
  intro r s' z
  obtain ⟨v, H', I', rv, q⟩ := id z
  cases v with
  | non => cases (show r = Value.none from rv); exact z
  | bl b => cases (show r = Value.bool b from rv); exact z
  | int i => obtain ⟨t, rfl⟩ := (show ∃ t, r = Value.int i t from rv); exact z
  | str i => obtain ⟨t, rfl⟩ := (show ∃ t, r = Value.str i t from rv); exact z
  | byt i => obtain ⟨t, rfl⟩ := (show ∃ t, r = Value.bytes i t from rv); exact z
  | flt i => obtain ⟨t, rfl⟩ := (show ∃ t, r = Value.float i t from rv); exact z
  | ref c => cases (show r = Value.ref c from rv); exact z
  | ty n => cases (show r = Value.type n from rv); exact z
end
end MG

/-! str(x) by an own __str__ -/
namespace MG
open PySem PySem.Spec PyProof.Rows L2
section
variable {X : Cx}
def rStrO (C : Addr) (sp : Sp) : List V → Hp → VK → Prop := fun vs H Q => ∃ a dx fs, vs = [.ref a] ∧ H a = some (.ins C dx fs) ∧ sp [.ref a] H (fun v H' => (∃ t, v = .str t) ∧ Q v H') E0
theorem str_O {C f : Addr} {fd : FuncData} {ps : List Str} {sp : Sp} {k n : Nat} (F : FnOk X.prog X.w X.K X.mg X.base CX0 k f fd ps sp)
    (hs : PySem.W.findIn X.K (.ref C) "__str__" = some (some (.ref f))) (hf : PySem.W.isFn X.K (.ref f) = true) (hb : Binds X.K fd ps []) (rm : Room n X.A) (hk : k + 3 ≤ n) : CallR X (.type "str") (rStrO C sp) := by
  intro pins s σ H vs us Q I r h
  obtain ⟨a, dx, fs, rfl, ha, hsp⟩ := h
  obtain ⟨u, rfl, rx⟩ := vals1 r
  cases (show u = Value.ref a from rx)
  obtain ⟨mA, J, _⟩ := ins_get I.hok ha
  obtain ⟨od, J, _⟩ := J.look
  have r3 : Room k X.A.in1.in1 := (rm.mono (show k + 2 ≤ n by omega)).in1.in1
  have r2 : Vals [V.ref a] [Value.ref a] := .cons rfl .nil
  have hl := F.len _ _ _ _ hsp
  refine PySem.W.kso_call ((rm.mono (show 2 ≤ n by omega)).in1.in1).units0 I.kIn J hs hf ?_
  have e0 := I.env0.in1.in1
  refine wpAny_call (codeAny_mono (F.run X.A.in1.in1 X.stack s H ⟨[.ref a], []⟩ [.ref a] [.ref a] _ E0 r3 e0 (by
    have z := hb s [.ref a] I.kIn (by simpa using hl)
    simpa using z) r2 hsp) ?_)
  intro res s' hq
  match res, hq with
  | .error er, hq => exact hq.elim
  | .ok .next, hq => exact hq.elim
  | .ok .brk, hq => exact hq.elim
  | .ok .cont, hq => exact hq.elim
  | .ok (.ret u), hq =>
    obtain ⟨z, H', I', rz, ⟨t, rfl⟩, q⟩ := I.after hq
    obtain ⟨tk, rfl⟩ := (show ∃ tk, u = Value.str t tk from rz)
    exact ⟨.str t, H', I', ⟨_, rfl⟩, q⟩
end
end MG

/-! min of a tuple; walks of lists or tuples; data compared -/
namespace MG
open PySem PySem.Spec PyProof.Rows L2
section
variable {prog : Program} {w : World} {A : Around} {E : Value → Shared → Prop} {s : Shared} {l : Addr} {xs : Array (Int × Tok)}
theorem min_intTup {Q : Value → Shared → Prop} (hh : A.handled = none) (hl : s.heap.IsTuple l (intItems xs)) (hne : 0 < xs.size)
    (h : ∀ v h' tk, (intItems xs)[argBest (fun i j => decide (numAt xs i < numAt xs j)) (xs.size - 1)]? = some v → (∀ b o, s.heap.get? b = some o → h'.get? b = some o) → Q v { s with heap := h', toks := tk }) :
    wpAny (model prog w) A (call (.builtin "min") [.ref l]) Q E s := by
  have hlt : l < s.heap.objs.size := by obtain ⟨_, e, _⟩ := hl; exact Heap.lt_size e
  refine call_min_walk (wpAny_pyIter_tuple hl ?_)
  have st : Heap.IsTupleIter (s.heap.push { cls := .type "tuple_iterator", data := .fields #[.ref l, .int 0 0] }) s.heap.objs.size l 0 := ⟨_, Heap.get?_push_size _ rfl, rfl, rfl⟩
  have tp : Heap.IsTuple (s.heap.push { cls := .type "tuple_iterator", data := .fields #[.ref l, .int 0 0] }) l (intItems xs) := by
    obtain ⟨o, e, r⟩ := hl
    exact ⟨o, Heap.get?_push_of_some _ e, r⟩
  refine ⟨_, _, _, _, _, _, _, rfl, Walks.tuple (A := A.in1) hh _ l (Nat.ne_of_lt hlt) (intItems xs), ⟨st, tp⟩, fun b hb => ?_, by simpa [intItems] using hne, CmpOf.ints_lt (numAt xs) (fun _ _ => intItems_at), fun v h' tk hP hk => ?_⟩
  · show b < (s.heap.push _).objs.size
    rw [Heap.size_push]
    rcases List.mem_cons.mp hb with rfl | hb
    · exact Nat.lt_succ_self _
    · rcases List.mem_cons.mp hb with rfl | hb
      · exact Nat.lt_succ_of_lt hlt
      · cases hb
  · refine h v h' tk (by simpa [intItems] using hP) fun b o e => hk b o (fun hm => ?_) (Heap.get?_push_of_some _ e)
    rcases List.mem_cons.mp hm with e1 | hm
    · exact absurd (e1 ▸ Heap.lt_size e) (Nat.lt_irrefl _)
    · cases hm
theorem min_rawT {its : List Value} {ns : List Int} {Q : Value → Shared → Prop} (hh : A.handled = none) (hl : s.heap.IsTuple l its.toArray) (hi : IntsAre its ns) (hne : 0 < ns.length)
    (h : ∀ h' tk M t', (∀ b o, s.heap.get? b = some o → h'.get? b = some o) → M ∈ ns → (∀ a, a ∈ ns → M ≤ a) → Q (.int M t') { s with heap := h', toks := tk }) : wpAny (model prog w) A (call (.builtin "min") [.ref l]) Q E s := by
  obtain ⟨xs, e⟩ := hi.allInts.items
  have hn : numsOf (intItems xs).toList = ns := by rw [← e]; exact hi.numsOf
  rw [nums_intItems] at hn
  subst hn
  rw [e] at hl
  refine min_intTup hh hl (by simpa using hne) fun v h' tk hv hk => ?_
  obtain ⟨t, rfl⟩ := intItems_at hv
  obtain ⟨h1, h2⟩ := argBest_lt (numAt xs) (xs.size - 1)
  have hsz : 0 < xs.size := by simpa using hne
  refine h h' tk _ t hk ?_ fun a ha => ?_
  · rw [numAt_eq]; exact PySem.getD_mem (by rw [List.length_map, Array.length_toList]; omega)
  · obtain ⟨j, hj, rfl⟩ := mem_getD ha
    rw [List.length_map, Array.length_toList] at hj
    rw [← numAt_eq]; exact h2 j (by omega)
end
section
variable {X : Cx}
/-- min of a tuple of ints -/
def rMinT (K : PySem.W.Frag) : List V → Hp → VK → Prop := fun vs H Q => ∃ (a : Addr) (ns : List Int), vs = [V.ref a] ∧ SqT K H a (ns.map V.int) ∧ 0 < ns.length ∧ ∀ m, m ∈ ns → (∀ y, y ∈ ns → m ≤ y) → Q (.int m) H
theorem min_T (hc : X.calm = true) : CallR X (.builtin "min") (rMinT X.K) := by
  intro pins s σ H vs us Q I r h
  obtain ⟨a, ns, rfl, hs, hne, q⟩ := h
  obtain ⟨its, rv, hl, _⟩ := I.tuple hs
  rw [Vals.ref1 r]
  exact min_rawT (I.ok.hd hc) hl rv.ints hne fun h' tk m t' hk h1 h2 => ⟨.int _, H, I.kept hk, ⟨_, rfl⟩, q m h1 h2⟩
/-- a walk over a list or a tuple -/
def iAnyS (K : PySem.W.Frag) (tl : TE) : TI := fun σ H R => tl σ H fun x H1 => ∃ a, x = .ref a ∧ (((∃ xs, SqL K H1 a xs) ∧ R (Itl K a) H1) ∨ ((∃ xs, SqT K H1 a xs) ∧ R (Itt K a) H1))
theorem pi_anyS {tg l : Expr} {tl : TE} (hl : PE X l tl) : PI X tg l (iAnyS X.K tl) := by
  refine ⟨fun pins s σ H R I h => ?_⟩
  refine thn (hl.run pins s σ H _ I h) fun v s1 ⟨x, H1, I1, r1, q1⟩ => ?_
  obtain ⟨a, e, q⟩ := q1
  subst e
  cases r1
  rcases q with ⟨⟨xs, hq⟩, q⟩ | ⟨⟨xs, hq⟩, q⟩
  · obtain ⟨its, rv, p, hz⟩ := I1.list hq
    refine wpAny_pyIter_list p.isList ?_
    refine ⟨s1.heap.objs.size, [s1.heap.objs.size], _, _, H1, rfl, I1.kept (t' := s1.toks) fun b o e => Heap.get?_push_of_some _ e, turn_list a _, ⟨_, Heap.get?_push_size _ rfl, rfl, rfl⟩, fun b hb => ?_, q⟩
    obtain rfl : b = s1.heap.objs.size := by simpa using hb
    exact I1.fpOk (Nat.le_refl _) (I1.hok.fresh (Nat.le_refl _))
  · obtain ⟨its, rv, p, hz⟩ := I1.tuple hq
    refine wpAny_pyIter_tuple (show s1.heap.IsTuple a its.toArray from p) ?_
    refine ⟨s1.heap.objs.size, [s1.heap.objs.size], _, _, H1, rfl, I1.kept (t' := s1.toks) fun b o e => Heap.get?_push_of_some _ e, turn_tuple a _, ⟨_, Heap.get?_push_size _ rfl, rfl, rfl⟩, fun b hb => ?_, q⟩
    obtain rfl : b = s1.heap.objs.size := by simpa using hb
    exact I1.fpOk (Nat.le_refl _) (I1.hok.fresh (Nat.le_refl _))
end
/-- an int, new things beside it -/
def rIntS : L2.St → Hp → V → Hp → Prop := fun _ H v H' => (∃ i : Int, v = .int i) ∧ Same H H'
/-- rows of ints, compared -/
theorem eqv_ints : ∀ (cs ds : List Int), PyData.eqvAll (cs.map PyData.int) (ds.map PyData.int) = decide (cs = ds)
  | [], [] => by simp [PyData.eqvAll]
  | [], _ :: _ => by simp [PyData.eqvAll]
  | _ :: _, [] => by simp [PyData.eqvAll]
  | c :: cs, d :: ds => by
    have ih := eqv_ints cs ds
    simp only [List.map_cons, PyData.eqvAll, ih]
    by_cases h : c = d
    · subst h
      simp [PyData.eqv]
    · simp [PyData.eqv, h]
theorem eqv_tup (cs ds : List Int) : (PyData.tuple (cs.map .int)).eqv (.tuple (ds.map .int)) = decide (cs = ds) := by
  rw [PyData.eqv]
  exact eqv_ints cs ds
theorem shw_str {x : Str} {n : Nat} (hx : ∀ c ∈ x.cps.toList, c < 16 ^ 8) (h : x.length ≤ n) : Shw (10 * n + 2) 0 (.str x) := by
  refine ⟨rfl, rfl, Nat.le_refl _, ?_⟩
  have := StrLaws.reprText_len x hx
  show (reprText x).length ≤ _
  omega
/-! bools in a row -/
def tabB (n : Nat) (f : Nat → Bool) : List V := (List.range n).map fun i => .bl (f i)
theorem tabB_len {n : Nat} {f : Nat → Bool} : (tabB n f).length = n := by simp [tabB]
theorem tabB_at {n i : Nat} {f : Nat → Bool} (h : i < n) : (tabB n f)[i]? = some (.bl (f i)) := by simp [tabB, h]
theorem tabB_succ {n : Nat} {f : Nat → Bool} : tabB (n + 1) f = tabB n f ++ [.bl (f n)] := by
  unfold tabB
  rw [List.range_succ, List.map_append]
  rfl
theorem tabB_congr {n : Nat} {f g : Nat → Bool} (h : ∀ i, i < n → f i = g i) : tabB n f = tabB n g := by
  apply List.map_congr_left
  intro i hi
  rw [h i (List.mem_range.mp hi)]
theorem tabB_set {n i : Nat} {f : Nat → Bool} {v : Bool} : (tabB n f).set i (.bl v) = tabB n (fun j => if j = i then v else f j) := by
  apply List.ext_getElem?
  intro j
  rw [List.getElem?_set, tabB_len]
  by_cases hj : j < n
  · rw [tabB_at (f := fun j => if j = i then v else f j) hj, tabB_at (f := f) hj]
    by_cases e : i = j
    · rw [if_pos e, if_pos (by omega), if_pos e.symm]
    · rw [if_neg e, if_neg (fun z => e z.symm)]
  · have h1 : (tabB n fun j => if j = i then v else f j)[j]? = none := by
      rw [List.getElem?_eq_none_iff, tabB_len]; omega
    have h2 : (tabB n f)[j]? = none := by
      rw [List.getElem?_eq_none_iff, tabB_len]; omega
    rw [h1, h2]
    by_cases e : i = j
    · rw [if_pos e, if_neg (by omega)]
    · rw [if_neg e]
end MG

/-! what coins pay; lean rows -/
namespace KL
def pd (cs : List Nat) (n : Nat) : Bool := n == 0 || cs.attach.any fun ⟨c, _⟩ => if h : 0 < c ∧ c ≤ n then pd cs (n - c) else false
termination_by n
decreasing_by omega
inductive Paid (cs : List Nat) : Nat → Prop
  | zero : Paid cs 0
  | add {c n : Nat} (h : c ∈ cs) (p : Paid cs n) : Paid cs (n + c)
theorem pd_iff {cs : List Nat} (n : Nat) : pd cs n = true ↔ n = 0 ∨ ∃ c ∈ cs, 0 < c ∧ c ≤ n ∧ pd cs (n - c) = true := by
  rw [pd]
  simp only [Bool.or_eq_true, beq_iff_eq, List.any_eq_true]
  constructor
  · rintro (h | ⟨⟨c, hc⟩, _, h⟩)
    · exact .inl h
    · by_cases q : 0 < c ∧ c ≤ n
      · simp only [q, and_self, dite_true] at h
        exact .inr ⟨c, hc, q.1, q.2, h⟩
      · simp [q] at h
  · rintro (h | ⟨c, hc, h1, h2, h3⟩)
    · exact .inl h
    · refine .inr ⟨⟨c, hc⟩, List.mem_attach _ _, ?_⟩
      simp [h1, h2, h3]
theorem paid_of {cs : List Nat} (n : Nat) (h : pd cs n = true) : Paid cs n := by
  induction n using Nat.strongRecOn with
  | ind n ih =>
    rcases (pd_iff n).mp h with h | ⟨c, hc, h1, h2, h3⟩
    · rw [h]; exact .zero
    · have := Paid.add hc (ih (n - c) (by omega) h3)
      rwa [Nat.sub_add_cancel h2] at this
theorem pd_of {cs : List Nat} (hp : ∀ c ∈ cs, 0 < c) {n : Nat} (h : Paid cs n) : pd cs n = true := by
  induction h with
  | zero => exact (pd_iff 0).mpr (.inl rfl)
  | @add c n hc p ih => exact (pd_iff _).mpr (.inr ⟨c, hc, hp c hc, by omega, by rw [Nat.add_sub_cancel]; exact ih⟩)
theorem pd_paid {cs : List Nat} (hp : ∀ c ∈ cs, 0 < c) (n : Nat) : pd cs n = true ↔ Paid cs n := ⟨paid_of n, pd_of hp⟩
theorem Paid.mono {cs ds : List Nat} (h : ∀ c ∈ cs, c ∈ ds) {n : Nat} (p : Paid cs n) : Paid ds n := by
  induction p with
  | zero => exact .zero
  | add hc _ ih => exact .add (h _ hc) ih
theorem Paid.sum {cs : List Nat} {m n : Nat} (p : Paid cs m) (q : Paid cs n) : Paid cs (m + n) := by
  induction q with
  | zero => exact p
  | @add c k hc _ ih => rw [← Nat.add_assoc]; exact .add hc ih
/-- one coin more -/
theorem paid_more {cs : List Nat} {c n : Nat} : Paid (cs ++ [c]) n ↔ Paid cs n ∨ (c ≤ n ∧ Paid (cs ++ [c]) (n - c)) := by
  constructor
  · intro p
    induction p with
    | zero => exact .inl .zero
    | @add d k hd p ih =>
      rcases List.mem_append.mp hd with h | h
      · rcases ih with i | ⟨i1, i2⟩
        · exact .inl (.add h i)
        · refine .inr ⟨by omega, ?_⟩
          have e : k + d - c = (k - c) + d := by omega
          rw [e]
          exact .add hd i2
      · have e : d = c := by simpa using h
        subst e
        exact .inr ⟨by omega, by rw [Nat.add_sub_cancel]; exact p⟩
  · rintro (p | ⟨h, p⟩)
    · exact p.mono fun x hx => List.mem_append_left _ hx
    · have := Paid.add (c := c) (by simp) p
      rwa [Nat.sub_add_cancel h] at this
theorem pd_more {cs : List Nat} {c : Nat} (hp : ∀ d ∈ cs, 0 < d) (hc : 0 < c) (n : Nat) : pd (cs ++ [c]) n = (pd cs n || (decide (c ≤ n) && pd (cs ++ [c]) (n - c))) := by
  have hp2 : ∀ d ∈ cs ++ [c], 0 < d := fun d hd => by
    rcases List.mem_append.mp hd with h | h
    · exact hp d h
    · have : d = c := by simpa using h
      omega
  have a := pd_paid hp2 n
  have b := pd_paid hp n
  have d := pd_paid hp2 (n - c)
  have e := paid_more (cs := cs) (c := c) (n := n)
  rw [← a, ← b, ← d] at e
  apply Bool.eq_iff_iff.mpr
  simpa using e
/-- the coins that the kept ones ahead do not pay -/
def step (ks : List Nat) (c : Nat) : List Nat := if pd ks c then ks else ks ++ [c]
def leanN (cs : List Nat) : List Nat := cs.foldl step []
theorem step_sub {ks : List Nat} {c : Nat} : ∀ x ∈ step ks c, x ∈ ks ∨ x = c := by
  intro x hx
  unfold step at hx
  split at hx
  · exact .inl hx
  · rcases List.mem_append.mp hx with h | h
    · exact .inl h
    · exact .inr (by simpa using h)
theorem fold_sub : ∀ (cs ks : List Nat), ∀ x ∈ cs.foldl step ks, x ∈ ks ∨ x ∈ cs
  | [], ks, x, h => .inl h
  | c :: cs, ks, x, h => by
    rcases fold_sub cs (step ks c) x h with h | h
    · rcases step_sub x h with h | h
      · exact .inl h
      · exact .inr (by simp [h])
    · exact .inr (by simp [h])
theorem fold_len : ∀ (cs ks : List Nat), (cs.foldl step ks).length ≤ ks.length + cs.length
  | [], ks => Nat.le_refl _
  | c :: cs, ks => by
    have h := fold_len cs (step ks c)
    have : (step ks c).length ≤ ks.length + 1 := by
      unfold step
      split <;> simp
    show (cs.foldl step (step ks c)).length ≤ ks.length + (cs.length + 1)
    omega
/-- no coin is paid by those ahead -/
def Ln (ks : List Nat) : Prop := ∀ i c, ks[i]? = some c → pd (ks.take i) c = false
theorem ln_step {ks : List Nat} {c : Nat} (h : Ln ks) : Ln (step ks c) := by
  unfold step
  split
  · exact h
  · rename_i q
    intro i d e
    by_cases hi : i < ks.length
    · rw [List.getElem?_append_left hi] at e
      rw [List.take_append_of_le_length (by omega)]
      exact h i d e
    · have hi2 : i = ks.length := by
        have := (List.getElem?_eq_some_iff.mp e).1
        simp at this
        omega
      subst hi2
      have : d = c := by simpa using e.symm
      subst this
      rw [List.take_append_of_le_length (Nat.le_refl _), List.take_length]
      simpa using q
theorem ln_fold : ∀ (cs ks : List Nat), Ln ks → Ln (cs.foldl step ks)
  | [], _, h => h
  | _ :: cs, _, h => ln_fold cs _ (ln_step h)
theorem ln_lean (cs : List Nat) : Ln (leanN cs) := ln_fold cs [] (by intro i c h; simp at h)
theorem lean_of_ln {ks : List Nat} (h : Ln ks) : ∀ n, n ≤ ks.length → (ks.take n).foldl step [] = ks.take n
  | 0, _ => rfl
  | n + 1, hn => by
    have hl : n < ks.length := by omega
    have e : ks[n]? = some ks[n] := List.getElem?_eq_getElem hl
    rw [List.take_add_one, e, List.foldl_append, lean_of_ln h n (by omega)]
    show step (ks.take n) ks[n] = ks.take n ++ [ks[n]]
    unfold step
    rw [h n _ e]
    simp
theorem lean_lean (cs : List Nat) : leanN (leanN cs) = leanN cs := by
  have := lean_of_ln (ln_lean cs) (leanN cs).length (Nat.le_refl _)
  rwa [List.take_length] at this
/-- what is divided by the kept ones divides all that they pay -/
theorem paid_dvd {cs : List Nat} {g n : Nat} (h : ∀ c ∈ cs, g ∣ c) (p : Paid cs n) : g ∣ n := by
  induction p with
  | zero => exact Nat.dvd_zero _
  | add hc _ ih => exact Nat.dvd_add ih (h _ hc)
theorem fold_mem : ∀ (cs ks : List Nat), ∀ x ∈ ks, x ∈ cs.foldl step ks
  | [], _, x, h => h
  | c :: cs, ks, x, h => fold_mem cs (step ks c) x (by unfold step; split; exact h; simp [h])
theorem fold_pays : ∀ (cs ks : List Nat), ∀ x ∈ cs, Paid (cs.foldl step ks) x
  | c :: cs, ks, x, h => by
    rcases List.mem_cons.mp h with rfl | h
    · show Paid (cs.foldl step (step ks x)) x
      by_cases q : pd ks x = true
      · have e : step ks x = ks := by unfold step; rw [if_pos q]
        rw [e]
        exact (paid_of x q).mono (fold_mem cs ks)
      · have e : x ∈ step ks x := by unfold step; rw [if_neg q]; simp
        have := Paid.add (fold_mem cs _ x e) .zero
        simpa using this
    · exact fold_pays cs (step ks c) x h
def gcdL (cs : List Nat) : Nat := cs.foldl Nat.gcd 0
theorem gcdL_dvd : ∀ (cs : List Nat) (g : Nat), cs.foldl Nat.gcd g ∣ g ∧ ∀ c ∈ cs, cs.foldl Nat.gcd g ∣ c
  | [], g => ⟨Nat.dvd_refl _, fun c h => by cases h⟩
  | d :: cs, g => by
    obtain ⟨a, b⟩ := gcdL_dvd cs (Nat.gcd g d)
    refine ⟨Nat.dvd_trans a (Nat.gcd_dvd_left g d), fun c hc => ?_⟩
    rcases List.mem_cons.mp hc with rfl | hc
    · exact Nat.dvd_trans a (Nat.gcd_dvd_right g c)
    · exact b c hc
theorem dvd_gcdL : ∀ (cs : List Nat) (g k : Nat), k ∣ g → (∀ c ∈ cs, k ∣ c) → k ∣ cs.foldl Nat.gcd g
  | [], _, _, h, _ => h
  | d :: cs, g, k, h, h2 => dvd_gcdL cs _ k (Nat.dvd_gcd h (h2 d (by simp))) fun c hc => h2 c (by simp [hc])
theorem gcdL_iff {cs : List Nat} {k : Nat} : k ∣ gcdL cs ↔ ∀ c ∈ cs, k ∣ c :=
  ⟨fun h c hc => Nat.dvd_trans h ((gcdL_dvd cs 0).2 c hc), fun h => dvd_gcdL cs 0 k (Nat.dvd_zero k) h⟩
theorem gcdL_lean (cs : List Nat) : gcdL (leanN cs) = gcdL cs := by
  apply Nat.dvd_antisymm
  · refine gcdL_iff.mpr fun c hc => paid_dvd (cs := leanN cs) (gcdL_iff.mp (Nat.dvd_refl _)) (fold_pays cs [] c hc)
  · refine gcdL_iff.mpr fun c hc => gcdL_iff.mp (Nat.dvd_refl _) c ?_
    rcases fold_sub cs [] c hc with h | h
    · cases h
    · exact h
end KL

namespace Kx
open PySem L2 MG KM
def natL (cs : List Int) : List Nat := cs.map Int.toNat
def intL (ks : List Nat) : List Int := ks.map fun (n : Nat) => (n : Int)
theorem int_nat {cs : List Int} (h : ∀ c ∈ cs, 1 ≤ c ∧ c ≤ 60) : intL (natL cs) = cs := by
  unfold intL natL
  rw [List.map_map]
  have : ∀ c ∈ cs, ((fun (n : Nat) => (n : Int)) ∘ Int.toNat) c = c := fun c hc => by
    have := (h c hc).1
    show ((c.toNat : Nat) : Int) = c
    omega
  rw [List.map_congr_left this, List.map_id']
theorem nat_int (ks : List Nat) : natL (intL ks) = ks := by
  unfold intL natL
  rw [List.map_map]
  have : ∀ k ∈ ks, (Int.toNat ∘ (fun (n : Nat) => (n : Int))) k = k := fun k _ => by simp
  rw [List.map_congr_left this, List.map_id']
def pdI (cs : List Int) (n : Nat) : Bool := KL.pd (natL cs) n
def leanI (cs : List Int) : List Int := intL (KL.leanN (natL cs))
def gcdI (cs : List Int) : Int := ((KL.gcdL (natL cs) : Nat) : Int)
theorem step_subl (ks : List Nat) (c : Nat) : (KL.step ks c).Sublist (ks ++ [c]) := by
  unfold KL.step
  split
  · exact List.sublist_append_left ks [c]
  · exact List.Sublist.refl _
theorem fold_subl : ∀ (cs ks : List Nat), (cs.foldl KL.step ks).Sublist (ks ++ cs)
  | [], ks => by simp
  | c :: cs, ks => by
    have h := fold_subl cs (KL.step ks c)
    refine h.trans ?_
    have e : ks ++ c :: cs = (ks ++ [c]) ++ cs := by simp
    rw [e]
    exact (step_subl ks c).append_right cs
theorem lean_subl (cs : List Nat) : (KL.leanN cs).Sublist cs := by
  have := fold_subl cs []
  rwa [List.nil_append] at this
theorem lean_ne {c : Nat} {cs : List Nat} (hc : 0 < c) : KL.leanN (c :: cs) ≠ [] := by
  have h : KL.step [] c = [c] := by
    unfold KL.step
    have : KL.pd [] c = false := by
      cases e : KL.pd [] c with
      | false => rfl
      | true =>
        rcases (KL.pd_iff c).mp e with z | ⟨d, hd, _⟩
        · omega
        · cases hd
    rw [this]
    simp
  intro z
  have hm : c ∈ KL.leanN (c :: cs) := by
    show c ∈ cs.foldl KL.step (KL.step [] c)
    rw [h]
    exact KL.fold_mem cs [c] c (by simp)
  rw [z] at hm
  cases hm
theorem lean_lot {cs : List Int} (h : Lotc cs) : Lotc (leanI cs) := by
  obtain ⟨p, q⟩ := asc_pw h.up
  have hb := lot_pos (Int.le_refl 0) h.up
  have hs : (leanI cs).Sublist cs := by
    have := (lean_subl (natL cs)).map (fun (n : Nat) => (n : Int))
    have e := int_nat hb
    unfold intL at e
    rw [e] at this
    exact this
  refine ⟨?_, Nat.le_trans hs.length_le h.few, asc_of (p.sublist hs) fun d hd => q d (hs.subset hd)⟩
  intro z
  have hne := h.ne
  match cs, hne, hb with
  | c :: r, _, hb =>
    have hc := hb c (by simp)
    have : KL.leanN (natL (c :: r)) = [] := by
      unfold leanI intL at z
      exact List.map_eq_nil_iff.mp z
    exact lean_ne (cs := natL r) (show 0 < c.toNat by omega) this
theorem lean_mem {cs : List Int} (hb : ∀ c ∈ cs, 1 ≤ c ∧ c ≤ 60) : ∀ c ∈ leanI cs, c ∈ cs := by
  have := (lean_subl (natL cs)).map (fun (n : Nat) => (n : Int))
  have e := int_nat hb
  unfold intL at e
  rw [e] at this
  exact fun c hc => this.subset hc
theorem lean_idem (cs : List Int) : leanI (leanI cs) = leanI cs := by
  unfold leanI
  rw [nat_int, KL.lean_lean]
theorem gcd_lean (cs : List Int) : gcdI (leanI cs) = gcdI cs := by
  unfold gcdI leanI
  rw [nat_int, KL.gcdL_lean]
/-! promises -/
def sp_divisor (C : Addr) : Sp := fun vs H Q _ => ∃ (p : Addr) (cs : List Int), vs = [.ref p] ∧ LotAt C H p cs ∧ ∀ H', Same H H' → Q (.int (gcdI cs)) H'
def sp_lean_coins : Sp := fun vs H Q _ => ∃ (t : Addr) (cs : List Int), vs = [.ref t] ∧ H t = some (.tup (cs.map V.int)) ∧ Lotc cs ∧ ∀ q H', H q = none → Same H H' → H' q = some (.tup ((leanI cs).map V.int)) → Q (.ref q) H'
def sp_lean (C : Addr) : Sp := fun vs H Q _ => ∃ (p : Addr) (cs : List Int), vs = [.ref p] ∧ LotAt C H p cs ∧ ∀ q H', H q = none → Same H H' → LotAt C H' q (leanI cs) → Q (.ref q) H'
def sp_Lot_eq (C : Addr) : Sp := fun vs H Q _ => ∃ (p q : Addr) (cs ds : List Int), vs = [.ref p, .ref q] ∧ LotAt C H p cs ∧ LotAt C H q ds ∧ Q (.bl (decide (cs = ds))) H
def tx1 (c : Int) : Str := Str.ofString c.repr
def txt (cs : List Int) : Str := Txt.join " " (cs.map tx1)
theorem tx1_len {c : Int} (h : 1 ≤ c ∧ c ≤ 60) : (tx1 c).length ≤ 1001 := by
  have z : c.natAbs.log2 < 1000 := by
    have := Nat.log2_le_self c.natAbs
    omega
  unfold tx1
  rw [PySem.ofString_length]
  exact int_text_length_le (by decide) z
theorem tx_sum : ∀ {cs : List Int}, (∀ c ∈ cs, 1 ≤ c ∧ c ≤ 60) → ((cs.map tx1).map (·.length)).sum ≤ cs.length * 1001
  | [], _ => by simp
  | c :: cs, h => by
    have h1 := tx1_len (h c (by simp))
    have h2 := tx_sum (cs := cs) fun d hd => h d (List.mem_cons_of_mem _ hd)
    simp only [List.map_cons, List.sum_cons, List.length_cons, Nat.add_mul]
    omega
theorem atI_last {α : Type} {xs : List α} {v : α} (h : xs[xs.length - 1]? = some v) : atI xs (-1) = some v := by
  have hl := (List.getElem?_eq_some_iff.mp h).1
  have e : ixN xs.length (-1) = some (xs.length - 1) := by
    unfold ixN
    rw [if_neg (by omega), if_pos (by omega)]
    congr 1
    omega
  unfold atI
  rw [e]
  exact h
theorem nat_take (cs : List Int) (i : Nat) : natL (cs.take i) = (natL cs).take i := by
  unfold natL
  rw [List.map_take]
theorem last_max {cs : List Int} (hc : Lotc cs) {G : Int} (h : cs[cs.length - 1]? = some G) : ∀ c ∈ cs, c ≤ G := by
  intro c hm
  obtain ⟨i, hi, rfl⟩ := List.mem_iff_getElem.mp hm
  obtain ⟨hl, e⟩ := List.getElem?_eq_some_iff.mp h
  rw [← e]
  by_cases z : i = cs.length - 1
  · subst z; exact Int.le_refl _
  · have := List.pairwise_iff_getElem.mp (asc_pw hc.up).1 i (cs.length - 1) hi hl (by omega)
    omega
def sp_Lot_str (C : Addr) : Sp := fun vs H Q _ => ∃ (p : Addr) (cs : List Int), vs = [.ref p] ∧ LotAt C H p cs ∧ ∀ H', Same H H' → Q (.str (txt cs)) H'
def EqL (P : Program) (w : World) (K : PySem.W.Frag) (mg : Str → Option Value) (base : Heap) (C : Addr) : Prop :=
  ∃ (f : Addr) (fd : FuncData), FnOk P w K mg base CX0 1 f fd ["self", "other"] (sp_Lot_eq C) ∧ PySem.W.findIn K (.ref C) "__eq__" = some (some (.ref f)) ∧ PySem.W.isFn K (.ref f) = true ∧ Binds K fd ["self", "other"] []
def StrL (P : Program) (w : World) (K : PySem.W.Frag) (mg : Str → Option Value) (base : Heap) (C : Addr) : Prop :=
  ∃ (f : Addr) (fd : FuncData), FnOk P w K mg base CX0 1 f fd ["self"] (sp_Lot_str C) ∧ PySem.W.findIn K (.ref C) "__str__" = some (some (.ref f)) ∧ PySem.W.isFn K (.ref f) = true ∧ Binds K fd ["self"] []
/-- one == other, both lots -/
def rLotEq (C : Addr) : R2 := fun x y H Q => ∃ (p q : Addr) (cs ds : List Int), x = .ref p ∧ y = .ref q ∧ LotAt C H p cs ∧ LotAt C H q ds ∧ Q (.bl (decide (cs = ds))) H
theorem op_lotEq {X : Cx} {C : Addr} {n : Nat} (c : EqL X.prog X.w X.K X.mg X.base C) (rm : Room n X.A) (h : 1 ≤ n := by decide) : OpR X (compareOp .Eq) (rLotEq C) := by
  obtain ⟨f, fd, h1, h2, h3, h4⟩ := c
  intro pins s σ H x y v u Q I rx ry hh
  obtain ⟨p, q, cs, ds, e1, e2, hp, hq, k⟩ := hh
  obtain ⟨dx, t, a1, a2, a3⟩ := id hp
  obtain ⟨dy, t', b1, b2, b3⟩ := id hq
  exact op_eqO h1 h2 h3 h4 rm h pins s σ H x y v u Q I rx ry ⟨p, q, dx, dy, _, _, e1, e2, a1, b1, p, q, cs, ds, rfl, hp, hq, k⟩
def rLotStr (C : Addr) : List V → Hp → VK → Prop := fun vs H Q => ∃ (p : Addr) (cs : List Int), vs = [.ref p] ∧ LotAt C H p cs ∧ ∀ H', Same H H' → Q (.str (txt cs)) H'
theorem str_lot {X : Cx} {C : Addr} {n : Nat} (c : StrL X.prog X.w X.K X.mg X.base C) (rm : Room n X.A) (h : 4 ≤ n := by decide) : CallR X (.type "str") (rLotStr C) := by
  obtain ⟨f, fd, h1, h2, h3, h4⟩ := c
  intro pins s σ H vs us Q I r hh
  obtain ⟨p, cs, e1, hp, k⟩ := hh
  obtain ⟨dx, t, a1, a2, a3⟩ := id hp
  exact str_O h1 h2 h3 h4 rm h pins s σ H vs us Q I r ⟨p, dx, _, e1, a1, p, cs, rfl, hp, fun H' s' => ⟨⟨_, rfl⟩, k H' s'⟩⟩
/-! draws -/
def sp_l_coinsU : Sp := fun vs H Q _ => ∃ (b : Addr) (n m : Nat), vs = [.ref b, .int n, .int m] ∧ Bw H b ∧ 1 ≤ n ∧ n ≤ 15 ∧ 6 ≤ m ∧ m ≤ 60 ∧
  ∀ t cs H', H t = none → Lotc cs → cs.length ≤ n → (∀ c ∈ cs, c ≤ m) → H' t = some (.tup (cs.map V.int)) → Bw H' b → But b H H' → Q (.ref t) H'
def sp_l_paid : Sp := fun vs H Q _ => ∃ (t : Addr) (cs : List Int) (m : Nat), vs = [.ref t, .int m] ∧ (H t = some (.lst (cs.map V.int)) ∨ H t = some (.tup (cs.map V.int))) ∧ (∀ c ∈ cs, 1 ≤ c ∧ c ≤ 60) ∧ cs.length ≤ 1000 ∧ m ≤ 10000 ∧
  ∀ l H', H l = none → Same H H' → H' l = some (.lst (tabB (m + 1) (pdI cs))) → Q (.ref l) H'
def sp_l_shared : Sp := fun vs H Q _ => ∃ (t : Addr) (cs : List Int), vs = [.ref t] ∧ H t = some (.tup (cs.map V.int)) ∧ Lotc cs ∧ ∀ H', Same H H' → Q (.int (gcdI cs)) H'
def sp_l_lean : Sp := fun vs H Q _ => ∃ (t : Addr) (cs : List Int), vs = [.ref t] ∧ H t = some (.tup (cs.map V.int)) ∧ Lotc cs ∧ ∀ q H', H q = none → Same H H' → H' q = some (.tup ((leanI cs).map V.int)) → Q (.ref q) H'
def sp_l_with_sums : Sp := fun vs H Q _ => ∃ (b t : Addr) (cs : List Int), vs = [.ref b, .ref t] ∧ Bw H b ∧ H t = some (.tup (cs.map V.int)) ∧ Lotc cs ∧ ∀ q ds H', H q = none → Lotc ds → H' q = some (.tup (ds.map V.int)) → Bw H' b → But b H H' → Q (.ref q) H'
def sp_l_lean_right : Sp := fun vs H Q _ => ∃ (t : Addr) (cs : List Int), vs = [.ref t] ∧ H t = some (.tup (cs.map V.int)) ∧ Lotc cs ∧ ∀ H', Same H H' → Q (.bl true) H'
end Kx
namespace Kx
open PySem L2 MG KM
theorem pd_nil (n : Nat) : KL.pd [] n = (n == 0) := by
  rw [KL.pd]
  simp
theorem tabB_nil (g : Nat) : ([V.bl true] ++ List.replicate g (V.bl false)) = tabB (g + 1) (KL.pd []) := by
  apply List.ext_getElem?
  intro j
  by_cases hj : j < g + 1
  · rw [tabB_at hj, pd_nil]
    cases j with
    | zero => rfl
    | succ j =>
      rw [show ([V.bl true] ++ List.replicate g (V.bl false))[j + 1]? = (List.replicate g (V.bl false))[j]? from rfl, List.getElem?_replicate, if_pos (by omega)]
      rfl
  · rw [List.getElem?_eq_none (by simp; omega), List.getElem?_eq_none (by rw [tabB_len]; omega)]
def kp (cs : List Int) (i : Nat) : List Nat := (natL (cs.take i)).foldl KL.step []
theorem kp_pos {cs : List Int} (h : ∀ c ∈ cs, 1 ≤ c ∧ c ≤ 60) (i : Nat) : ∀ x ∈ kp cs i, 0 < x := by
  intro x hx
  rcases KL.fold_sub _ [] x hx with z | z
  · cases z
  · obtain ⟨c, hc, rfl⟩ := List.mem_map.mp z
    have := h c (List.mem_of_mem_take hc)
    omega
theorem kp_succ {cs : List Int} {i : Nat} {c : Nat} (h : cs[i]? = some (c : Int)) : kp cs (i + 1) = KL.step (kp cs i) c := by
  unfold kp natL
  rw [List.take_add_one, h, List.map_append, List.foldl_append]
  rfl
theorem kp_len (cs : List Int) (i : Nat) : (kp cs i).length ≤ cs.length := by
  unfold kp
  refine Nat.le_trans (KL.fold_len _ _) ?_
  simp [natL]
  omega
def halfB (ks : List Nat) (c m n : Nat) : Bool := if n < m then KL.pd (ks ++ [c]) n else KL.pd ks n
theorem halfB_start {ks : List Nat} {c : Nat} (hp : ∀ d ∈ ks, 0 < d) (hc : 0 < c) (n : Nat) : halfB ks c c n = KL.pd ks n := by
  unfold halfB
  by_cases h : n < c
  · rw [if_pos h, KL.pd_more hp hc]
    simp
    omega
  · rw [if_neg h]
theorem halfB_step {ks : List Nat} {c m : Nat} (hp : ∀ d ∈ ks, 0 < d) (hc : 0 < c) (hm : c ≤ m) (n : Nat) : (if n = m then (halfB ks c m m || halfB ks c m (m - c)) else halfB ks c m n) = halfB ks c (m + 1) n := by
  unfold halfB
  by_cases e : n = m
  · subst e
    rw [if_pos rfl, if_neg (by omega), if_pos (by omega), if_pos (by omega), KL.pd_more hp hc n]
    simp [hm]
  · rw [if_neg e]
    by_cases h : n < m
    · rw [if_pos h, if_pos (by omega)]
    · rw [if_neg h, if_neg (by omega)]
theorem halfB_end {ks : List Nat} {c k n : Nat} (h : n < k) : halfB ks c k n = KL.pd (ks ++ [c]) n := if_pos h
end Kx
namespace Kx
open PySem L2 MG KM
def bsf (cs : List Int) (T : Nat) (c : Int) : Bool := decide (c ≤ (T : Int)) && pdI cs (T - c.toNat)
theorem any_pd {cs : List Int} (h : ∀ c ∈ cs, 1 ≤ c ∧ c ≤ 60) {T : Nat} (hT : 0 < T) : ((cs.map (bsf cs T)).any id) = pdI cs T := by
  rw [Bool.eq_iff_iff]
  unfold pdI
  rw [KL.pd_iff]
  simp only [List.any_map, List.any_eq_true, Function.comp, id, bsf, Bool.and_eq_true, decide_eq_true_eq]
  constructor
  · rintro ⟨c, hc, h1, h2⟩
    have := h c hc
    exact .inr ⟨c.toNat, List.mem_map.mpr ⟨c, hc, rfl⟩, by omega, by omega, h2⟩
  · rintro (z | ⟨k, hk, h1, h2, h3⟩)
    · omega
    · obtain ⟨c, hc, rfl⟩ := List.mem_map.mp hk
      have := h c hc
      exact ⟨c, hc, by omega, h3⟩
theorem pdI_zero (cs : List Int) : pdI cs 0 = true := (KL.pd_iff 0).mpr (.inl rfl)
end Kx
namespace Kx
open PySem L2 MG KM
theorem kp_in {cs : List Int} (h : ∀ c ∈ cs, 1 ≤ c ∧ c ≤ 60) (i : Nat) : ∀ x ∈ intL (kp cs i), 1 ≤ x ∧ x ≤ 60 := by
  intro x hx
  obtain ⟨k, hk, rfl⟩ := List.mem_map.mp hx
  rcases KL.fold_sub _ [] k hk with z | z
  · cases z
  · obtain ⟨c, hc, rfl⟩ := List.mem_map.mp z
    have := h c (List.mem_of_mem_take hc)
    omega
theorem pdI_intL (ks : List Nat) : pdI (intL ks) = KL.pd ks := by
  funext n
  unfold pdI
  rw [nat_int]
end Kx
namespace Kx
open PySem L2 MG KM
theorem gcd_max {cs : List Int} (h : ∀ c ∈ cs, 1 ≤ c ∧ c ≤ 60) {k : Nat} (hk : (k : Int) ∈ cs) {ms : List Int} (hms : ∀ x : Int, x ∈ ms ↔ 1 ≤ x ∧ x ≤ k ∧ ∀ c ∈ cs, c % x = 0) {m : Int} (hm : m ∈ ms) (hmax : ∀ y ∈ ms, y ≤ m) : m = gcdI cs := by
  have hd : ∀ x : Nat, (∀ c ∈ cs, c % (x : Int) = 0) ↔ x ∣ KL.gcdL (natL cs) := fun x => by
    rw [KL.gcdL_iff]
    constructor
    · intro hx c hc
      obtain ⟨d, hd, rfl⟩ := List.mem_map.mp hc
      have h1 := hx d hd
      have h2 := h d hd
      have : (x : Int) ∣ d := Int.dvd_of_emod_eq_zero h1
      have e : ((d.toNat : Nat) : Int) = d := by omega
      rw [← e] at this
      exact Int.natCast_dvd_natCast.mp this
    · intro hx c hc
      have h1 := hx c.toNat (List.mem_map.mpr ⟨c, hc, rfl⟩)
      have h2 := h c hc
      have : ((x : Nat) : Int) ∣ ((c.toNat : Nat) : Int) := Int.natCast_dvd_natCast.mpr h1
      rw [show ((c.toNat : Nat) : Int) = c by omega] at this
      exact Int.emod_eq_zero_of_dvd this
  obtain ⟨m1, m2, m3⟩ := (hms m).mp hm
  obtain ⟨m', rfl⟩ : ∃ m' : Nat, m = m' := ⟨m.toNat, by omega⟩
  have hg : ∀ c ∈ cs, c % ((KL.gcdL (natL cs) : Nat) : Int) = 0 := (hd _).mpr (Nat.dvd_refl _)
  have hk1 := h _ hk
  have hgk : KL.gcdL (natL cs) ∣ k := by
    have := (KL.gcdL_iff (cs := natL cs) (k := KL.gcdL (natL cs))).mp (Nat.dvd_refl _) k (List.mem_map.mpr ⟨_, hk, by simp⟩)
    exact this
  have hgle : KL.gcdL (natL cs) ≤ k := Nat.le_of_dvd (by omega) hgk
  have hgpos : 0 < KL.gcdL (natL cs) := Nat.pos_of_dvd_of_pos hgk (by omega)
  have h1 := hmax ((KL.gcdL (natL cs) : Nat) : Int) ((hms _).mpr ⟨by omega, by omega, hg⟩)
  have h2 : m' ≤ KL.gcdL (natL cs) := Nat.le_of_dvd hgpos ((hd m').mp m3)
  unfold gcdI
  omega
end Kx
namespace Kx
open PySem L2 MG KM
theorem cut_take (xs : List V) (k : Nat) : cutV xs none (some (k : Int)) = xs.take k := by
  by_cases h : k ≤ xs.length
  · exact cut_to xs h
  · unfold cutV
    have h0 : ¬ ((k : Int) < 0) := by omega
    simp [HT.sIx, h0]
    try rw [List.take_of_length_le (by omega), List.take_of_length_le (by omega)]
theorem sum_pos : ∀ {xs : List Int}, (∀ x ∈ xs, 1 ≤ x) → (xs.length : Int) ≤ xs.sum
  | [], _ => by simp
  | a :: xs, h => by
    have h1 := h a (by simp)
    have h2 := sum_pos (xs := xs) fun x hx => h x (List.mem_cons_of_mem _ hx)
    rw [List.sum_cons, List.length_cons]
    omega
end Kx
namespace Kx
open PySem L2 MG KM
theorem fold_ok {g : Str} {B : Nat} (hg : ∀ c ∈ g.cps.toList, c < B) : ∀ (ps : List Str) (acc : Array Nat), (∀ c ∈ acc.toList, c < B) → (∀ p ∈ ps, ∀ c ∈ p.cps.toList, c < B) →
    (∀ c ∈ (ps.foldl (fun acc p => acc ++ g.cps ++ p.cps) acc).toList, c < B) ∧ (ps.foldl (fun acc p => acc ++ g.cps ++ p.cps) acc).size ≤ acc.size + ps.length * g.length + (ps.map (·.length)).sum
  | [], acc, h, _ => ⟨h, by simp⟩
  | p :: ps, acc, h, hp => by
    have h1 : ∀ c ∈ (acc ++ g.cps ++ p.cps).toList, c < B := by
      intro c hc
      simp only [Array.toList_append, List.mem_append] at hc
      rcases hc with (hc | hc) | hc
      · exact h c hc
      · exact hg c hc
      · exact hp p (by simp) c hc
    obtain ⟨a, b⟩ := fold_ok hg ps (acc ++ g.cps ++ p.cps) h1 fun q hq => hp q (List.mem_cons_of_mem _ hq)
    refine ⟨a, ?_⟩
    rw [List.foldl_cons]
    refine Nat.le_trans b ?_
    simp only [Array.size_append, List.length_cons, List.map_cons, List.sum_cons, Nat.add_mul]
    show acc.size + g.length + p.length + ps.length * g.length + _ ≤ _
    omega
theorem tx1_ok (c : Int) : ∀ x ∈ (tx1 c).cps.toList, x < 16 ^ 8 := by
  intro x hx
  unfold tx1 at hx
  rw [Str.ofString_eq_toList] at hx
  simp only [List.mem_map] at hx
  obtain ⟨ch, _, rfl⟩ := hx
  have : ch.toNat < 2 ^ 32 := ch.val.toNat_lt
  omega
theorem txt_ok {cs : List Int} (h : ∀ c ∈ cs, 1 ≤ c ∧ c ≤ 60) (hl : cs.length ≤ 15) : (∀ x ∈ (txt cs).cps.toList, x < 16 ^ 8) ∧ (txt cs).length ≤ 20000 := by
  have hs := tx_sum h
  unfold txt
  show (∀ x ∈ ((List.drop 1 (cs.map tx1)).foldl (fun acc p => acc ++ (Str.ofString " ").cps ++ p.cps) ((cs.map tx1).headD Str.empty).cps).toList, x < 16 ^ 8) ∧ ((List.drop 1 (cs.map tx1)).foldl (fun acc p => acc ++ (Str.ofString " ").cps ++ p.cps) ((cs.map tx1).headD Str.empty).cps).size ≤ 20000
  have hg : ∀ c ∈ (Str.ofString " ").cps.toList, c < 16 ^ 8 := by decide +kernel
  match cs, hs, hl with
  | [], _, _ => exact ⟨(by intro x hx; cases hx), by decide⟩
  | c :: cs, hs, hl =>
    obtain ⟨a, b⟩ := fold_ok hg (cs.map tx1) (tx1 c).cps (tx1_ok c) (fun p hp => by obtain ⟨d, _, rfl⟩ := List.mem_map.mp hp; exact tx1_ok d)
    refine ⟨a, Nat.le_trans b ?_⟩
    have e : (Str.ofString " ").length = 1 := rfl
    have e2 : (tx1 c).cps.size = (tx1 c).length := rfl
    simp only [List.map_cons, List.sum_cons, List.length_cons, List.length_map] at hs hl ⊢
    rw [e, e2]
    omega
end Kx
namespace Kx
open PySem L2 MG KM
theorem gcd_small {cs : List Int} (h : Lotc cs) : (gcdI cs).natAbs ≤ 60 := by
  have hb := lot_pos (Int.le_refl 0) h.up
  match cs, h.ne, hb with
  | c :: r, _, hb =>
    have hc := hb c (by simp)
    have hd := (KL.gcdL_iff (cs := natL (c :: r)) (k := KL.gcdL (natL (c :: r)))).mp (Nat.dvd_refl _) c.toNat (by simp [natL])
    have := Nat.le_of_dvd (by omega) hd
    unfold gcdI
    omega
end Kx

/-! a comprehension over a range with a step -/
namespace MG
open PySem PySem.Spec PyProof.Rows L2
theorem lc_rangeC {lo c : Int} {n : Nat} {g : TG} {tt : TT} {te : TE} {vs : List Nat} {σ : L2.St} {H1 : Hp} {D : Addr} {Qd : Hp → Prop} (Pv : Nat → Hp → Prop) (h0 : Pv 0 (upd H1 D (.lst [])))
    (hs : ∀ i H, i < n → Pv i H → g (.int (lo + (i : Int) * c)) (wipe σ vs) H fun σ2 H2 => wipe σ2 vs = wipe σ vs ∧ tt σ2 H2 fun b H3 =>
      if b = true then te σ2 H3 fun z H4 => ∃ acc, H4 D = some (.lst acc) ∧ acc.length < sizeLine ∧ Pv (i + 1) (upd H4 D (.lst (acc ++ [z]))) else Pv (i + 1) H3) (hd : ∀ H, Pv n H → Qd H) :
    ∃ W : Nat → Nat → Hp → Prop, (∃ m, W 0 m (upd H1 D (.lst []))) ∧ ∀ i m H, W i m H →
      ((Itc lo c n).stop i H ∧ Qd H) ∨ ((Itc lo c n).go i H ∧ ∃ Nx : Hp → Prop, (∀ H', Nx H' → ∃ m', m' < m ∧ W (i + 1) m' H') ∧ ∀ x H', (Itc lo c n).yld i H x H' → g x (wipe σ vs) H' fun σ2 H2 => wipe σ2 vs = wipe σ vs ∧ tt σ2 H2 fun b H3 =>
        if b = true then te σ2 H3 fun y H4 => ∃ acc, H4 D = some (.lst acc) ∧ acc.length < sizeLine ∧ Nx (upd H4 D (.lst (acc ++ [y]))) else Nx H3) := by
  refine ⟨fun i m H => m = n - i ∧ i ≤ n ∧ Pv i H, ⟨n, by simp, Nat.zero_le _, h0⟩, ?_⟩
  rintro i m H ⟨rfl, hi, p⟩
  by_cases hlt : i < n
  · refine .inr ⟨hlt, Pv (i + 1), fun H' p' => ⟨n - (i + 1), by omega, rfl, hlt, p'⟩, fun x H' z => ?_⟩
    obtain ⟨rfl, rfl⟩ := z
    exact hs i _ hlt p
  · have e : i = n := by omega
    subst e
    exact .inl ⟨Nat.le_refl _, hd H p⟩
theorem rgC {i j c : Nat} (hc : 0 < c) (h1 : i < 2 ^ 40) (h2 : j < 2 ^ 40) (h3 : c < 2 ^ 29) (hij : i < j) : RgC (i : Int) (j : Int) (c : Int) ((j - i - 1) / c + 1) := by
  have e : Builtin.Range.rangeSize (i : Int) (j : Int) (c : Int) = (((j - i - 1) / c + 1 : Nat) : Int) := by
    unfold Builtin.Range.rangeSize
    rw [if_pos (by omega), if_pos (by omega)]
    have : (j : Int) - i - 1 = ((j - i - 1 : Nat) : Int) := by omega
    rw [this]
    rfl
  have hle : (j - i - 1) / c ≤ j - i - 1 := Nat.div_le_self _ _
  refine ⟨by omega, by omega, ?_, e⟩
  unfold Builtin.Range.small
  rw [e, if_pos (by omega)]
  clear e
  generalize (j - i - 1) / c = k at hle ⊢
  simp only [Builtin.Range.rangeFitsLong, Bool.and_eq_true, Bool.or_eq_true, decide_eq_true_eq]
  omega
theorem shapedL (ns : List Int) : SeqAt.shaped (.list (ns.map .int)) = true := by
  obtain ⟨a, b⟩ := layI ns
  have d : (PyData.list (ns.map .int)).depth ≤ 64 := by
    show PyData.depthAll (ns.map PyData.int) + 1 ≤ 64
    omega
  have c : (PyData.list (ns.map .int)).canLay0 = true := a
  unfold SeqAt.shaped
  rw [c]
  simpa using d
theorem eqv_lst (cs ds : List Int) : (PyData.list (cs.map .int)).eqv (.list (ds.map .int)) = decide (cs = ds) := by
  rw [PyData.eqv]
  exact eqv_ints cs ds
end MG

/-! least sums by rests: a coin more, by going round -/
namespace KC
abbrev Tb := Nat → Option Nat
def lq (T : Tb) (p q d : Nat) : Prop := ∀ v, T p = some v → ∃ u, T q = some u ∧ u ≤ v + d
theorem lq.refl {T : Tb} {p d : Nat} : lq T p p d := fun v h => ⟨v, h, by omega⟩
theorem lq.trans {T : Tb} {p q r d e : Nat} (a : lq T p q d) (b : lq T q r e) : lq T p r (d + e) := fun v h => by
  obtain ⟨u, hu, h1⟩ := a v h
  obtain ⟨x, hx, h2⟩ := b u hu
  exact ⟨x, hx, by omega⟩
theorem lq.mono {T : Tb} {p q d e : Nat} (a : lq T p q d) (h : d ≤ e) : lq T p q e := fun v hv => by
  obtain ⟨u, hu, h1⟩ := a v hv
  exact ⟨u, hu, by omega⟩
/-- one step: what q has, or what p has and c -/
def bst (T : Tb) (p q c : Nat) : Option Nat := match T p with
  | none => T q
  | some v => match T q with
    | none => some (v + c)
    | some u => if v + c < u then some (v + c) else some u
def rl (T : Tb) (p q c : Nat) : Tb := fun r => if r = q then bst T p q c else T r
theorem rl_other {T : Tb} {p q c r : Nat} (h : r ≠ q) : rl T p q c r = T r := if_neg h
theorem rl_at {T : Tb} {p q c : Nat} : rl T p q c q = bst T p q c := if_pos rfl
theorem rl_cases (T : Tb) (p q c : Nat) : rl T p q c q = T q ∨ ∃ v, T p = some v ∧ rl T p q c q = some (v + c) := by
  rw [rl_at]
  unfold bst
  cases hp : T p with
  | none => exact .inl rfl
  | some v =>
    cases hq : T q with
    | none => exact .inr ⟨v, rfl, rfl⟩
    | some u =>
      simp only
      by_cases h : v + c < u
      · rw [if_pos h]; exact .inr ⟨v, rfl, rfl⟩
      · rw [if_neg h]; exact .inl rfl
theorem rl_mono {T : Tb} {p q c r v : Nat} (h : T r = some v) : ∃ u, rl T p q c r = some u ∧ u ≤ v := by
  by_cases e : r = q
  · subst e
    rw [rl_at]
    unfold bst
    rw [h]
    cases hp : T p with
    | none => exact ⟨v, rfl, Nat.le_refl _⟩
    | some w =>
      simp only
      by_cases z : w + c < v
      · rw [if_pos z]; exact ⟨_, rfl, by omega⟩
      · rw [if_neg z]; exact ⟨_, rfl, Nat.le_refl _⟩
  · rw [rl_other e]; exact ⟨v, h, Nat.le_refl _⟩
theorem rl_edge {T : Tb} {p q c : Nat} : lq (rl T p q c) p q c := by
  by_cases e : p = q
  · subst e; exact lq.refl
  · intro v hv
    rw [rl_other e] at hv
    rw [rl_at]
    unfold bst
    rw [hv]
    cases hq : T q with
    | none => exact ⟨_, rfl, Nat.le_refl _⟩
    | some u =>
      simp only
      by_cases z : v + c < u
      · rw [if_pos z]; exact ⟨_, rfl, Nat.le_refl _⟩
      · rw [if_neg z]; exact ⟨_, rfl, by omega⟩
theorem rl_stay {T : Tb} {p q c : Nat} (h : lq T p q c) (r : Nat) : rl T p q c r = T r := by
  by_cases e : r = q
  · subst e
    rw [rl_at]
    unfold bst
    cases hp : T p with
    | none => rfl
    | some v =>
      obtain ⟨u, hu, h1⟩ := h v hp
      rw [hu]
      simp only
      rw [if_neg (by omega)]
  · exact rl_other e
/-- what keeps its own value keeps its edge -/
theorem rl_keep {T : Tb} {p q c a b d : Nat} (h : lq T a b d) (e : rl T p q c a = T a) : lq (rl T p q c) a b d := by
  intro v hv
  rw [e] at hv
  obtain ⟨u, hu, h1⟩ := h v hv
  obtain ⟨x, hx, h2⟩ := rl_mono (p := p) (q := q) (c := c) hu
  exact ⟨x, hx, by omega⟩
/-- a round: the places in their order -/
structure Rd (P : Nat → Nat) (L : Nat) : Prop where
  per : ∀ j, P (j + L) = P j
  inj : ∀ i j, i < L → j < L → P i = P j → i = j
  pos : 0 < L
def go (P : Nat → Nat) (c : Nat) (T : Tb) : Nat → Tb
  | 0 => T
  | i + 1 => rl (go P c T i) (P i) (P (i + 1)) c
theorem Rd.ne {P : Nat → Nat} {L : Nat} (R : Rd P L) {i j : Nat} (h1 : i < j) (h2 : j - i < L) : P i ≠ P j := by
  -- both are brought below L
  intro e
  have per : ∀ k m, P (m + k * L) = P m := by
    intro k
    induction k with
    | zero => intro m; simp
    | succ k ih =>
      intro m
      rw [Nat.add_mul, Nat.one_mul, ← Nat.add_assoc, R.per, ih]
  have key : ∀ m, P m = P (m % L) := fun m => by
    have := per (m / L) (m % L)
    rw [Nat.mul_comm, Nat.mod_add_div] at this
    exact this
  have h := R.inj (i % L) (j % L) (Nat.mod_lt _ R.pos) (Nat.mod_lt _ R.pos) (by rw [← key, ← key]; exact e)
  have hi := Nat.div_add_mod i L
  have hj := Nat.div_add_mod j L
  rcases Nat.lt_trichotomy (i / L) (j / L) with z | z | z
  · have := Nat.mul_le_mul_left L (show i / L + 1 ≤ j / L from z)
    rw [Nat.mul_add, Nat.mul_one] at this
    omega
  · rw [z] at hi
    omega
  · have := Nat.mul_le_mul_left L (show j / L + 1 ≤ i / L from z)
    rw [Nat.mul_add, Nat.mul_one] at this
    omega
section
variable {P : Nat → Nat} {L c : Nat} {T : Tb}
/-- the first time round: the edges behind the first one -/
theorem first (R : Rd P L) : ∀ i, i ≤ L → ∀ j, 1 ≤ j → j < i → lq (go P c T i) (P j) (P (j + 1)) c := by
  intro i
  induction i with
  | zero => intro _ j _ h; omega
  | succ i ih =>
    intro hi j h1 h2
    show lq (rl (go P c T i) (P i) (P (i + 1)) c) (P j) (P (j + 1)) c
    by_cases e : j = i
    · subst e; exact rl_edge
    · exact rl_keep (ih (by omega) j h1 (by omega)) (rl_other (R.ne (by omega) (by omega)))
theorem chain {T' : Tb} {n : Nat} (h : ∀ j, 1 ≤ j → j < n → lq T' (P j) (P (j + 1)) c) : ∀ d j, 1 ≤ j → j + d = n → lq T' (P j) (P n) (d * c) := by
  intro d
  induction d with
  | zero => intro j _ e; have : j = n := by omega
            subst this; exact lq.refl
  | succ d ih =>
    intro j h1 e
    have := (h j h1 (by omega)).trans (ih (j + 1) (by omega) (by omega))
    exact this.mono (by rw [Nat.add_mul]; omega)
/-- the second time round -/
structure Snd (P : Nat → Nat) (L c : Nat) (T : Tb) (m : Nat) : Prop where
  top : ∀ j, j < L → lq T (P j) (P 0) ((L - j) * c)
  low : ∀ j, j < m → lq T (P j) (P (j + 1)) c
  hi : ∀ j, m < j → j < L → lq T (P j) (P (j + 1)) c
theorem second0 (R : Rd P L) : Snd P L c (go P c T L) 0 := by
  have f := first (c := c) (T := T) R L (Nat.le_refl _)
  refine ⟨fun j hj => ?_, fun j h => by omega, fun j h1 h2 => f j h1 h2⟩
  by_cases e : j = 0
  · subst e; exact lq.refl
  · have := chain (c := c) f (L - j) j (by omega) (by omega)
    have e0 : P L = P 0 := by have := R.per 0; rwa [Nat.zero_add] at this
    rw [e0] at this
    exact this
theorem second (R : Rd P L) {T' : Tb} {m : Nat} (hm : m < L) (S : Snd P L c T' m) : Snd P L c (rl T' (P m) (P (m + 1)) c) (m + 1) := by
  have e0 : P L = P 0 := by have := R.per 0; rwa [Nat.zero_add] at this
  -- the first place keeps its value
  have k0 : rl T' (P m) (P (m + 1)) c (P 0) = T' (P 0) := by
    by_cases z : m + 1 = L
    · have : lq T' (P m) (P (m + 1)) c := by
        rw [z, e0]
        have := S.top m hm
        rw [show L - m = 1 by omega, Nat.one_mul] at this
        exact this
      exact rl_stay this _
    · exact rl_other (R.ne (by omega) (by omega))
  have keep : ∀ j, j < L → j ≠ m + 1 → rl T' (P m) (P (m + 1)) c (P j) = T' (P j) := by
    intro j hj hne
    by_cases z : j = 0
    · subst z; exact k0
    · rcases Nat.lt_or_ge j (m + 1) with w | w
      · exact rl_other (R.ne w (by omega))
      · exact rl_other (fun q => R.ne (show m + 1 < j by omega) (by omega) q.symm)
  refine ⟨fun j hj => ?_, fun j hj => ?_, fun j h1 h2 => ?_⟩
  · by_cases z : j = m + 1
    · subst z
      rcases rl_cases T' (P m) (P (m + 1)) c with h | ⟨v, hv, h⟩
      · exact rl_keep (S.top _ hj) h
      · intro w hw
        rw [h] at hw
        have hw' : v + c = w := by simpa using hw
        obtain ⟨u, hu, h1⟩ := S.top m hm v hv
        refine ⟨u, by rw [k0]; exact hu, ?_⟩
        have e : (L - m) * c = c + (L - (m + 1)) * c := by
          rw [show L - m = (L - (m + 1)) + 1 by omega, Nat.add_mul]
          omega
        omega
    · exact rl_keep (S.top j hj) (keep j hj z)
  · by_cases z : j = m
    · subst z; exact rl_edge
    · exact rl_keep (S.low j (by omega)) (keep j (by omega) (by omega))
  · exact rl_keep (S.hi j (by omega) h2) (keep j h2 (by omega))
theorem go_second (R : Rd P L) : ∀ m, m ≤ L → Snd P L c (go P c T (L + m)) m := by
  intro m
  induction m with
  | zero => intro _; exact second0 R
  | succ m ih =>
    intro hm
    have S := second R (by omega) (ih (by omega))
    have e1 : P (L + m) = P m := by rw [Nat.add_comm]; exact R.per m
    have e2 : P (L + m + 1) = P (m + 1) := by rw [show L + m + 1 = m + 1 + L by omega]; exact R.per (m + 1)
    show Snd P L c (rl (go P c T (L + m)) (P (L + m)) (P (L + m + 1)) c) (m + 1)
    rw [e1, e2]
    exact S
/-- behind two rounds nothing is left to do -/
theorem go_done (R : Rd P L) : ∀ j, j < L → lq (go P c T (2 * L)) (P j) (P (j + 1)) c := by
  have := (go_second (c := c) (T := T) R L (Nat.le_refl _)).low
  rw [show 2 * L = L + L by omega]
  exact this
/-- where it doesn't come by, nothing changes -/
theorem go_other {r : Nat} (h : ∀ j, P j ≠ r) : ∀ i, go P c T i r = T r := by
  intro i
  induction i with
  | zero => rfl
  | succ i ih => exact (rl_other (fun e => h (i + 1) e.symm)).trans ih
theorem go_mono {r v : Nat} (h : T r = some v) : ∀ i, ∃ u, go P c T i r = some u ∧ u ≤ v := by
  intro i
  induction i with
  | zero => exact ⟨v, h, Nat.le_refl _⟩
  | succ i ih =>
    obtain ⟨u, hu, h1⟩ := ih
    obtain ⟨x, hx, h2⟩ := rl_mono (p := P i) (q := P (i + 1)) (c := c) hu
    exact ⟨x, hx, by omega⟩
/-- a value is one of the first ones and some coins -/
theorem go_sound {n : Nat} (hP : ∀ j, P (j + 1) = (P j + c) % n) (hT : ∀ r v, T r = some v → r < n) : ∀ i r v, go P c T i r = some v → r < n ∧ ∃ k r0 v0, T r0 = some v0 ∧ v = v0 + k * c ∧ r = (r0 + k * c) % n := by
  intro i
  induction i with
  | zero => intro r v h; exact ⟨hT r v h, 0, r, v, h, by omega, by rw [Nat.zero_mul, Nat.add_zero, Nat.mod_eq_of_lt (hT r v h)]⟩
  | succ i ih =>
    intro r v h
    have h' : rl (go P c T i) (P i) (P (i + 1)) c r = some v := h
    by_cases e : r = P (i + 1)
    · subst e
      rcases rl_cases (go P c T i) (P i) (P (i + 1)) c with z | ⟨w, hw, z⟩
      · rw [z] at h'
        exact ih _ _ h'
      · rw [z] at h'
        have hv : w + c = v := by simpa using h'
        obtain ⟨h1, k, r0, v0, h2, h3, h4⟩ := ih _ _ hw
        refine ⟨by rw [hP]; exact Nat.mod_lt _ (by omega), k + 1, r0, v0, h2, by rw [Nat.add_mul]; omega, ?_⟩
        rw [hP, h4, Nat.mod_add_mod, Nat.add_mul, Nat.one_mul, Nat.add_assoc]
    · rw [rl_other e] at h'
      exact ih _ _ h'
end
end KC

namespace KC
theorem bez (m n : Nat) : ∃ x y : Int, (m : Int) * x + (n : Int) * y = ((Nat.gcd m n : Nat) : Int) := by
  induction m, n using Nat.gcd.induction with
  | H0 n => exact ⟨0, 1, by simp⟩
  | H1 m n hm ih =>
    obtain ⟨x, y, h⟩ := ih
    refine ⟨y - ((n / m : Nat) : Int) * x, x, ?_⟩
    rw [Nat.gcd_rec, ← h]
    have e : (n : Int) = (m : Int) * ((n / m : Nat) : Int) + ((n % m : Nat) : Int) := by
      have := Nat.div_add_mod n m
      exact_mod_cast this.symm
    rw [Int.mul_sub]
    have e2 : (n : Int) * x = (m : Int) * (((n / m : Nat) : Int) * x) + ((n % m : Nat) : Int) * x := by
      rw [← Int.mul_assoc, ← Int.add_mul, ← e]
    omega
theorem reach_gcd {n c : Nat} (hn : 0 < n) : ∃ j : Nat, (j * c) % n = Nat.gcd n c % n := by
  obtain ⟨x, y, h⟩ := bez n c
  refine ⟨(y % (n : Int)).toNat, ?_⟩
  have h0 : 0 ≤ y % (n : Int) := Int.emod_nonneg _ (by omega)
  have : (((y % (n : Int)).toNat * c : Nat) : Int) % (n : Int) = ((Nat.gcd n c : Nat) : Int) % (n : Int) := by
    rw [Int.natCast_mul, Int.toNat_of_nonneg h0, ← h, Int.mul_comm, Int.add_comm, Int.add_mul_emod_self_left]
    rw [Int.mul_emod, Int.emod_emod_of_dvd _ (Int.dvd_refl _), ← Int.mul_emod]
  exact_mod_cast this
def posn (n c s j : Nat) : Nat := (s + j * c) % n
theorem posn_succ (n c s j : Nat) : posn n c s (j + 1) = (posn n c s j + c) % n := by
  unfold posn
  rw [Nat.mod_add_mod, Nat.add_mul, Nat.one_mul, Nat.add_assoc]
theorem posn_rd {n c : Nat} (hn : 0 < n) (s : Nat) : Rd (posn n c s) (n / Nat.gcd n c) := by
  have hg : 0 < Nat.gcd n c := Nat.gcd_pos_of_pos_left c hn
  have hgn : Nat.gcd n c ∣ n := Nat.gcd_dvd_left n c
  have hgc : Nat.gcd n c ∣ c := Nat.gcd_dvd_right n c
  have hL : n / Nat.gcd n c * Nat.gcd n c = n := Nat.div_mul_cancel hgn
  have hc : c / Nat.gcd n c * Nat.gcd n c = c := Nat.div_mul_cancel hgc
  have key : n / Nat.gcd n c * c = n * (c / Nat.gcd n c) := by
    calc n / Nat.gcd n c * c = n / Nat.gcd n c * (c / Nat.gcd n c * Nat.gcd n c) := by rw [hc]
      _ = n / Nat.gcd n c * Nat.gcd n c * (c / Nat.gcd n c) := by rw [Nat.mul_comm (c / Nat.gcd n c), Nat.mul_assoc]
      _ = n * (c / Nat.gcd n c) := by rw [hL]
  have half : ∀ i j, i ≤ j → j < n / Nat.gcd n c → posn n c s i = posn n c s j → i = j := by
    intro i j hij hj e
    unfold posn at e
    have h1 : (s + j * c - (s + i * c)) % n = 0 := by
      have hle : s + i * c ≤ s + j * c := Nat.add_le_add_left (Nat.mul_le_mul_right c hij) s
      have hi := Nat.div_add_mod (s + i * c) n
      have hj := Nat.div_add_mod (s + j * c) n
      rw [e] at hi
      have hd : s + j * c - (s + i * c) = n * ((s + j * c) / n) - n * ((s + i * c) / n) := by omega
      rw [hd, ← Nat.mul_sub]
      exact Nat.mul_mod_right _ _
    have h2 : s + j * c - (s + i * c) = (j - i) * c := by
      rw [Nat.add_sub_add_left, ← Nat.sub_mul]
    rw [h2] at h1
    have h3 : n ∣ (j - i) * c := Nat.dvd_of_mod_eq_zero h1
    have h4 : n / Nat.gcd n c ∣ (j - i) * (c / Nat.gcd n c) := by
      obtain ⟨k, hk⟩ := h3
      refine ⟨k, ?_⟩
      have : ((j - i) * (c / Nat.gcd n c)) * Nat.gcd n c = (n / Nat.gcd n c * k) * Nat.gcd n c := by
        rw [Nat.mul_assoc, hc, hk, Nat.mul_right_comm, hL]
      exact Nat.eq_of_mul_eq_mul_right hg this
    have h5 : Nat.Coprime (n / Nat.gcd n c) (c / Nat.gcd n c) := Nat.coprime_div_gcd_div_gcd hg
    have h6 : n / Nat.gcd n c ∣ j - i := h5.dvd_of_dvd_mul_right h4
    rcases Nat.eq_zero_or_pos (j - i) with z | z
    · omega
    · have := Nat.le_of_dvd z h6
      omega
  refine ⟨fun j => ?_, fun i j hi hj e => ?_, Nat.div_pos (Nat.le_of_dvd hn hgn) hg⟩
  · unfold posn
    rw [Nat.add_mul, key, ← Nat.add_assoc, Nat.add_mul_mod_self_left]
  · rcases Nat.le_total i j with h | h
    · exact half i j h hj e
    · exact (half j i h hi e.symm).symm
theorem posn_cls {n c s : Nat} (hs : s < Nat.gcd n c) (j : Nat) : posn n c s j % Nat.gcd n c = s := by
  unfold posn
  rw [Nat.mod_mod_of_dvd _ (Nat.gcd_dvd_left n c)]
  rw [Nat.add_mod, Nat.mod_eq_zero_of_dvd (Nat.dvd_mul_left_of_dvd (Nat.gcd_dvd_right n c) j), Nat.add_zero, Nat.mod_mod, Nat.mod_eq_of_lt hs]
theorem posn_all {n c r : Nat} (hn : 0 < n) (hr : r < n) : ∃ j, posn n c (r % Nat.gcd n c) j = r := by
  obtain ⟨j, hj⟩ := reach_gcd (c := c) hn
  refine ⟨r / Nat.gcd n c * j, ?_⟩
  unfold posn
  have e : (r / Nat.gcd n c * j * c) % n = (r / Nat.gcd n c * Nat.gcd n c) % n := by
    rw [Nat.mul_assoc, Nat.mul_mod, hj, ← Nat.mul_mod]
  rw [Nat.add_mod, e, ← Nat.add_mod]
  have := Nat.div_add_mod r (Nat.gcd n c)
  rw [Nat.mul_comm] at this
  rw [Nat.add_comm, this, Nat.mod_eq_of_lt hr]
def puts (n c : Nat) (T : Tb) : Nat → Tb
  | 0 => T
  | s + 1 => go (posn n c s) c (puts n c T s) (2 * (n / Nat.gcd n c))
section
variable {n c : Nat} {T : Tb}
theorem puts_rest (hn : 0 < n) : ∀ s, s ≤ Nat.gcd n c → ∀ r, s ≤ r % Nat.gcd n c → puts n c T s r = T r := by
  intro s
  induction s with
  | zero => intro _ r _; rfl
  | succ s ih =>
    intro hs r hr
    refine (go_other (fun j e => ?_) _).trans (ih (by omega) r (by omega))
    have := posn_cls (n := n) (c := c) (s := s) (by omega) j
    rw [e] at this
    omega
theorem puts_mono {r v : Nat} (h : T r = some v) : ∀ s, ∃ u, puts n c T s r = some u ∧ u ≤ v := by
  intro s
  induction s with
  | zero => exact ⟨v, h, Nat.le_refl _⟩
  | succ s ih =>
    obtain ⟨u, hu, h1⟩ := ih
    obtain ⟨x, hx, h2⟩ := go_mono (P := posn n c s) (c := c) hu (2 * (n / Nat.gcd n c))
    exact ⟨x, hx, by omega⟩
theorem puts_sound (hT : ∀ r v, T r = some v → r < n) : ∀ s r v, puts n c T s r = some v → r < n ∧ ∃ k r0 v0, T r0 = some v0 ∧ v = v0 + k * c ∧ r = (r0 + k * c) % n := by
  intro s
  induction s with
  | zero => intro r v h; exact ⟨hT r v h, 0, r, v, h, by omega, by rw [Nat.zero_mul, Nat.add_zero, Nat.mod_eq_of_lt (hT r v h)]⟩
  | succ s ih =>
    intro r v h
    obtain ⟨h1, k, r1, v1, h2, h3, h4⟩ := go_sound (P := posn n c s) (posn_succ n c s) (fun r v h => (ih r v h).1) _ r v h
    obtain ⟨h5, k2, r0, v0, h6, h7, h8⟩ := ih _ _ h2
    refine ⟨h1, k + k2, r0, v0, h6, by rw [Nat.add_mul]; omega, ?_⟩
    rw [h4, h8, Nat.mod_add_mod, Nat.add_mul]
    congr 1
    omega
theorem puts_done (hn : 0 < n) : ∀ s, s ≤ Nat.gcd n c → ∀ r, r < n → r % Nat.gcd n c < s → lq (puts n c T s) r ((r + c) % n) c := by
  intro s
  induction s with
  | zero => intro _ r _ h; omega
  | succ s ih =>
    intro hs r hr h
    by_cases e : r % Nat.gcd n c = s
    · obtain ⟨j, hj⟩ := posn_all (c := c) hn hr
      rw [e] at hj
      have R := posn_rd (c := c) hn s
      have per : ∀ k m, posn n c s (m + k * (n / Nat.gcd n c)) = posn n c s m := by
        intro k
        induction k with
        | zero => intro m; simp
        | succ k ih => intro m; rw [Nat.add_mul, Nat.one_mul, ← Nat.add_assoc, R.per, ih]
      have e2 : posn n c s (j % (n / Nat.gcd n c)) = r := by
        have := per (j / (n / Nat.gcd n c)) (j % (n / Nat.gcd n c))
        rw [Nat.mul_comm, Nat.mod_add_div] at this
        rw [← this, hj]
      have := go_done (c := c) (T := puts n c T s) R _ (Nat.mod_lt j R.pos)
      rw [posn_succ, e2] at this
      exact this
    · have hk : ∀ x, x % Nat.gcd n c = r % Nat.gcd n c → puts n c T (s + 1) x = puts n c T s x := fun x hx =>
        go_other (fun j z => by
          have := posn_cls (n := n) (c := c) (s := s) (by omega) j
          rw [z, hx] at this
          exact e this) _
      have hx : ((r + c) % n) % Nat.gcd n c = r % Nat.gcd n c := by
        rw [Nat.mod_mod_of_dvd _ (Nat.gcd_dvd_left n c)]
        rw [Nat.add_mod, Nat.mod_eq_zero_of_dvd (Nat.gcd_dvd_right n c), Nat.add_zero, Nat.mod_mod]
      intro v hv
      rw [hk r rfl] at hv
      rw [hk _ hx]
      exact ih (by omega) r hr (by omega) v hv
end
/-- the least sums of the rests by n, of what these coins pay -/
structure Ok (n : Nat) (ks : List Nat) (T : Tb) : Prop where
  dom : ∀ r v, T r = some v → r < n
  zero : T 0 = some 0
  sound : ∀ r v, T r = some v → KL.Paid ks v ∧ v % n = r
  closed : ∀ d ∈ ks, ∀ r, r < n → lq T r ((r + d) % n) d
def T0 : Tb := fun r => if r = 0 then some 0 else none
theorem ok0 {n : Nat} (hn : 0 < n) : Ok n [] T0 := by
  have h : ∀ r v, T0 r = some v → r = 0 ∧ v = 0 := fun r v h => by
    unfold T0 at h
    by_cases z : r = 0
    · rw [if_pos z] at h; exact ⟨z, by simpa using h.symm⟩
    · rw [if_neg z] at h; cases h
  refine ⟨fun r v e => by rw [(h r v e).1]; exact hn, rfl, fun r v e => ?_, fun d hd => by cases hd⟩
  obtain ⟨rfl, rfl⟩ := h r v e
  exact ⟨.zero, Nat.zero_mod _⟩
theorem paid_many {ks : List Nat} {c v : Nat} (hc : c ∈ ks) (h : KL.Paid ks v) : ∀ k, KL.Paid ks (v + k * c) := by
  intro k
  induction k with
  | zero => simpa using h
  | succ k ih => rw [Nat.add_mul, Nat.one_mul, ← Nat.add_assoc]; exact .add hc ih
theorem lq_many {n c : Nat} {T : Tb} (hn : 0 < n) (h : ∀ r, r < n → lq T r ((r + c) % n) c) : ∀ k r, r < n → lq T r ((r + k * c) % n) (k * c) := by
  intro k
  induction k with
  | zero => intro r hr; rw [Nat.zero_mul, Nat.add_zero, Nat.mod_eq_of_lt hr]; exact lq.refl
  | succ k ih =>
    intro r hr
    have a := (ih r hr).trans (h _ (Nat.mod_lt _ hn))
    rw [Nat.mod_add_mod, Nat.add_assoc] at a
    rw [Nat.add_mul, Nat.one_mul]
    exact a
theorem ok_put {n c : Nat} {ks : List Nat} {T : Tb} (hn : 0 < n) (O : Ok n ks T) : Ok n (ks ++ [c]) (puts n c T (Nat.gcd n c)) := by
  have hg : 0 < Nat.gcd n c := Nat.gcd_pos_of_pos_left c hn
  have done := puts_done (c := c) (T := T) hn (Nat.gcd n c) (Nat.le_refl _)
  have snd := puts_sound (c := c) O.dom (Nat.gcd n c)
  have hc : ∀ r, r < n → lq (puts n c T (Nat.gcd n c)) r ((r + c) % n) c := fun r hr => done r hr (Nat.mod_lt _ hg)
  refine ⟨fun r v h => (snd r v h).1, ?_, fun r v h => ?_, fun d hd r hr v hv => ?_⟩
  · obtain ⟨u, hu, h1⟩ := puts_mono (n := n) (c := c) O.zero (Nat.gcd n c)
    rw [hu]
    congr 1
    omega
  · obtain ⟨_, k, r0, v0, h1, h2, h3⟩ := snd r v h
    obtain ⟨p, q⟩ := O.sound r0 v0 h1
    refine ⟨?_, ?_⟩
    · rw [h2]
      exact paid_many (by simp) (p.mono fun x hx => by simp [hx]) k
    · rw [h2, h3, ← q, Nat.mod_add_mod]
  · rcases List.mem_append.mp hd with hd | hd
    · obtain ⟨_, k, r0, v0, h1, h2, h3⟩ := snd r v hv
      obtain ⟨u, hu, h4⟩ := O.closed d hd r0 (O.dom _ _ h1) v0 h1
      obtain ⟨u', hu', h5⟩ := puts_mono (n := n) (c := c) hu (Nat.gcd n c)
      obtain ⟨w, hw, h6⟩ := lq_many hn hc k _ (Nat.mod_lt (r0 + d) hn) u' hu'
      refine ⟨w, ?_, by omega⟩
      rw [← hw]
      congr 1
      rw [h3, Nat.mod_add_mod, Nat.mod_add_mod]
      congr 1
      omega
    · have : d = c := by simpa using hd
      subst this
      exact hc r hr v hv
theorem ok_least {n : Nat} {ks : List Nat} {T : Tb} (hn : 0 < n) (O : Ok n ks T) {v : Nat} (h : KL.Paid ks v) : ∃ u, T (v % n) = some u ∧ u ≤ v := by
  induction h with
  | zero => exact ⟨0, by rw [Nat.zero_mod]; exact O.zero, Nat.le_refl _⟩
  | @add c m hc p ih =>
    obtain ⟨u, hu, h1⟩ := ih
    obtain ⟨w, hw, h2⟩ := O.closed c hc _ (Nat.mod_lt m hn) u hu
    rw [Nat.mod_add_mod] at hw
    exact ⟨w, hw, by omega⟩
end KC

/-! least sums: the table of all coins; how great they are -/
namespace KC
def tbl (n : Nat) (ks : List Nat) : Tb := ks.foldl (fun T c => puts n c T (Nat.gcd n c)) T0
theorem tbl_fold {n : Nat} (hn : 0 < n) : ∀ (cs ks : List Nat) (T : Tb), Ok n ks T → Ok n (ks ++ cs) (cs.foldl (fun T c => puts n c T (Nat.gcd n c)) T)
  | [], ks, T, h => by rw [List.append_nil]; exact h
  | c :: cs, ks, T, h => by
    have := tbl_fold hn cs (ks ++ [c]) _ (ok_put (c := c) hn h)
    rw [List.append_assoc] at this
    exact this
theorem ok_tbl {n : Nat} (hn : 0 < n) (ks : List Nat) : Ok n ks (tbl n ks) := tbl_fold hn ks [] T0 (ok0 hn)
theorem tbl_snoc (n : Nat) (ks : List Nat) (c : Nat) : tbl n (ks ++ [c]) = puts n c (tbl n ks) (Nat.gcd n c) := by
  unfold tbl
  rw [List.foldl_append]
  rfl
/-- whether a sum is reached, by the table of a coin of these -/
def hits (T : Tb) (r v : Nat) : Bool := match T r with
  | none => false
  | some u => decide (u ≤ v)
theorem hits_iff {n : Nat} {ks : List Nat} (hn : 0 < n) (hm : n ∈ ks) (v : Nat) : hits (tbl n ks) (v % n) v = true ↔ KL.Paid ks v := by
  have O := ok_tbl hn ks
  unfold hits
  constructor
  · intro h
    cases e : tbl n ks (v % n) with
    | none => rw [e] at h; cases h
    | some u =>
      rw [e] at h
      have hu : u ≤ v := by simpa using h
      obtain ⟨p, q⟩ := O.sound _ _ e
      have h1 := Nat.div_add_mod u n
      have h2 := Nat.div_add_mod v n
      have h3 : u / n ≤ v / n := Nat.div_le_div_right hu
      have h4 : v = u + (v / n - u / n) * n := by
        rw [Nat.sub_mul, Nat.mul_comm (v / n), Nat.mul_comm (u / n)]
        have := Nat.mul_le_mul_left n h3
        omega
      rw [h4]
      exact paid_many hm p _
  · intro p
    obtain ⟨u, hu, h1⟩ := ok_least hn O p
    rw [hu]
    simpa using h1
theorem hits_pd {n : Nat} {ks : List Nat} (hp : ∀ c ∈ ks, 0 < c) (hm : n ∈ ks) (v : Nat) : hits (tbl n ks) (v % n) v = KL.pd ks v := by
  rw [Bool.eq_iff_iff, hits_iff (hp n hm) hm, KL.pd_paid hp]
/-- how many rests have a lesser one -/
def rk (T : Tb) (v : Nat) : Nat → Nat
  | 0 => 0
  | m + 1 => rk T v m + (match T m with | none => 0 | some w => if w < v then 1 else 0)
theorem rk_mono {T : Tb} {v w : Nat} (h : v ≤ w) : ∀ m, rk T v m ≤ rk T w m
  | 0 => Nat.le_refl _
  | m + 1 => by
    have := rk_mono (T := T) h m
    unfold rk
    cases T m with
    | none => exact this
    | some x =>
      simp only
      split <;> split <;> omega
theorem rk_more {T : Tb} {v w r : Nat} (h : v < w) (hr : T r = some v) : ∀ m, r < m → rk T v m + 1 ≤ rk T w m
  | 0, h => by omega
  | m + 1, hm => by
    unfold rk
    by_cases e : r = m
    · subst e
      rw [hr]
      have := rk_mono (T := T) (Nat.le_of_lt h) r
      simp only
      rw [if_neg (by omega), if_pos h]
      omega
    · have := rk_more h hr m (by omega)
      cases T m with
      | none => exact this
      | some x =>
        simp only
        split <;> split <;> omega
theorem rk_le {T : Tb} (v : Nat) : ∀ m, rk T v m ≤ m
  | 0 => Nat.le_refl _
  | m + 1 => by
    have := rk_le (T := T) v m
    unfold rk
    cases T m with
    | none => exact Nat.le_succ_of_le this
    | some x =>
      simp only
      split <;> omega
theorem rk_lt {T : Tb} {v r : Nat} (hr : T r = some v) : ∀ m, r < m → rk T v m < m
  | 0, h => by omega
  | m + 1, hm => by
    unfold rk
    by_cases e : r = m
    · subst e
      rw [hr]
      have := rk_le (T := T) v r
      simp only
      rw [if_neg (by omega)]
      omega
    · have := rk_lt hr m (by omega)
      cases T m with
      | none => exact Nat.lt_succ_of_lt this
      | some x =>
        simp only
        split <;> omega
theorem paid_last {ks : List Nat} {v : Nat} (p : KL.Paid ks v) : v = 0 ∨ ∃ c ∈ ks, ∃ w, KL.Paid ks w ∧ v = w + c := by
  cases p with
  | zero => exact .inl rfl
  | @add c m hc p => exact .inr ⟨c, hc, m, p, rfl⟩
theorem ok_rank {n G : Nat} {ks : List Nat} {T : Tb} (hn : 0 < n) (hp : ∀ c ∈ ks, 0 < c) (hG : ∀ c ∈ ks, c ≤ G) (O : Ok n ks T) : ∀ v r, T r = some v → v ≤ rk T v n * G := by
  intro v
  induction v using Nat.strongRecOn with
  | ind v ih =>
    intro r hr
    obtain ⟨p, hmod⟩ := O.sound _ _ hr
    rcases paid_last p with z | ⟨c, hc, w, pw, e⟩
    · omega
    · have hc0 := hp c hc
      have hcG := hG c hc
      obtain ⟨u, hu, h1⟩ := ok_least hn O pw
      obtain ⟨x, hx, h2⟩ := O.closed c hc _ (Nat.mod_lt w hn) u hu
      rw [Nat.mod_add_mod, ← e, hmod, hr] at hx
      have hx' : v = x := by simpa using hx
      have hr' := Nat.mod_lt w hn
      have := ih u (by omega) _ hu
      have h3 := rk_more (T := T) (v := u) (w := v) (by omega) hu n hr'
      have h4 := Nat.mul_le_mul_right G h3
      rw [Nat.add_mul] at h4
      omega
theorem ok_bound {n G : Nat} {ks : List Nat} {T : Tb} (hn : 0 < n) (hp : ∀ c ∈ ks, 0 < c) (hG : ∀ c ∈ ks, c ≤ G) (hm : n ≤ G) (O : Ok n ks T) {v r : Nat} (h : T r = some v) : v ≤ G * G := by
  have h1 := ok_rank hn hp hG O v r h
  have h2 := rk_le (T := T) v n
  exact Nat.le_trans h1 (Nat.mul_le_mul_right G (by omega))
end KC

/-! least costs by rests: steps of any cost -/
namespace KD
open KC
theorem go_sound {P : Nat → Nat} {c e n : Nat} {T : Tb} (hP : ∀ j, P (j + 1) = (P j + c) % n) (hT : ∀ r v, T r = some v → r < n) : ∀ i r v, go P e T i r = some v → r < n ∧ ∃ k r0 v0, T r0 = some v0 ∧ v = v0 + k * e ∧ r = (r0 + k * c) % n := by
  intro i
  induction i with
  | zero => intro r v h; exact ⟨hT r v h, 0, r, v, h, by omega, by rw [Nat.zero_mul, Nat.add_zero, Nat.mod_eq_of_lt (hT r v h)]⟩
  | succ i ih =>
    intro r v h
    have h' : rl (go P e T i) (P i) (P (i + 1)) e r = some v := h
    by_cases z : r = P (i + 1)
    · subst z
      rcases rl_cases (go P e T i) (P i) (P (i + 1)) e with w | ⟨x, hx, w⟩
      · rw [w] at h'; exact ih _ _ h'
      · rw [w] at h'
        have ev : x + e = v := by simpa using h'
        obtain ⟨h1, k, r0, v0, h2, h3, h4⟩ := ih _ _ hx
        refine ⟨by rw [hP]; exact Nat.mod_lt _ (by omega), k + 1, r0, v0, h2, by rw [Nat.add_mul]; omega, ?_⟩
        rw [hP, h4, Nat.mod_add_mod, Nat.add_mul, Nat.one_mul, Nat.add_assoc]
    · rw [rl_other z] at h'; exact ih _ _ h'
def puts (n c e : Nat) (T : Tb) : Nat → Tb
  | 0 => T
  | s + 1 => go (posn n c s) e (puts n c e T s) (2 * (n / Nat.gcd n c))
theorem puts_one (n c : Nat) (T : Tb) : ∀ s, puts n c c T s = KC.puts n c T s
  | 0 => rfl
  | s + 1 => by
    show go (posn n c s) c (puts n c c T s) _ = go (posn n c s) c (KC.puts n c T s) _
    rw [puts_one n c T s]
section
variable {n c e : Nat} {T : Tb}
theorem puts_mono {r v : Nat} (h : T r = some v) : ∀ s, ∃ u, puts n c e T s r = some u ∧ u ≤ v := by
  intro s
  induction s with
  | zero => exact ⟨v, h, Nat.le_refl _⟩
  | succ s ih =>
    obtain ⟨u, hu, h1⟩ := ih
    obtain ⟨x, hx, h2⟩ := go_mono (P := posn n c s) (c := e) hu (2 * (n / Nat.gcd n c))
    exact ⟨x, hx, by omega⟩
theorem puts_sound (hT : ∀ r v, T r = some v → r < n) : ∀ s r v, puts n c e T s r = some v → r < n ∧ ∃ k r0 v0, T r0 = some v0 ∧ v = v0 + k * e ∧ r = (r0 + k * c) % n := by
  intro s
  induction s with
  | zero => intro r v h; exact ⟨hT r v h, 0, r, v, h, by omega, by rw [Nat.zero_mul, Nat.add_zero, Nat.mod_eq_of_lt (hT r v h)]⟩
  | succ s ih =>
    intro r v h
    obtain ⟨h1, k, r1, v1, h2, h3, h4⟩ := go_sound (P := posn n c s) (posn_succ n c s) (fun r v h => (ih r v h).1) _ r v h
    obtain ⟨h5, k2, r0, v0, h6, h7, h8⟩ := ih _ _ h2
    refine ⟨h1, k + k2, r0, v0, h6, by rw [Nat.add_mul]; omega, ?_⟩
    rw [h4, h8, Nat.mod_add_mod, Nat.add_mul]
    congr 1
    omega
theorem puts_done (hn : 0 < n) : ∀ s, s ≤ Nat.gcd n c → ∀ r, r < n → r % Nat.gcd n c < s → lq (puts n c e T s) r ((r + c) % n) e := by
  intro s
  induction s with
  | zero => intro _ r _ h; omega
  | succ s ih =>
    intro hs r hr h
    by_cases z : r % Nat.gcd n c = s
    · obtain ⟨j, hj⟩ := posn_all (c := c) hn hr
      rw [z] at hj
      have R := posn_rd (c := c) hn s
      have per : ∀ k m, posn n c s (m + k * (n / Nat.gcd n c)) = posn n c s m := by
        intro k
        induction k with
        | zero => intro m; simp
        | succ k ih => intro m; rw [Nat.add_mul, Nat.one_mul, ← Nat.add_assoc, R.per, ih]
      have e2 : posn n c s (j % (n / Nat.gcd n c)) = r := by
        have := per (j / (n / Nat.gcd n c)) (j % (n / Nat.gcd n c))
        rw [Nat.mul_comm, Nat.mod_add_div] at this
        rw [← this, hj]
      have := go_done (c := e) (T := puts n c e T s) R _ (Nat.mod_lt j R.pos)
      rw [posn_succ, e2] at this
      exact this
    · have hk : ∀ x, x % Nat.gcd n c = r % Nat.gcd n c → puts n c e T (s + 1) x = puts n c e T s x := fun x hx =>
        go_other (fun j w => by
          have := posn_cls (n := n) (c := c) (s := s) (by omega) j
          rw [w, hx] at this
          exact z this) _
      have hx : ((r + c) % n) % Nat.gcd n c = r % Nat.gcd n c := by
        rw [Nat.mod_mod_of_dvd _ (Nat.gcd_dvd_left n c)]
        rw [Nat.add_mod, Nat.mod_eq_zero_of_dvd (Nat.gcd_dvd_right n c), Nat.add_zero, Nat.mod_mod]
      intro v hv
      rw [hk r rfl] at hv
      rw [hk _ hx]
      exact ih (by omega) r hr (by omega) v hv
end
/-- steps that come to s, and cost v -/
inductive Rea (ks : List (Nat × Nat)) : Nat → Nat → Prop
  | zero : Rea ks 0 0
  | add {c e s v : Nat} (h : (c, e) ∈ ks) (p : Rea ks s v) : Rea ks (s + c) (v + e)
theorem Rea.mono {ks ls : List (Nat × Nat)} (h : ∀ x ∈ ks, x ∈ ls) {s v : Nat} (p : Rea ks s v) : Rea ls s v := by
  induction p with
  | zero => exact .zero
  | add hc _ ih => exact .add (h _ hc) ih
theorem rea_many {ks : List (Nat × Nat)} {c e s v : Nat} (hc : (c, e) ∈ ks) (h : Rea ks s v) : ∀ k, Rea ks (s + k * c) (v + k * e) := by
  intro k
  induction k with
  | zero => simpa using h
  | succ k ih => rw [Nat.add_mul, Nat.one_mul, ← Nat.add_assoc, Nat.add_mul, Nat.one_mul, ← Nat.add_assoc]; exact .add hc ih
/-- the least costs of the rests by n -/
structure Ok (n : Nat) (ks : List (Nat × Nat)) (T : Tb) : Prop where
  dom : ∀ r v, T r = some v → r < n
  zero : T 0 = some 0
  sound : ∀ r v, T r = some v → ∃ s, Rea ks s v ∧ s % n = r
  closed : ∀ d ∈ ks, ∀ r, r < n → lq T r ((r + d.1) % n) d.2
theorem ok0 {n : Nat} (hn : 0 < n) : Ok n [] T0 := by
  have h : ∀ r v, T0 r = some v → r = 0 ∧ v = 0 := fun r v h => by
    unfold T0 at h
    by_cases z : r = 0
    · rw [if_pos z] at h; exact ⟨z, by simpa using h.symm⟩
    · rw [if_neg z] at h; cases h
  refine ⟨fun r v e => by rw [(h r v e).1]; exact hn, rfl, fun r v e => ?_, fun d hd => by cases hd⟩
  obtain ⟨rfl, rfl⟩ := h r v e
  exact ⟨0, .zero, Nat.zero_mod _⟩
theorem lq_many {n c e : Nat} {T : Tb} (hn : 0 < n) (h : ∀ r, r < n → lq T r ((r + c) % n) e) : ∀ k r, r < n → lq T r ((r + k * c) % n) (k * e) := by
  intro k
  induction k with
  | zero => intro r hr; rw [Nat.zero_mul, Nat.zero_mul, Nat.add_zero, Nat.mod_eq_of_lt hr]; exact lq.refl
  | succ k ih =>
    intro r hr
    have a := (ih r hr).trans (h _ (Nat.mod_lt _ hn))
    rw [Nat.mod_add_mod, Nat.add_assoc] at a
    rw [Nat.add_mul, Nat.one_mul, Nat.add_mul, Nat.one_mul]
    exact a
theorem ok_put {n c e : Nat} {ks : List (Nat × Nat)} {T : Tb} (hn : 0 < n) (O : Ok n ks T) : Ok n (ks ++ [(c, e)]) (puts n c e T (Nat.gcd n c)) := by
  have hg : 0 < Nat.gcd n c := Nat.gcd_pos_of_pos_left c hn
  have done := puts_done (c := c) (e := e) (T := T) hn (Nat.gcd n c) (Nat.le_refl _)
  have snd := puts_sound (c := c) (e := e) O.dom (Nat.gcd n c)
  have hc : ∀ r, r < n → lq (puts n c e T (Nat.gcd n c)) r ((r + c) % n) e := fun r hr => done r hr (Nat.mod_lt _ hg)
  refine ⟨fun r v h => (snd r v h).1, ?_, fun r v h => ?_, fun d hd r hr v hv => ?_⟩
  · obtain ⟨u, hu, h1⟩ := puts_mono (n := n) (c := c) (e := e) O.zero (Nat.gcd n c)
    rw [hu]
    congr 1
    omega
  · obtain ⟨_, k, r0, v0, h1, h2, h3⟩ := snd r v h
    obtain ⟨s, p, q⟩ := O.sound r0 v0 h1
    refine ⟨s + k * c, ?_, ?_⟩
    · rw [h2]
      exact rea_many (by simp) (p.mono fun x hx => by simp [hx]) k
    · rw [h3, ← q, Nat.mod_add_mod]
  · rcases List.mem_append.mp hd with hd | hd
    · obtain ⟨_, k, r0, v0, h1, h2, h3⟩ := snd r v hv
      obtain ⟨u, hu, h4⟩ := O.closed d hd r0 (O.dom _ _ h1) v0 h1
      obtain ⟨u', hu', h5⟩ := puts_mono (n := n) (c := c) (e := e) hu (Nat.gcd n c)
      obtain ⟨w, hw, h6⟩ := lq_many hn hc k _ (Nat.mod_lt (r0 + d.1) hn) u' hu'
      refine ⟨w, ?_, by omega⟩
      rw [← hw]
      congr 1
      rw [h3, Nat.mod_add_mod, Nat.mod_add_mod]
      congr 1
      omega
    · have : d = (c, e) := by simpa using hd
      subst this
      exact hc r hr v hv
theorem ok_least {n : Nat} {ks : List (Nat × Nat)} {T : Tb} (hn : 0 < n) (O : Ok n ks T) {s v : Nat} (h : Rea ks s v) : ∃ u, T (s % n) = some u ∧ u ≤ v := by
  induction h with
  | zero => exact ⟨0, by rw [Nat.zero_mod]; exact O.zero, Nat.le_refl _⟩
  | @add c e m x hc p ih =>
    obtain ⟨u, hu, h1⟩ := ih
    obtain ⟨w, hw, h2⟩ := O.closed _ hc _ (Nat.mod_lt m hn) u hu
    rw [Nat.mod_add_mod] at hw
    exact ⟨w, hw, by omega⟩
def tbl (n : Nat) (ks : List (Nat × Nat)) : Tb := ks.foldl (fun T d => puts n d.1 d.2 T (Nat.gcd n d.1)) T0
theorem tbl_fold {n : Nat} (hn : 0 < n) : ∀ (cs ks : List (Nat × Nat)) (T : Tb), Ok n ks T → Ok n (ks ++ cs) (cs.foldl (fun T d => puts n d.1 d.2 T (Nat.gcd n d.1)) T)
  | [], ks, T, h => by simpa using h
  | c :: cs, ks, T, h => by
    have := tbl_fold hn cs (ks ++ [c]) _ (ok_put (c := c.1) (e := c.2) hn h)
    simpa using this
theorem ok_tbl {n : Nat} (hn : 0 < n) (ks : List (Nat × Nat)) : Ok n ks (tbl n ks) := by
  have := tbl_fold hn ks [] T0 (ok0 hn)
  rwa [List.nil_append] at this
theorem tbl_snoc (n : Nat) (ks : List (Nat × Nat)) (d : Nat × Nat) : tbl n (ks ++ [d]) = puts n d.1 d.2 (tbl n ks) (Nat.gcd n d.1) := by
  unfold tbl
  rw [List.foldl_append]
  rfl
theorem tbl_one (n : Nat) (ks : List Nat) : tbl n (ks.map fun c => (c, c)) = KC.tbl n ks := by
  unfold tbl KC.tbl
  have key : ∀ (ks : List Nat) (T : Tb), (ks.map fun c => (c, c)).foldl (fun T d => puts n d.1 d.2 T (Nat.gcd n d.1)) T = ks.foldl (fun T c => KC.puts n c T (Nat.gcd n c)) T := by
    intro ks
    induction ks with
    | nil => intro T; rfl
    | cons c ks ih =>
      intro T
      rw [List.map_cons, List.foldl_cons, List.foldl_cons, ih]
      show List.foldl _ (puts n c c T (Nat.gcd n c)) ks = _
      rw [puts_one]
  exact key ks T0
end KD

namespace Kx
open PySem L2 MG KM
def optV : Option Nat → V
  | none => .non
  | some n => .int n
def tabO (n : Nat) (T : KC.Tb) : List V := (List.range n).map fun i => optV (T i)
theorem tabO_len {n : Nat} {f : KC.Tb} : (tabO n f).length = n := by simp [tabO]
theorem tabO_at {n i : Nat} {f : KC.Tb} (h : i < n) : (tabO n f)[i]? = some (optV (f i)) := by simp [tabO, h]
theorem tabO_congr {n : Nat} {f g : KC.Tb} (h : ∀ i, i < n → f i = g i) : tabO n f = tabO n g := by
  apply List.map_congr_left
  intro i hi
  rw [h i (List.mem_range.mp hi)]
theorem tabO_set {n i : Nat} {f : KC.Tb} {v : Option Nat} : (tabO n f).set i (optV v) = tabO n (fun j => if j = i then v else f j) := by
  apply List.ext_getElem?
  intro j
  rw [List.getElem?_set, tabO_len]
  by_cases hj : j < n
  · rw [tabO_at (f := fun j => if j = i then v else f j) hj, tabO_at (f := f) hj]
    by_cases e : i = j
    · rw [if_pos e, if_pos (by omega), if_pos e.symm]
    · rw [if_neg e, if_neg (fun z => e z.symm)]
  · have h1 : (tabO n fun j => if j = i then v else f j)[j]? = none := by
      rw [List.getElem?_eq_none_iff, tabO_len]; omega
    have h2 : (tabO n f)[j]? = none := by
      rw [List.getElem?_eq_none_iff, tabO_len]; omega
    rw [h1, h2]
    by_cases e : i = j
    · rw [if_pos e, if_neg (by omega)]
    · rw [if_neg e]
theorem tabO_rl {n p q c : Nat} {T : KC.Tb} {v : Nat} (h : KC.bst T p q c = some v) : (tabO n T).set q (.int (v : Nat)) = tabO n (KC.rl T p q c) := by
  have := tabO_set (n := n) (i := q) (f := T) (v := some v)
  refine this.trans (tabO_congr fun i _ => ?_)
  unfold KC.rl
  rw [h]
theorem tabO_stay {n p q c : Nat} {T : KC.Tb} (h : KC.bst T p q c = T q) : tabO n T = tabO n (KC.rl T p q c) := by
  refine tabO_congr fun i _ => ?_
  unfold KC.rl
  by_cases e : i = q
  · rw [if_pos e, h, e]
  · rw [if_neg e]
theorem tabO_t0 (g : Nat) : ([V.int 0] ++ List.replicate g V.non) = tabO (g + 1) KC.T0 := by
  apply List.ext_getElem?
  intro j
  by_cases hj : j < g + 1
  · rw [tabO_at hj]
    cases j with
    | zero => rfl
    | succ j =>
      rw [show ([V.int 0] ++ List.replicate g V.non)[j + 1]? = (List.replicate g V.non)[j]? from rfl, List.getElem?_replicate, if_pos (by omega)]
      rfl
  · rw [List.getElem?_eq_none (by simp; omega), List.getElem?_eq_none (by rw [tabO_len]; omega)]
theorem natL_pos {cs : List Int} (h : ∀ c ∈ cs, 1 ≤ c ∧ c ≤ 60) : ∀ c ∈ natL cs, 0 < c := fun c hc => by
  obtain ⟨d, hd, rfl⟩ := List.mem_map.mp hc
  have := h d hd
  omega
theorem natL_mem {cs : List Int} {n : Nat} (h : (n : Int) ∈ cs) : n ∈ natL cs := List.mem_map.mpr ⟨_, h, by simp⟩
theorem inV_int {cs : List Int} {k : Int} (h : k ∈ cs) : inV (.int k) (cs.map V.int) = true := by
  unfold inV
  rw [List.any_eq_true]
  exact ⟨.int k, List.mem_map.mpr ⟨k, h, rfl⟩, by show (k == k) = true; simp⟩
theorem posn_lt {n c s : Nat} (hn : 1 ≤ n) (i : Nat) : KC.posn n c s i < n := Nat.mod_lt _ hn
theorem posn_zero {n c s : Nat} (h : s < n) : KC.posn n c s 0 = s := by
  unfold KC.posn
  rw [Nat.zero_mul, Nat.add_zero, Nat.mod_eq_of_lt h]
theorem posn_int (n c s i : Nat) : (((KC.posn n c s i : Nat) : Int) + (c : Int)) % (n : Int) = ((KC.posn n c s (i + 1) : Nat) : Int) := by
  rw [KC.posn_succ]
  rfl
/-- the first sums found so far -/
def FirstOf (T : KC.Tb) (i b : Nat) (ms : List Int) : Prop := match T i with
  | none => ms = []
  | some v => if v < b then ms[0]? = some (v : Int) else ms = []
theorem first_step {n i j : Nat} {ks : List Nat} (hp : ∀ c ∈ ks, 0 < c) (hm : n ∈ ks) (hi : i < n) {ms : List Int} (h : FirstOf (KC.tbl n ks) i (i + j * n) ms) :
    FirstOf (KC.tbl n ks) i (i + (j + 1) * n) (if KL.pd ks (i + j * n) = true then ms ++ [((i + j * n : Nat) : Int)] else ms) := by
  have hn := hp n hm
  have O := KC.ok_tbl hn ks
  have hmod : ∀ k, (i + k * n) % n = i := fun k => by rw [Nat.add_mul_mod_self_right, Nat.mod_eq_of_lt hi]
  have hsucc : (j + 1) * n = j * n + n := by rw [Nat.add_mul, Nat.one_mul]
  -- a sum of this rest is either ahead of the next one or behind this one
  have key : ∀ v, KC.tbl n ks i = some v → v < i + (j + 1) * n → v < i + j * n ∨ v = i + j * n := fun v hv hlt => by
    have hr := (O.sound i v hv).2
    have h1 := Nat.div_add_mod v n
    rw [hr] at h1
    by_cases h2 : v / n ≤ j
    · have := Nat.mul_le_mul_left n h2
      rw [Nat.mul_comm n j] at this
      omega
    · have := Nat.mul_le_mul_left n (show j + 1 ≤ v / n by omega)
      rw [Nat.mul_comm n (j + 1)] at this
      omega
  unfold FirstOf at h ⊢
  cases e : KC.tbl n ks i with
  | none =>
    rw [e] at h
    have h' : ms = [] := h
    show (if KL.pd ks (i + j * n) = true then ms ++ [((i + j * n : Nat) : Int)] else ms) = []
    by_cases z : KL.pd ks (i + j * n) = true
    · obtain ⟨u, hu, _⟩ := KC.ok_least hn O (KL.paid_of _ z)
      rw [hmod, e] at hu
      cases hu
    · rw [if_neg z]; exact h'
  | some v =>
    rw [e] at h
    have h' : if v < i + j * n then ms[0]? = some (v : Int) else ms = [] := h
    show if v < i + (j + 1) * n then _ else _
    by_cases c1 : v < i + j * n
    · rw [if_pos c1] at h'
      rw [if_pos (by omega)]
      split
      · rw [List.getElem?_append_left (by
          have := (List.getElem?_eq_some_iff.mp h').1
          omega)]
        exact h'
      · exact h'
    · rw [if_neg c1] at h'
      subst h'
      by_cases c2 : v = i + j * n
      · have hpd : KL.pd ks (i + j * n) = true := KL.pd_of hp (by rw [← c2]; exact (O.sound i v e).1)
        rw [if_pos (by omega), if_pos hpd, c2]
        rfl
      · rw [if_neg (fun z => by have := key v e z; omega)]
        split
        · rename_i z
          obtain ⟨u, hu, h1⟩ := KC.ok_least hn O (KL.paid_of _ z)
          rw [hmod, e] at hu
          cases hu
          omega
        · rfl
theorem first_end {n i G : Nat} {ks : List Nat} (hp : ∀ c ∈ ks, 0 < c) (hm : n ∈ ks) (hG : ∀ c ∈ ks, c ≤ G) (hi : i < n) {ms : List Int} (h : FirstOf (KC.tbl n ks) i (i + ((G * G + 1 - i - 1) / n + 1) * n) ms) :
    (KC.tbl n ks i = none ∧ ms = []) ∨ ∃ v : Nat, KC.tbl n ks i = some v ∧ ms[0]? = some (v : Int) := by
  have hn := hp n hm
  have O := KC.ok_tbl hn ks
  unfold FirstOf at h
  cases e : KC.tbl n ks i with
  | none => rw [e] at h; exact .inl ⟨rfl, h⟩
  | some v =>
    rw [e] at h
    have hb := KC.ok_bound hn hp hG (hG n hm) O e
    have hlt : v < i + ((G * G + 1 - i - 1) / n + 1) * n := by
      have h1 := Nat.div_add_mod (G * G + 1 - i - 1) n
      have h2 := Nat.mod_lt (G * G + 1 - i - 1) hn
      rw [Nat.add_mul, Nat.one_mul, Nat.mul_comm _ n]
      omega
    have h' : if v < i + ((G * G + 1 - i - 1) / n + 1) * n then ms[0]? = some (v : Int) else ms = [] := h
    rw [if_pos hlt] at h'
    exact .inr ⟨v, rfl, h'⟩
theorem tabO_succ {n : Nat} {f : KC.Tb} : tabO (n + 1) f = tabO n f ++ [optV (f n)] := by
  unfold tabO
  rw [List.range_succ, List.map_append]
  rfl
/-- the sums to ask for, all of one rest -/
def R_great : L2.St → Hp → L2.St → Hp → Prop := fun σ H σ' H' => ∃ (pf : Addr) (fs : List Int), σ' = σ.set 6 (some (.ref pf)) ∧ H' pf = some (.lst (fs.map V.int)) ∧ Same H H' ∧ fs.length ≤ 4 ∧ (∀ b : Addr, σ[0]? = some (some (.ref b)) → Bw H b → pf ≠ b) ∧
  ∀ n k : Nat, σ[2]? = some (some (.int n)) → σ[5]? = some (some (.int k)) → ∀ x ∈ fs, ∃ a : Nat, x = a ∧ a ≤ 10 ^ 30 ∧ a % n = k
theorem big_ok {n k : Nat} {r : Int} (hn : 1 ≤ n) (hn60 : n ≤ 60) (hk : k < n) (h0 : 0 ≤ r) (h1 : r < 1000000000) : ∃ a : Nat, (1000000000000000000000000000000 - r) / (n : Int) * (n : Int) - (n : Int) + (k : Int) = a ∧ a ≤ 10 ^ 30 ∧ a % n = k := by
  obtain ⟨N, hN⟩ : ∃ N : Nat, 1000000000000000000000000000000 - r = N := ⟨(1000000000000000000000000000000 - r).toNat, by omega⟩
  rw [hN]
  have hd := Nat.div_mul_le_self N n
  have hq : 1 ≤ N / n := Nat.div_pos (by omega) (by omega)
  have e : N / n * n = (N / n - 1) * n + n := by
    rw [Nat.sub_mul, Nat.one_mul]
    have := Nat.mul_le_mul_right n hq
    omega
  refine ⟨(N / n - 1) * n + k, ?_, by omega, ?_⟩
  · have e2 : ((N / n * n : Nat) : Int) = (((N / n - 1) * n : Nat) : Int) + n := by rw [e, Int.natCast_add]
    have e3 : (N : Int) / (n : Int) * (n : Int) = ((N / n * n : Nat) : Int) := rfl
    rw [e3, e2]
    omega
  · rw [Nat.add_comm, Nat.add_mul_mod_self_right, Nat.mod_eq_of_lt hk]
theorem r_great_of {b p qd pf pg : Addr} {n i k : Nat} {v7 v8 : Option V} {H H' : Hp} {fs : List Int} (hpf : H' pf = some (.lst (fs.map V.int))) (s : Same H H') (hl : fs.length ≤ 4) (hb : Bw H b → pf ≠ b) (hfs : ∀ x ∈ fs, ∃ a : Nat, x = a ∧ a ≤ 10 ^ 30 ∧ a % n = k) :
    R_great [some (.ref b), some (.ref p), some (.int n), some (.ref qd), some (.int i), some (.int k), some (.ref pg), v7, v8] H [some (.ref b), some (.ref p), some (.int n), some (.ref qd), some (.int i), some (.int k), some (.ref pf), v7, v8] H' := by
  refine ⟨pf, fs, rfl, hpf, s, hl, fun b' e h => ?_, fun n' k' e1 e2 x hx => ?_⟩
  · have : b = b' := by simpa using e
    subst this
    exact hb h
  · have e1' : n = n' := by
      have : (n : Int) = n' := by simpa using e1
      omega
    have e2' : k = k' := by
      have : (k : Int) = k' := by simpa using e2
      omega
    subst e1'
    subst e2'
    exact hfs x hx
theorem shw_bb (x y : Bool) : Shw 16000000 90 (.list [.bool x, .bool y]) := by
  have hall : ∀ d ∈ [PyData.bool x, PyData.bool y], Shw 200002 1 d := fun d hd => by
    simp only [List.mem_cons, List.not_mem_nil, or_false] at hd
    rcases hd with rfl | rfl
    · exact shw_bool.mono (by decide) (by decide)
    · exact shw_bool.mono (by decide) (by decide)
  exact (shw_list (m := 2) hall (by simp)).mono (by decide) (by decide)
def datB (n : Nat) (f : Nat → Bool) : List PyData := (List.range n).map fun i => .bool (f i)
theorem dpB {K : PySem.W.Frag} {H : Hp} (f : Nat → Bool) : ∀ xs : List Nat, DpAll K H (xs.map fun i => V.bl (f i)) (xs.map fun i => PyData.bool (f i))
  | [] => .nil
  | n :: ns => .cons (.bl _) (dpB f ns)
theorem dp_tabB {K : PySem.W.Frag} {H : Hp} {a : Addr} {n : Nat} {f : Nat → Bool} (h : H a = some (.lst (tabB n f))) : Dp K H (.ref a) (.list (datB n f)) := .lst (.inl (.inl h)) (dpB f _)
theorem shw_tabB {n : Nat} {f : Nat → Bool} (h : n ≤ 200) : Shw 16000000 90 (.list (datB n f)) := by
  have hall : ∀ d ∈ datB n f, Shw 5 0 d := fun d hd => by
    obtain ⟨i, _, rfl⟩ := List.mem_map.mp hd
    exact shw_bool
  exact (shw_list (m := 200) hall (by simpa [datB] using h)).mono (by decide) (by decide)
theorem tabB_take {n k : Nat} {f : Nat → Bool} (h : k ≤ n) : (tabB n f).take k = tabB k f := by
  unfold tabB
  rw [← List.map_take, List.take_range, Nat.min_eq_left h]
def optD : Option Nat → PyData
  | none => .none
  | some n => .int n
def datO (n : Nat) (T : KC.Tb) : List PyData := (List.range n).map fun i => optD (T i)
theorem dpO {K : PySem.W.Frag} {H : Hp} (T : KC.Tb) : ∀ xs : List Nat, DpAll K H (xs.map fun i => optV (T i)) (xs.map fun i => optD (T i))
  | [] => .nil
  | n :: ns => by
    refine .cons ?_ (dpO T ns)
    show Dp K H (optV (T n)) (optD (T n))
    cases T n with
    | none => exact .non
    | some u => exact .int _
theorem dp_tabO {K : PySem.W.Frag} {H : Hp} {a : Addr} {n : Nat} {f : KC.Tb} (h : H a = some (.tup (tabO n f))) : Dp K H (.ref a) (.tuple (datO n f)) := .tup (.inl (.inl h)) (dpO f _)
theorem shw_tabO {n : Nat} {f : KC.Tb} (h : n ≤ 60) (hf : ∀ i u, f i = some u → u ≤ 3600) : Shw 60183 1 (.tuple (datO n f)) := by
  have hall : ∀ d ∈ datO n f, Shw 1001 0 d := fun d hd => by
    obtain ⟨i, _, rfl⟩ := List.mem_map.mp hd
    cases e : f i with
    | none => exact ⟨rfl, rfl, Nat.le_refl _, by decide⟩
    | some u =>
      have := hf i u e
      exact shw_int (Nat.lt_of_le_of_lt (show ((u : Nat) : Int).natAbs ≤ 3600 by omega) (by decide))
  exact (shw_tuple (m := 60) hall (by simpa [datO] using h)).mono (by decide) (by decide)
theorem shw_two {n : Nat} {f : KC.Tb} (h : n ≤ 60) (hf : ∀ i u, f i = some u → u ≤ 3600) : Shw 16000000 90 (.list [.tuple (datO n f), .tuple (datO n f)]) := by
  have hall : ∀ d ∈ [PyData.tuple (datO n f), PyData.tuple (datO n f)], Shw 60183 1 d := fun d hd => by
    simp only [List.mem_cons, List.not_mem_nil, or_false, or_self] at hd
    subst hd
    exact shw_tabO h hf
  exact (shw_list (m := 2) hall (by simp)).mono (by decide) (by decide)
/-! promises -/
def sp_check_amount : Sp := fun vs H Q _ => ∃ n : Int, vs = [.int n] ∧ 0 ≤ n ∧ n ≤ 10 ^ 30 ∧ Q .non H
/-- a step that leads on as c does -/
structure Stp (n : Nat) (st : Int) (c : Nat) : Prop where
  small : st.natAbs ≤ 60
  nz : st ≠ 0
  mod : ∀ x : Nat, ((x : Int) + st) % (n : Int) = (((x + c) % n : Nat) : Int)
  gcd : Nat.gcd n st.natAbs = Nat.gcd n c
theorem stp_pos {n c : Nat} (h1 : 1 ≤ c) (h : c ≤ 60) : Stp n (c : Int) c := ⟨by omega, by omega, fun x => rfl, by rw [Int.natAbs_natCast]⟩
def sp_put_step : Sp := fun vs H Q _ => ∃ (t : Addr) (st : Int) (c e n : Nat) (T : KC.Tb), vs = [.ref t, .int st, .int e] ∧ H t = some (.lst (tabO n T)) ∧ 1 ≤ n ∧ n ≤ 60 ∧ Stp n st c ∧ e ≤ 1000 ∧
  ∀ H', But t H H' → H' t = some (.lst (tabO n (KD.puts n c e T (Nat.gcd n c)))) → Q .non H'
/-- a list of steps with their costs -/
def Steps (H : Hp) (l : Addr) (n : Nat) (ks : List (Nat × Nat)) : Prop := ∃ ps : List Addr, H l = some (.lst (ps.map V.ref)) ∧ ps.length = ks.length ∧ ∀ (i : Nat) (p : Addr), ps[i]? = some p → ∃ (st : Int) (c e : Nat), ks[i]? = some (c, e) ∧ H p = some (.tup [.int st, .int e]) ∧ Stp n st c ∧ e ≤ 1000
def sp_least_totals : Sp := fun vs H Q _ => ∃ (l : Addr) (n : Nat) (ks : List (Nat × Nat)), vs = [.ref l, .int n] ∧ Steps H l n ks ∧ 1 ≤ n ∧ n ≤ 60 ∧
  ∀ q H', H q = none → Same H H' → H' q = some (.tup (tabO n (KD.tbl n ks))) → Q (.ref q) H'
def sp_least_by_rest : Sp := fun vs H Q _ => ∃ (t : Addr) (cs : List Int) (n : Nat), vs = [.ref t, .int n] ∧ H t = some (.tup (cs.map V.int)) ∧ Lotc cs ∧ 1 ≤ n ∧ n ≤ 60 ∧
  ∀ q H', H q = none → Same H H' → H' q = some (.tup (tabO n (KC.tbl n (natL cs)))) → Q (.ref q) H'
def sp_is_reached : Sp := fun vs H Q _ => ∃ (t : Addr) (n a : Nat) (T : KC.Tb), vs = [.ref t, .int a] ∧ H t = some (.tup (tabO n T)) ∧ 1 ≤ n ∧ n ≤ 60 ∧ Q (.bl (KC.hits T (a % n) a)) H
def sp_is_paid (C : Addr) : Sp := fun vs H Q _ => ∃ (p : Addr) (cs : List Int) (a : Nat), vs = [.ref p, .int a] ∧ LotAt C H p cs ∧ a ≤ 10 ^ 30 ∧ ∀ H', Same H H' → Q (.bl (pdI cs a)) H'
def sp_check_coin_of (C : Addr) : Sp := fun vs H Q _ => ∃ (p : Addr) (cs : List Int) (n : Int), vs = [.ref p, .int n] ∧ LotAt C H p cs ∧ n ∈ cs ∧ Q .non H
def sp_least_sums (C : Addr) : Sp := fun vs H Q _ => ∃ (p : Addr) (cs : List Int) (n : Nat), vs = [.ref p, .int n] ∧ LotAt C H p cs ∧ (n : Int) ∈ cs ∧
  ∀ q H', H q = none → Same H H' → H' q = some (.tup (tabO n (KC.tbl n (natL cs)))) → Q (.ref q) H'
def sp_l_least : Sp := fun vs H Q _ => ∃ (t : Addr) (cs : List Int) (G n : Nat), vs = [.ref t, .int n] ∧ H t = some (.lst (tabB (G * G + 1) (pdI cs))) ∧ Lotc cs ∧ (n : Int) ∈ cs ∧ (∀ c ∈ cs, c ≤ (G : Int)) ∧ G ≤ 60 ∧
  ∀ q H', H q = none → Same H H' → H' q = some (.tup (tabO n (KC.tbl n (natL cs)))) → Q (.ref q) H'
def sp_l_great (C : Addr) : Sp := fun vs H Q _ => ∃ (b p q : Addr) (cs : List Int) (n : Nat), vs = [.ref b, .ref p, .int n, .ref q] ∧ Bw H b ∧ LotAt C H p cs ∧ (n : Int) ∈ cs ∧ H q = some (.tup (tabO n (KC.tbl n (natL cs)))) ∧
  ∀ H', Bw H' b → But b H H' → Q (.bl true) H'
end Kx

/-! sums that are paid in a few ways -/
namespace KF
open KM
open KM (cnt)
theorem nodup_le {α : Type} [DecidableEq α] : ∀ {l m : List α}, l.Nodup → (∀ x ∈ l, x ∈ m) → l.length ≤ m.length
  | [], _, _, _ => Nat.zero_le _
  | x :: l, m, hn, h => by
    obtain ⟨h1, h2⟩ := List.nodup_cons.mp hn
    have hx := h x (by simp)
    have ih := nodup_le (m := m.erase x) h2 (fun y hy => by
      have hne : y ≠ x := fun e => h1 (e ▸ hy)
      exact (List.mem_erase_of_ne hne).mpr (h y (by simp [hy])))
    rw [List.length_erase_of_mem hx] at ih
    have := List.length_pos_of_mem hx
    simp
    omega
theorem wrt_set : ∀ {cs p : List Int} {i : Nat} {c m x : Int}, cs[i]? = some c → p[i]? = some m → wrt cs (p.set i x) = wrt cs p + c * (x - m)
  | [], _, _, _, _, _, h, _ => by simp at h
  | _ :: _, [], _, _, _, _, _, h => by simp at h
  | d :: cs, y :: p, 0, c, m, x, h1, h2 => by
    have e1 : d = c := by simpa using h1
    have e2 : y = m := by simpa using h2
    subst e1 e2
    show d * x + wrt cs p = d * y + wrt cs p + d * (x - y)
    rw [Int.mul_sub]
    omega
  | d :: cs, y :: p, i + 1, c, m, x, h1, h2 => by
    have ih := wrt_set (cs := cs) (p := p) (i := i) (x := x) (by simpa using h1) (by simpa using h2)
    show d * y + wrt cs (p.set i x) = d * y + wrt cs p + c * (x - m)
    omega
theorem mem_all {cs p : List Int} {n : Nat} (h : ∀ d ∈ cs, 1 ≤ d) (h1 : p.length = cs.length) (h2 : ∀ m ∈ p, 0 ≤ m) (h3 : wrt cs p = n) : p ∈ allP cs n := List.mem_of_getElem? (rk_at h h1 h2 h3)
theorem cnt_nn {cs : List Int} (h : ∀ d ∈ cs, 1 ≤ d) (n : Nat) : 0 ≤ cnt cs n := by
  rw [← tw_cnt h]
  exact tw_nn h n
theorem cnt_len {cs : List Int} (h : ∀ d ∈ cs, 1 ≤ d) (n : Nat) : ((allP cs n).length : Int) = cnt cs n := by rw [all_len h, tw_cnt h]
/-- a coin in a payment that often can be changed -/
theorem changed {cs p : List Int} {n i j W : Nat} {a b d : Nat} {x y : Int} (h : ∀ d ∈ cs, 1 ≤ d) (hp : p ∈ allP cs n) (hij : i ≠ j) (ha : cs[i]? = some ((a * d : Nat) : Int)) (hb : cs[j]? = some ((b * d : Nat) : Int))
    (hx : p[i]? = some x) (hy : p[j]? = some y) (hW : ((W * b : Nat) : Int) ≤ x) (ha0 : 0 < a) : W + 1 ≤ (allP cs n).length := by
  obtain ⟨l1, l2, l3⟩ := all_is h hp
  have hj : j < p.length := (List.getElem?_eq_some_iff.mp hy).1
  have key : ∀ k : Nat, k ≤ W → ((p.set i (x - (k * b : Nat))).set j (y + (k * a : Nat))) ∈ allP cs n := fun k hk => by
    have kb : k * b ≤ W * b := Nat.mul_le_mul_right b hk
    refine mem_all h (by simp [l1]) ?_ ?_
    · intro m hm
      rcases List.mem_or_eq_of_mem_set hm with hm | rfl
      · rcases List.mem_or_eq_of_mem_set hm with hm | rfl
        · exact l2 m hm
        · omega
      · have := l2 y (List.mem_of_getElem? hy)
        omega
    · have hy' : (p.set i (x - (k * b : Nat)))[j]? = some y := by rw [List.getElem?_set_ne hij]; exact hy
      rw [wrt_set hb hy', wrt_set ha hx, l3]
      have e1 : ((a * d : Nat) : Int) * (x - (k * b : Nat) - x) = -((k * (a * b * d) : Nat) : Int) := by
        have : x - ((k * b : Nat) : Int) - x = -((k * b : Nat) : Int) := by omega
        rw [this, Int.mul_neg, ← Int.natCast_mul]
        congr 2
        ac_rfl
      have e2 : ((b * d : Nat) : Int) * (y + (k * a : Nat) - y) = ((k * (a * b * d) : Nat) : Int) := by
        have : y + ((k * a : Nat) : Int) - y = ((k * a : Nat) : Int) := by omega
        rw [this, ← Int.natCast_mul]
        congr 1
        ac_rfl
      rw [e1, e2]
      omega
  have hl := nodup_le (l := (List.range (W + 1)).map fun k => ((p.set i (x - (k * b : Nat))).set j (y + (k * a : Nat)))) (m := allP cs n) ?_ ?_
  · simpa using hl
  · unfold List.Nodup
    rw [List.pairwise_map]
    refine List.nodup_range.imp fun {k k'} hk e => hk ?_
    have e' := congrArg (fun l : List Int => l[j]?) e
    simp [hj] at e'
    have : k * a = k' * a := by
      have h2 : ((k * a : Nat) : Int) = ((k' * a : Nat) : Int) := by simpa using e'
      omega
    exact Nat.eq_of_mul_eq_mul_right ha0 this
  · intro q hq
    obtain ⟨k, hk, rfl⟩ := List.mem_map.mp hq
    exact key k (by have := List.mem_range.mp hk; omega)
def Few (cs : List Int) (W : Int) (n : Nat) : Prop := 1 ≤ cnt cs n ∧ cnt cs n ≤ W
instance (cs : List Int) (W : Int) (n : Nat) : Decidable (Few cs W n) := inferInstanceAs (Decidable (_ ∧ _))
theorem few_zero (cs : List Int) {W : Int} (h : 1 ≤ W) : Few cs W 0 := by
  unfold Few
  rw [cnt_zero]
  omega
theorem paid_ex {cs : List Int} {n : Nat} (h : ∀ d ∈ cs, 1 ≤ d) (hn : 1 ≤ cnt cs n) : ∃ p, p ∈ allP cs n := by
  have := cnt_len h n
  cases e : allP cs n with
  | nil =>
    rw [e] at this
    simp at this
    omega
  | cons p r => exact ⟨p, by simp⟩
theorem wrt_pos : ∀ {cs p : List Int}, (∀ m ∈ p, 0 ≤ m) → p.length = cs.length → wrt cs p ≠ 0 → ∃ (i : Nat) (c m : Int), cs[i]? = some c ∧ p[i]? = some m ∧ 1 ≤ m
  | [], _, _, _, hw => by simp [wrt] at hw
  | _ :: _, [], _, hl, _ => by simp at hl
  | c :: cs, m :: p, h, hl, hw => by
    by_cases hm : 1 ≤ m
    · exact ⟨0, c, m, rfl, rfl, hm⟩
    · have e : m = 0 := by have := h m (by simp); omega
      subst e
      have hw' : wrt cs p ≠ 0 := by
        have : wrt (c :: cs) (0 :: p) = c * 0 + wrt cs p := rfl
        rw [this] at hw
        simpa using hw
      obtain ⟨i, c', m', h1, h2, h3⟩ := wrt_pos (fun x hx => h x (by simp [hx])) (by simpa using hl) hw'
      exact ⟨i + 1, c', m', by simpa using h1, by simpa using h2, h3⟩
theorem wrt_ge : ∀ {cs p : List Int} {i : Nat} {c m : Int}, (∀ d ∈ cs, 1 ≤ d) → (∀ m ∈ p, 0 ≤ m) → cs[i]? = some c → p[i]? = some m → c * m ≤ wrt cs p
  | [], _, _, _, _, _, _, h, _ => by simp at h
  | _ :: _, [], _, _, _, _, _, _, h => by simp at h
  | d :: cs, y :: p, 0, c, m, hc, hp, h1, h2 => by
    have e1 : d = c := by simpa using h1
    have e2 : y = m := by simpa using h2
    subst e1 e2
    have := wrt_nn cs p (fun x hx => hc x (by simp [hx])) (fun x hx => hp x (by simp [hx]))
    show d * y ≤ d * y + wrt cs p
    omega
  | d :: cs, y :: p, i + 1, c, m, hc, hp, h1, h2 => by
    have ih := wrt_ge (cs := cs) (p := p) (i := i) (fun x hx => hc x (by simp [hx])) (fun x hx => hp x (by simp [hx])) (by simpa using h1) (by simpa using h2)
    have : 0 ≤ d * y := Int.mul_nonneg (by have := hc d (by simp); omega) (hp y (by simp))
    show c * m ≤ d * y + wrt cs p
    omega
theorem few_down {cs : List Int} {W : Int} {n : Nat} (h : ∀ d ∈ cs, 1 ≤ d) (hd : cs.Nodup) (hn : 0 < n) (hf : Few cs W n) : ∃ c ∈ cs, c.toNat ≤ n ∧ Few cs W (n - c.toNat) := by
  obtain ⟨p, hp⟩ := paid_ex h hf.1
  obtain ⟨l1, l2, l3⟩ := all_is h hp
  obtain ⟨i, c, m, e1, e2, hm⟩ := wrt_pos l2 l1 (by omega)
  have hcm := List.mem_of_getElem? e1
  have hc1 := h c hcm
  have hge := wrt_ge h l2 e1 e2
  have hcm1 : c * 1 ≤ c * m := Int.mul_le_mul_of_nonneg_left hm (by omega)
  have hcn : c.toNat ≤ n := by omega
  refine ⟨c, hcm, hcn, ?_, ?_⟩
  · have hq : p.set i (m - 1) ∈ allP cs (n - c.toNat) := by
      refine mem_all h (by simp [l1]) ?_ ?_
      · intro x hx
        rcases List.mem_or_eq_of_mem_set hx with hx | rfl
        · exact l2 x hx
        · omega
      · rw [wrt_set e1 e2, l3, show m - 1 - m = (-1 : Int) by omega]
        omega
    have := cnt_len h (n - c.toNat)
    have h2 := List.length_pos_of_mem hq
    omega
  · have e := cnt_take h hd hcm hcn
    have := cnt_nn (cs := cs.filter (fun d => !decide (d = c))) (fun d hd => h d (List.mem_filter.mp hd).1) n
    have := hf.2
    omega
theorem few_end {cs : List Int} {W : Int} {last N G : Nat} (h : ∀ d ∈ cs, 1 ≤ d) (hd : cs.Nodup) (hG : ∀ c ∈ cs, c ≤ G) (h1 : ∀ m, m < N → Few cs W m → m ≤ last) (hN : last + G < N) : ∀ m, Few cs W m → m ≤ last := by
  intro m
  induction m using Nat.strongRecOn with
  | ind m ih =>
    intro hf
    by_cases q : m < N
    · exact h1 m q hf
    · obtain ⟨c, hc, hcn, hf'⟩ := few_down h hd (by omega) hf
      have c1 := h c hc
      have c2 := hG c hc
      have := ih (m - c.toNat) (by omega) hf'
      omega
/-- what few ways let in a payment -/
def Fp (cs : List Int) (W : Nat) (p : List Int) : Prop := ∀ (i j a b : Nat) (x : Int), i ≠ j → cs[i]? = some (a : Int) → cs[j]? = some (b : Int) → p[i]? = some x → x + 1 ≤ ((W * b / Nat.gcd a b : Nat) : Int)
theorem fp_of {cs p : List Int} {n W : Nat} (h : ∀ d ∈ cs, 1 ≤ d) (hf : cnt cs n ≤ W) (hp : p ∈ allP cs n) : Fp cs W p := by
  intro i j a b x hij ha hb hx
  have ha1 : 1 ≤ a := by have := h _ (List.mem_of_getElem? ha); omega
  have hb1 : 1 ≤ b := by have := h _ (List.mem_of_getElem? hb); omega
  have hg : 0 < Nat.gcd a b := Nat.gcd_pos_of_pos_left b ha1
  obtain ⟨a', ea⟩ := Nat.gcd_dvd_left a b
  obtain ⟨b', eb⟩ := Nat.gcd_dvd_right a b
  obtain ⟨l1, _, _⟩ := all_is h hp
  have hj : j < p.length := by rw [l1]; exact (List.getElem?_eq_some_iff.mp hb).1
  have hy : p[j]? = some p[j] := List.getElem?_eq_getElem hj
  have e : W * b / Nat.gcd a b = W * b' := by
    generalize Nat.gcd a b = g at *
    rw [eb, show W * (g * b') = g * (W * b') by ac_rfl]
    exact Nat.mul_div_cancel_left _ hg
  rw [e]
  refine Int.not_lt.mp fun hlt => ?_
  have ha' : 0 < a' := by
    rcases Nat.eq_zero_or_pos a' with z | z
    · subst z; omega
    · exact z
  have := changed (W := W) (d := Nat.gcd a b) (a := a') (b := b') h hp hij (by rw [Nat.mul_comm, ← ea]; exact ha) (by rw [Nat.mul_comm, ← eb]; exact hb) hx hy (by omega) ha'
  have := cnt_len h n
  omega
theorem few_bound {cs : List Int} {W n : Nat} {m : Int} (h : ∀ d ∈ cs, 1 ≤ d) (hb : ∀ p : List Int, p.length = cs.length → (∀ x ∈ p, 0 ≤ x) → Fp cs W p → wrt cs p ≤ m) (hf : Few cs W n) : (n : Int) ≤ m := by
  obtain ⟨p, hp⟩ := paid_ex h hf.1
  obtain ⟨l1, l2, l3⟩ := all_is h hp
  have := hb p l1 l2 (fp_of h hf.2 hp)
  omega
theorem wrt_snoc : ∀ {cs p : List Int} {i : Nat} {c m : Int}, cs[i]? = some c → p[i]? = some m → wrt (cs.take (i + 1)) (p.take (i + 1)) = wrt (cs.take i) (p.take i) + c * m
  | [], _, _, _, _, h, _ => by simp at h
  | _ :: _, [], _, _, _, _, h => by simp at h
  | d :: cs, y :: p, 0, c, m, h1, h2 => by
    have e1 : d = c := by simpa using h1
    have e2 : y = m := by simpa using h2
    subst e1 e2
    simp [wrt]
  | d :: cs, y :: p, i + 1, c, m, h1, h2 => by
    have ih := wrt_snoc (cs := cs) (p := p) (i := i) (c := c) (m := m) (by simpa using h1) (by simpa using h2)
    show d * y + wrt (cs.take (i + 1)) (p.take (i + 1)) = d * y + wrt (cs.take i) (p.take i) + c * m
    omega
/-! counting to a bound -/
def cap (M x : Int) : Int := min x M
def rowC (M : Int) (cs : List Int) (n : Nat) : List Int := (List.range cs.length).map fun i => cap M (cnt (cs.take (i + 1)) n)
theorem rowC_len {M : Int} {cs : List Int} {n : Nat} : (rowC M cs n).length = cs.length := by simp [rowC]
theorem rowC_at {M : Int} {cs : List Int} {n i : Nat} (h : i < cs.length) : (rowC M cs n)[i]? = some (cap M (cnt (cs.take (i + 1)) n)) := by simp [rowC, h]
theorem cnt_snoc {cs : List Int} {i : Nat} {c : Int} (h : cs[i]? = some c) (n : Nat) : cnt (cs.take (i + 1)) n = stp c.toNat (cnt (cs.take i)) n := by
  unfold cnt
  rw [List.take_add_one, h, List.foldl_append]
  rfl
theorem cap_ge {M : Int} {cs : List Int} {i n : Nat} {c : Int} (h : ∀ d ∈ cs, 1 ≤ d) (e : cs[i]? = some c) (hM : 0 ≤ M) (hc : c.toNat ≤ n) : cap M (cap M (cnt (cs.take i) n) + cap M (cnt (cs.take (i + 1)) (n - c.toNat))) = cap M (cnt (cs.take (i + 1)) n) := by
  have hc1 := h c (List.mem_of_getElem? e)
  have h' : ∀ k, ∀ d ∈ cs.take k, 1 ≤ d := fun k d hd => h d (List.mem_of_mem_take hd)
  rw [cnt_snoc e n, stp_ge (by omega) hc, ← cnt_snoc e]
  have a := cnt_nn (h' i) n
  have b := cnt_nn (h' (i + 1)) (n - c.toNat)
  unfold cap
  omega
theorem cap_lt {M : Int} {cs : List Int} {i n : Nat} {c : Int} (e : cs[i]? = some c) (hc : n < c.toNat) : cap M (cnt (cs.take i) n) = cap M (cnt (cs.take (i + 1)) n) := by
  rw [cnt_snoc e n, stp_lt hc]
theorem cap_few {cs : List Int} {W : Int} {n : Nat} : (1 ≤ cap (W + 1) (cnt cs n) ∧ cap (W + 1) (cnt cs n) ≤ W) ↔ Few cs W n := by
  unfold cap Few
  omega
/-- the few sums below n -/
def fewL (cs : List Int) (W : Int) (n : Nat) : List Nat := (List.range n).filter fun m => decide (Few cs W m)
theorem fewL_succ (cs : List Int) (W : Int) (n : Nat) : fewL cs W (n + 1) = fewL cs W n ++ (if Few cs W n then [n] else []) := by
  unfold fewL
  rw [List.range_succ, List.filter_append]
  by_cases h : Few cs W n <;> simp [h]
theorem fewL_end {cs : List Int} {W : Int} {n m : Nat} (h : ∀ k, Few cs W k → k < n) (hm : n ≤ m) : fewL cs W m = fewL cs W n := by
  obtain ⟨d, rfl⟩ : ∃ d, m = n + d := ⟨m - n, by omega⟩
  clear hm
  induction d with
  | zero => rfl
  | succ d ih =>
    rw [← Nat.add_assoc, fewL_succ, ih, if_neg (fun hf => by have := h _ hf; omega), List.append_nil]
theorem fewL_mem {cs : List Int} {W : Int} {n m : Nat} : m ∈ fewL cs W n ↔ m < n ∧ Few cs W m := by simp [fewL]
theorem few_mono {cs : List Int} {W V : Int} (h : V ≤ W) {n : Nat} (hf : Few cs V n) : Few cs W n := ⟨hf.1, by have := hf.2; omega⟩
end KF

/-! few sums: what the program's defs promise -/
namespace Kx
open PySem L2 MG KM
/-- the lists that a row of addresses leads to -/
def EachL (H : Hp) (ps : List Addr) (f : Nat → List Int) : Prop := ∀ (i : Nat) (p : Addr), ps[i]? = some p → H p = some (.lst ((f i).map V.int))
theorem EachL.same {H H' : Hp} {ps : List Addr} {f : Nat → List Int} (h : EachL H ps f) (s : Same H H') : EachL H' ps f := fun i p e => s _ _ (h i p e)
theorem EachL.snoc {H : Hp} {ps : List Addr} {f : Nat → List Int} {p : Addr} (h : EachL H ps f) (e : H p = some (.lst ((f ps.length).map V.int))) : EachL H (ps ++ [p]) f := by
  intro i q hq
  by_cases c : i < ps.length
  · rw [List.getElem?_append_left c] at hq
    exact h i q hq
  · rw [List.getElem?_append_right (by omega)] at hq
    obtain ⟨hi, e2⟩ := List.getElem?_eq_some_iff.mp hq
    have hz : i = ps.length := by
      simp at hi
      omega
    subst hz
    have : q = p := by simpa using hq.symm
    rw [this]
    exact e
theorem atI_lastF {α : Type} {xs : List α} {v : α} (h : xs[xs.length - 1]? = some v) : atI xs (-1) = some v := by
  have hl := (List.getElem?_eq_some_iff.mp h).1
  have e : ixN xs.length (-1) = some (xs.length - 1) := by
    unfold ixN
    rw [if_neg (by omega), if_pos (by omega)]
    congr 1
    omega
  unfold atI
  rw [e]
  exact h
theorem lastF_max {cs : List Int} (hc : Lotc cs) {G : Int} (h : cs[cs.length - 1]? = some G) : ∀ c ∈ cs, c ≤ G := by
  intro c hm
  obtain ⟨i, hi, rfl⟩ := List.mem_iff_getElem.mp hm
  obtain ⟨hl, e⟩ := List.getElem?_eq_some_iff.mp h
  rw [← e]
  by_cases z : i = cs.length - 1
  · subst z; exact Int.le_refl _
  · have := List.pairwise_iff_getElem.mp (asc_pw hc.up).1 i (cs.length - 1) hi hl (by omega)
    omega
/-- all few sums -/
def fewA (cs : List Int) (W : Nat) : List Nat := KF.fewL cs W (cs.length * 3600 * W + 1)
theorem bound_take {cs : List Int} {W : Nat} (h : ∀ c ∈ cs, 1 ≤ c ∧ c ≤ 60) (h2 : 2 ≤ cs.length) {p : List Int} (hl : p.length = cs.length) (h0 : ∀ x ∈ p, 0 ≤ x) (hp : KF.Fp cs W p) : ∀ k, k ≤ cs.length → wrt (cs.take k) (p.take k) ≤ ((k * 3600 * W : Nat) : Int) := by
  intro k
  induction k with
  | zero => intro _; simp [wrt]
  | succ k ih =>
    intro hk
    have i1 := ih (by omega)
    have e1 : cs[k]? = some cs[k] := List.getElem?_eq_getElem (by omega)
    have e2 : p[k]? = some p[k] := List.getElem?_eq_getElem (by omega)
    rw [KF.wrt_snoc e1 e2]
    obtain ⟨j, hj, hjk⟩ : ∃ j, j < cs.length ∧ k ≠ j := if z : k = 0 then ⟨1, by omega, by omega⟩ else ⟨0, by omega, by omega⟩
    have e3 : cs[j]? = some cs[j] := List.getElem?_eq_getElem hj
    have b1 := h _ (List.mem_of_getElem? e1)
    have b3 := h _ (List.mem_of_getElem? e3)
    have b2 := h0 _ (List.mem_of_getElem? e2)
    generalize cs[k] = c at *
    generalize p[k] = x at *
    generalize cs[j] = d at *
    obtain ⟨c', rfl⟩ : ∃ c' : Nat, c = c' := ⟨c.toNat, by omega⟩
    obtain ⟨d', rfl⟩ : ∃ d' : Nat, d = d' := ⟨d.toNat, by omega⟩
    have hx := hp k j c' d' x hjk e1 e3 e2
    have hd : W * d' / Nat.gcd c' d' ≤ W * 60 := Nat.le_trans (Nat.div_le_self _ _) (Nat.mul_le_mul_left W (by omega))
    have hx2 : x ≤ ((W * 60 : Nat) : Int) := by omega
    have hm : (c' : Int) * x ≤ 60 * ((W * 60 : Nat) : Int) := Int.mul_le_mul (by omega) hx2 b2 (by omega)
    have e : (((k + 1) * 3600 * W : Nat) : Int) = ((k * 3600 * W : Nat) : Int) + 60 * ((W * 60 : Nat) : Int) := by
      rw [show (k + 1) * 3600 * W = k * 3600 * W + 60 * (W * 60) by rw [Nat.add_mul, Nat.add_mul]; omega]
      simp
    omega
theorem few_top {cs : List Int} {W : Nat} (hc : Lotc cs) (h2 : 2 ≤ cs.length) {n : Nat} (hf : KF.Few cs W n) : n ≤ cs.length * 3600 * W := by
  have h60 := lot_pos (Int.le_refl 0) hc.up
  have := KF.few_bound (m := ((cs.length * 3600 * W : Nat) : Int)) (fun d hd => (h60 d hd).1) (fun p hl h0 hp => by
    have := bound_take h60 h2 hl h0 hp cs.length (Nat.le_refl _)
    rw [List.take_length, ← hl, List.take_length] at this
    rw [← hl]
    exact this) hf
  omega
theorem few_all {cs : List Int} {W n : Nat} (hc : Lotc cs) (h2 : 2 ≤ cs.length) (h : ∀ m, KF.Few cs W m → m < n) : KF.fewL cs W n = fewA cs W := by
  unfold fewA
  have ht : ∀ m, KF.Few cs W m → m < cs.length * 3600 * W + 1 := fun m hm => Nat.lt_succ_of_le (few_top hc h2 hm)
  generalize cs.length * 3600 * W + 1 = k at *
  by_cases q : n ≤ k
  · exact (KF.fewL_end h q).symm
  · exact KF.fewL_end ht (by omega)
theorem fewA_head (cs : List Int) {W : Nat} (h : 1 ≤ W) : (fewA cs W)[0]? = some 0 := by
  unfold fewA KF.fewL
  generalize cs.length * 3600 * W = k
  rw [List.range_succ_eq_map, List.filter_cons_of_pos (by simpa using KF.few_zero cs (by omega))]
  rfl
theorem fewA_is {cs : List Int} {W m : Nat} (hc : Lotc cs) (h2 : 2 ≤ cs.length) (hm : ∀ n, KF.Few cs W n → n ≤ m) : fewA cs W = KF.fewL cs W (m + 1) := (few_all hc h2 fun k hk => Nat.lt_succ_of_le (hm k hk)).symm
theorem fewA_mem {cs : List Int} {W n : Nat} (hc : Lotc cs) (h2 : 2 ≤ cs.length) : n ∈ fewA cs W ↔ KF.Few cs W n := by
  unfold fewA
  rw [KF.fewL_mem]
  exact ⟨fun h => h.2, fun h => ⟨Nat.lt_succ_of_le (few_top hc h2 h), h⟩⟩
theorem dpN {K : PySem.W.Frag} {H : Hp} {a : Addr} {xs : List Nat} (h : H a = some (.tup (xs.map fun (n : Nat) => V.int n))) : Dp K H (.ref a) (.tuple (xs.map fun (n : Nat) => PyData.int n)) := by
  have := dpT (K := K) (ns := xs.map fun (n : Nat) => (n : Int)) (by rw [List.map_map]; exact h)
  rw [List.map_map] at this
  exact this
theorem shapedN (xs : List Nat) : SeqAt.shaped (.tuple (xs.map fun (n : Nat) => PyData.int n)) = true := by
  have := shapedI (xs.map fun (n : Nat) => (n : Int))
  rw [List.map_map] at this
  exact this
theorem inV_nat {xs : List Nat} {k : Nat} (h : k ∈ xs) : inV (.int k) (xs.map fun (n : Nat) => V.int n) = true := by
  unfold inV
  rw [List.any_eq_true]
  exact ⟨.int k, List.mem_map.mpr ⟨k, h, rfl⟩, by show ((k : Int) == (k : Int)) = true; simp⟩
def sp_check_number : Sp := fun vs H Q _ => ∃ n a b : Int, vs = [.int n, .int a, .int b] ∧ a ≤ n ∧ n ≤ b ∧ Q .non H
def sp_ways_by_coins : Sp := fun vs H Q _ => ∃ (l t : Addr) (cs : List Int) (W : Nat) (ps : List Addr), vs = [.ref l, .ref t, .int ((W : Int) + 1)] ∧ H l = some (.lst (ps.map V.ref)) ∧ EachL H ps (KF.rowC (W + 1) cs) ∧ H t = some (.tup (cs.map V.int)) ∧ Lotc cs ∧ 1 ≤ W ∧ W ≤ 1000 ∧ ps.length ≤ 400000 ∧
  ∀ q H', H q = none → Same H H' → H' q = some (.lst ((KF.rowC (W + 1) cs ps.length).map V.int)) → Q (.ref q) H'
def sp_few_sums (C : Addr) : Sp := fun vs H Q _ => ∃ (p : Addr) (cs : List Int) (W : Nat), vs = [.ref p, .int W] ∧ LotAt C H p cs ∧ 2 ≤ cs.length ∧ 1 ≤ W ∧ W ≤ 4 ∧
  ∀ q H', H q = none → Same H H' → H' q = some (.tup ((fewA cs W).map fun (n : Nat) => V.int n)) → Q (.ref q) H'
def sp_single_sums (C : Addr) : Sp := fun vs H Q _ => ∃ (p : Addr) (cs : List Int), vs = [.ref p] ∧ LotAt C H p cs ∧ 2 ≤ cs.length ∧
  ∀ q H', H q = none → Same H H' → H' q = some (.tup ((fewA cs 1).map fun (n : Nat) => V.int n)) → Q (.ref q) H'
def sp_l_many2 : Sp := fun vs H Q _ => ∃ (t : Addr) (cs : List Int) (m : Nat), vs = [.ref t, .int m] ∧ H t = some (.tup (cs.map V.int)) ∧ (∀ c ∈ cs, 1 ≤ c ∧ c ≤ 60) ∧ m ≤ 60000 ∧
  ∀ l H', H l = none → Same H H' → H' l = some (.lst ((tab (m + 1) (cnt cs)).map V.int)) → Q (.ref l) H'
theorem shw_intK {i : Int} {k : Nat} (h : i.natAbs < 2 ^ k) (h1 : 1 ≤ k) (hk : k ≤ 1000) : Shw (k + 1) 0 (.int i) := by
  have z : i.natAbs.log2 < k := by
    by_cases z : i.natAbs = 0
    · rw [z]
      simp
      omega
    · exact (Nat.log2_lt z).mpr h
  refine ⟨?_, rfl, Nat.le_refl _, ?_⟩
  · have z2 : i.natAbs.log2 < 1920 := Nat.lt_trans z (by omega)
    simp [PyData.showable, z2]
  · show (Str.ofString (toString i)).length ≤ k + 1
    rw [PySem.ofString_length]
    exact int_text_length_le h1 z
/-- two rows of small numbers -/
theorem shw_rows2 {xs ys : List Nat} {k n : Nat} (hx : ∀ x ∈ xs, x < 2 ^ k) (hy : ∀ y ∈ ys, y < 2 ^ k) (h1 : 1 ≤ k) (hk : k ≤ 1000) (h2 : xs.length ≤ n) (h3 : ys.length ≤ n) (h : 2 * (n * (k + 3) + 5) + 3 ≤ 16000000) :
    Shw 16000000 90 (.list [.tuple (xs.map fun (x : Nat) => PyData.int x), .tuple (ys.map fun (x : Nat) => PyData.int x)]) := by
  have one : ∀ zs : List Nat, (∀ x ∈ zs, x < 2 ^ k) → zs.length ≤ n → Shw (n * (k + 3) + 3) 1 (.tuple (zs.map fun (x : Nat) => PyData.int x)) := fun zs hz hl => shw_tuple (fun d hd => by
    obtain ⟨x, hx, rfl⟩ := List.mem_map.mp hd
    exact shw_intK (by simpa using hz x hx) h1 hk) (by simpa using hl)
  refine (shw_list (n := n * (k + 3) + 3) (k := 1) (m := 2) (fun d hd => ?_) (by simp)).mono h (by decide)
  simp only [List.mem_cons, List.not_mem_nil, or_false] at hd
  rcases hd with rfl | rfl
  · exact one xs hx h2
  · exact one ys hy h3
def sp_l_coins2 : Sp := fun vs H Q _ => ∃ (b : Addr) (n m : Nat), vs = [.ref b, .int n, .int m] ∧ Bw H b ∧ 1 ≤ n ∧ n ≤ m ∧ m ≤ 60 ∧ n ≤ 15 ∧
  ∀ t cs H', H t = none → Lotc cs → cs.length = n → (∀ c ∈ cs, c ≤ m) → H' t = some (.tup (cs.map V.int)) → Bw H' b → But b H H' → Q (.ref t) H'
/-- the few sums of the law, and how many -/
theorem fewL_len (cs : List Int) (W : Int) (n : Nat) : (KF.fewL cs W n).length ≤ n := by
  have := List.length_filter_le (fun m => decide (KF.Few cs W m)) (List.range n)
  simpa [KF.fewL] using this
def sp_l_divisor : Sp := fun vs H Q _ => ∃ (a b : Nat), vs = [.int a, .int b] ∧ 1 ≤ a ∧ a ≤ 60 ∧ 1 ≤ b ∧ b ≤ 60 ∧ ∀ H', Same H H' → Q (.int (Nat.gcd a b)) H'
theorem gcd_of {a b : Nat} {ms : List Int} (hms : ∀ x : Int, x ∈ ms ↔ 1 ≤ x ∧ x ≤ a ∧ (a : Int) % x = 0 ∧ (b : Int) % x = 0) {m : Int} (hm : m ∈ ms) (hx : ∀ y, y ∈ ms → y ≤ m) (ha : 1 ≤ a) : m = ((Nat.gcd a b : Nat) : Int) := by
  obtain ⟨m1, m2, m3, m4⟩ := (hms m).mp hm
  obtain ⟨k, rfl⟩ : ∃ k : Nat, m = k := ⟨m.toNat, by omega⟩
  have d1 : k ∣ a := Int.natCast_dvd_natCast.mp (Int.dvd_of_emod_eq_zero m3)
  have d2 : k ∣ b := Int.natCast_dvd_natCast.mp (Int.dvd_of_emod_eq_zero m4)
  have hg : 0 < Nat.gcd a b := Nat.gcd_pos_of_pos_left b ha
  have l1 := Nat.le_of_dvd hg (Nat.dvd_gcd d1 d2)
  have l2 := Nat.le_of_dvd (by omega) (Nat.gcd_dvd_left a b)
  have l3 := hx ((Nat.gcd a b : Nat) : Int) ((hms _).mpr ⟨by omega, by omega, Int.emod_eq_zero_of_dvd (Int.natCast_dvd_natCast.mpr (Nat.gcd_dvd_left a b)), Int.emod_eq_zero_of_dvd (Int.natCast_dvd_natCast.mpr (Nat.gcd_dvd_right a b))⟩)
  omega
def sp_l_bound : Sp := fun vs H Q _ => ∃ (t : Addr) (cs : List Int) (W : Nat), vs = [.ref t, .int W] ∧ H t = some (.tup (cs.map V.int)) ∧ Lotc cs ∧ 2 ≤ cs.length ∧ cs.length ≤ 4 ∧ 1 ≤ W ∧ W ≤ 4 ∧
  ∀ (m : Nat) H', Same H H' → m ≤ 57600 → (∀ n, KF.Few cs W n → n ≤ m) → Q (.int m) H'
end Kx

/-! the first and the last payment of a sum -/
namespace KG
open KM
def nL (cs : List Int) : List Nat := cs.map Int.toNat
theorem wrt_paid : ∀ {cs p : List Int} {n : Nat}, (∀ d ∈ cs, 1 ≤ d) → (∀ m ∈ p, 0 ≤ m) → wrt cs p = n → KL.Paid (nL cs) n
  | [], p, n, _, _, h => by
    have : n = 0 := by
      cases p <;> simp [wrt] at h <;> omega
    rw [this]
    exact .zero
  | c :: cs, [], n, _, _, h => by
    have : n = 0 := by simp [wrt] at h; omega
    rw [this]
    exact .zero
  | c :: cs, m :: p, n, hc, hp, h => by
    have c1 := hc c (by simp)
    have m0 := hp m (by simp)
    obtain ⟨a, rfl⟩ : ∃ a : Nat, c = a := ⟨c.toNat, by omega⟩
    obtain ⟨k, rfl⟩ : ∃ k : Nat, m = k := ⟨m.toNat, by omega⟩
    have nn := wrt_nn cs p (fun d hd => hc d (by simp [hd])) (fun x hx => hp x (by simp [hx]))
    have h' : (a : Int) * k + wrt cs p = n := h
    have i1 := wrt_paid (cs := cs) (p := p) (n := (wrt cs p).toNat) (fun d hd => hc d (by simp [hd])) (fun x hx => hp x (by simp [hx])) (by omega)
    have i2 := i1.mono (ds := nL ((a : Int) :: cs)) (fun x hx => by simp [nL] at hx ⊢; exact .inr hx)
    have i3 := KC.paid_many (c := a) (ks := nL ((a : Int) :: cs)) (by simp [nL]) i2 k
    have e : n = (wrt cs p).toNat + k * a := by
      have : ((k * a : Nat) : Int) = (a : Int) * k := by rw [Int.natCast_mul, Int.mul_comm]
      omega
    rw [e]
    exact i3
theorem wrt_repl : ∀ (cs : List Int), wrt cs (List.replicate cs.length 0) = 0
  | [] => rfl
  | c :: cs => by
    show c * 0 + wrt cs (List.replicate cs.length 0) = 0
    rw [wrt_repl cs]
    omega
theorem paid_wrt {cs : List Int} (hc : ∀ d ∈ cs, 1 ≤ d) {n : Nat} (h : KL.Paid (nL cs) n) : ∃ p : List Int, p.length = cs.length ∧ (∀ m ∈ p, 0 ≤ m) ∧ wrt cs p = n := by
  induction h with
  | zero => exact ⟨List.replicate cs.length 0, by simp, fun m hm => by have := (List.mem_replicate.mp hm).2; omega, by rw [wrt_repl]; rfl⟩
  | @add a n ha _ ih =>
    obtain ⟨p, l1, l2, l3⟩ := ih
    obtain ⟨c, hcm, rfl⟩ := List.mem_map.mp ha
    obtain ⟨i, hi⟩ := List.mem_iff_getElem?.mp hcm
    have hil : i < p.length := by rw [l1]; exact (List.getElem?_eq_some_iff.mp hi).1
    have hp : p[i]? = some p[i] := List.getElem?_eq_getElem hil
    have c1 := hc c hcm
    have m0 := l2 _ (List.mem_of_getElem? hp)
    refine ⟨p.set i (p[i] + 1), by simp [l1], fun m hm => ?_, ?_⟩
    · rcases List.mem_or_eq_of_mem_set hm with hm | rfl
      · exact l2 m hm
      · omega
    · rw [KF.wrt_set hi hp, l3, show p[i] + 1 - p[i] = (1 : Int) by omega]
      omega
theorem all_pd {cs : List Int} (hc : ∀ d ∈ cs, 1 ≤ d) (n : Nat) : allP cs n ≠ [] ↔ KL.pd (nL cs) n = true := by
  have hp : ∀ c ∈ nL cs, 0 < c := fun c h => by
    obtain ⟨d, hd, rfl⟩ := List.mem_map.mp h
    have := hc d hd
    omega
  rw [KL.pd_paid hp]
  constructor
  · intro h
    obtain ⟨p, hpm⟩ := List.exists_mem_of_ne_nil _ h
    obtain ⟨_, l2, l3⟩ := all_is hc hpm
    exact wrt_paid hc l2 l3
  · intro h e
    obtain ⟨p, l1, l2, l3⟩ := paid_wrt hc h
    have := KF.mem_all hc l1 l2 l3
    rw [e] at this
    cases this
theorem blk_nil {c n m : Nat} {q : Nat → List (List Int)} : blk c q n m = [] ↔ q (n - m * c) = [] := by simp [blk]
theorem from_skip {c n : Nat} {q : Nat → List (List Int)} : ∀ (d k : Nat), k + d ≤ n / c → (∀ j, k ≤ j → j < k + d → q (n - j * c) = []) → from_ c q n k = from_ c q n (k + d)
  | 0, _, _, _ => rfl
  | d + 1, k, h1, h2 => by
    rw [from_step (show k ≤ n / c by omega), blk_nil.mpr (h2 k (by omega) (by omega)), List.nil_append, from_skip d (k + 1) (by omega) (fun j a b => h2 j (by omega) (by omega)), show k + 1 + d = k + (d + 1) by omega]
theorem first_cons {c : Int} {r : List Int} {n m : Nat} (hc : 1 ≤ c) (hm : m * c.toNat ≤ n) (h1 : allP r (n - m * c.toNat) ≠ []) (h2 : ∀ j, j < m → allP r (n - j * c.toNat) = []) :
    (allP (c :: r) n).head? = (allP r (n - m * c.toNat)).head?.map (fun p => (m : Int) :: p) := by
  have hc0 : 0 < c.toNat := by omega
  have hmd : m ≤ n / c.toNat := (Nat.le_div_iff_mul_le hc0).mpr hm
  have e : allP (c :: r) n = from_ c.toNat (allP r) n 0 := rfl
  rw [e, from_skip m 0 (by omega) (fun j _ hj => h2 j (by omega)), Nat.zero_add, from_step hmd]
  cases e2 : allP r (n - m * c.toNat) with
  | nil => exact absurd e2 h1
  | cons p ps => simp [blk, e2]
theorem take_skip {c n m : Nat} {q : Nat → List (List Int)} : ∀ d : Nat, (∀ j, m < j → j ≤ m + d → q (n - j * c) = []) → (List.range' 0 (m + d + 1)).flatMap (blk c q n) = (List.range' 0 (m + 1)).flatMap (blk c q n)
  | 0, _ => rfl
  | d + 1, h => by
    rw [show m + (d + 1) + 1 = (m + d + 1) + 1 by omega, from_take, blk_nil.mpr (h (m + d + 1) (by omega) (by omega)), List.append_nil]
    exact take_skip d fun j a b => h j a (by omega)
theorem last_cons {c : Int} {r : List Int} {n m : Nat} (hc : 1 ≤ c) (hm : m * c.toNat ≤ n) (h1 : allP r (n - m * c.toNat) ≠ []) (h2 : ∀ j, m < j → j * c.toNat ≤ n → allP r (n - j * c.toNat) = []) :
    (allP (c :: r) n).getLast? = (allP r (n - m * c.toNat)).getLast?.map (fun p => (m : Int) :: p) := by
  have hc0 : 0 < c.toNat := by omega
  have hmd : m ≤ n / c.toNat := (Nat.le_div_iff_mul_le hc0).mpr hm
  have e : allP (c :: r) n = (List.range' 0 (n / c.toNat + 1)).flatMap (blk c.toNat (allP r) n) := rfl
  obtain ⟨d, hd⟩ : ∃ d, n / c.toNat = m + d := ⟨n / c.toNat - m, by omega⟩
  rw [e, hd, take_skip d fun j a b => h2 j a ((Nat.le_div_iff_mul_le hc0).mp (by omega)), from_take]
  cases e3 : (allP r (n - m * c.toNat)).getLast? with
  | none => exact absurd (List.getLast?_eq_none_iff.mp e3) h1
  | some p =>
    rw [List.getLast?_append]
    simp [blk, List.getLast?_map, e3]
theorem lx_irrefl : ∀ p : List Int, lx p p = false
  | [] => rfl
  | x :: p => by simp [lx, lx_irrefl p]
theorem all_nodup {cs : List Int} (h : ∀ d ∈ cs, 1 ≤ d) (n : Nat) : (allP cs n).Nodup := (all_asc h n).imp fun {p q} a e => by
  subst e
  rw [lx_irrefl] at a
  cases a
/-- where the first payment is the last one there is no other one -/
theorem only {cs : List Int} (h : ∀ d ∈ cs, 1 ≤ d) {n : Nat} {p : List Int} (h1 : (allP cs n).head? = some p) (h2 : (allP cs n).getLast? = some p) : allP cs n = [p] := by
  cases e : allP cs n with
  | nil => rw [e] at h1; cases h1
  | cons a r =>
    rw [e] at h1 h2
    have ea : a = p := by simpa using h1
    subst ea
    cases r with
    | nil => rfl
    | cons b s =>
      have hn := all_nodup h n
      rw [e] at hn
      have hm : a ∈ b :: s := List.mem_of_getLast? (by rw [List.getLast?_cons_cons] at h2; exact h2)
      exact absurd hm (List.nodup_cons.mp hn).1
end KG

/-! the first and the last payment: what the program's defs promise -/
namespace Kx
open PySem L2 MG KM
theorem fr_of {P : Program} {w : World} {K : PySem.W.Frag} {mg : Str → Option Value} {base : Heap} {CX : CXT} {k : Nat} {f : Addr} {fd : FuncData} {ps : List Str} {sp : Sp} (h : FnOk P w K mg base CX k f fd ps sp) (b : Binds K fd ps []) : FnR P w K mg base CX k f sp :=
  (h.raw b .nil).imp fun vs H Q E z => by
    show sp (vs ++ []) H Q E
    rw [List.append_nil]
    exact z
/-- paid by the coins behind -/
abbrev pdR (r : List Int) (k : Nat) : Prop := KL.pd (KG.nL r) k = true
theorem optV_inj {x y : Option Nat} (h : optV x = optV y) : x = y := by
  cases x <;> cases y <;> simp [optV] at h
  · rfl
  · congr 1
    omega
theorem tabO_inj {g g' : Nat} {T T' : KC.Tb} (h : tabO g T = tabO g' T') : g = g' ∧ ∀ i, i < g → T i = T' i := by
  have hl : g = g' := by
    have := congrArg List.length h
    rw [tabO_len, tabO_len] at this
    exact this
  subst hl
  refine ⟨rfl, fun i hi => ?_⟩
  have e := congrArg (fun l : List V => l[i]?) h
  simp only [tabO_at hi] at e
  exact optV_inj (by simpa using e)
theorem hits_congr {T T' : KC.Tb} {r v : Nat} (h : T r = T' r) : KC.hits T r v = KC.hits T' r v := by
  unfold KC.hits
  rw [h]
theorem sIx_at (n k : Nat) : HT.sIx n 0 (some (k : Int)) = min k n := by
  have h : ¬ ((k : Int) < 0) := by omega
  simp [HT.sIx, h]
theorem cut_dropF (xs : List V) (k : Nat) : cutV xs (some (k : Int)) none = xs.drop k := by
  unfold cutV
  rw [sIx_at]
  have e : HT.sIx xs.length xs.length none = xs.length := rfl
  rw [e]
  by_cases h : k ≤ xs.length
  · rw [Nat.min_eq_left h]
    exact List.take_of_length_le (by simp)
  · rw [Nat.min_eq_right (by omega), List.drop_eq_nil_of_le (as := xs) (i := k) (by omega), List.drop_length]
    simp
theorem lot_drop {cs : List Int} (h : Lotc cs) {i : Nat} (hi : i < cs.length) : Lotc (cs.drop i) := by
  obtain ⟨h1, h2, h3⟩ := h
  obtain ⟨a1, a2⟩ := asc_pw h3
  refine ⟨fun z => ?_, by simp; omega, asc_of (a1.sublist (List.drop_sublist i cs)) fun d hd => a2 d (List.mem_of_mem_drop hd)⟩
  have := congrArg List.length z
  simp at this
  omega
def sp_pick (R : Int → List Int → Nat → Nat → Prop) : Sp := fun vs H Q _ => ∃ (t : Addr) (c : Int) (r : List Int) (n : Nat), vs = [.ref t, .int n] ∧ H t = some (.tup ((c :: r).map V.int)) ∧ Lotc (c :: r) ∧ n ≤ 10 ^ 30 ∧ pdR (c :: r) n ∧
  ∀ (m : Nat) H', Same H H' → m * c.toNat ≤ n → pdR r (n - m * c.toNat) → R c r n m → Q (.int m) H'
def Rfew (c : Int) (r : List Int) (n m : Nat) : Prop := ∀ j, j < m → ¬ pdR r (n - j * c.toNat)
def Rmost (c : Int) (r : List Int) (n m : Nat) : Prop := ∀ j, m < j → j * c.toNat ≤ n → ¬ pdR r (n - j * c.toNat)
def sp_fewest : Sp := sp_pick Rfew
def sp_mostf : Sp := sp_pick Rmost
/-- how a choice of the first coin's number leads to a payment -/
structure Pick (R : Int → List Int → Nat → Nat → Prop) (g : List (List Int) → Option (List Int)) : Prop where
  nil : g [[]] = some []
  step : ∀ {c : Int} {r : List Int} {n m : Nat}, (∀ d ∈ c :: r, 1 ≤ d) → m * c.toNat ≤ n → pdR r (n - m * c.toNat) → R c r n m → g (allP (c :: r) n) = (g (allP r (n - m * c.toNat))).map (fun p => (m : Int) :: p)
theorem pick_few : Pick Rfew List.head? := ⟨rfl, fun {c r n m} h h1 h2 h3 => KG.first_cons (h c (by simp)) h1 ((KG.all_pd (fun d hd => h d (by simp [hd])) _).mpr h2) (fun j hj => Classical.byContradiction fun z => h3 j hj ((KG.all_pd (fun d hd => h d (by simp [hd])) _).mp z))⟩
theorem pick_most : Pick Rmost List.getLast? := ⟨rfl, fun {c r n m} h h1 h2 h3 => KG.last_cons (h c (by simp)) h1 ((KG.all_pd (fun d hd => h d (by simp [hd])) _).mpr h2) (fun j hj hjn => Classical.byContradiction fun z => h3 j hj hjn ((KG.all_pd (fun d hd => h d (by simp [hd])) _).mp z))⟩
def sp_chosen (C : Addr) (mg : Str → Option Value) : Sp := fun vs H Q _ => ∃ (p cf : Addr) (cs : List Int) (n : Nat), vs = [.ref p, .int n, .ref cf] ∧ LotAt C H p cs ∧ n ≤ 10 ^ 30 ∧ pdR cs n ∧
  ((mg "fewest_of_first" = some (.ref cf) ∧ ∀ q H' (x : List Int), H q = none → Same H H' → (allP cs n).head? = some x → H' q = some (.tup (x.map V.int)) → Q (.ref q) H') ∨
   (mg "most_of_first" = some (.ref cf) ∧ ∀ q H' (x : List Int), H q = none → Same H H' → (allP cs n).getLast? = some x → H' q = some (.tup (x.map V.int)) → Q (.ref q) H'))
def sp_first_payment (C : Addr) : Sp := fun vs H Q _ => ∃ (p : Addr) (cs : List Int) (n : Nat), vs = [.ref p, .int n] ∧ LotAt C H p cs ∧ n ≤ 10 ^ 30 ∧ pdR cs n ∧
  ∀ q H' (x : List Int), H q = none → Same H H' → (allP cs n).head? = some x → H' q = some (.tup (x.map V.int)) → Q (.ref q) H'
def sp_last_payment (C : Addr) : Sp := fun vs H Q _ => ∃ (p : Addr) (cs : List Int) (n : Nat), vs = [.ref p, .int n] ∧ LotAt C H p cs ∧ n ≤ 10 ^ 30 ∧ pdR cs n ∧
  ∀ q H' (x : List Int), H q = none → Same H H' → (allP cs n).getLast? = some x → H' q = some (.tup (x.map V.int)) → Q (.ref q) H'
def othP (cs : List Int) (n : Nat) (p : List Int) : Option (List Int) := if (allP cs n).head? = some p then (allP cs n).getLast? else (allP cs n).head?
/-- None where the payment is the only one of its sum, else another one -/
def sp_other_payment (C : Addr) : Sp := fun vs H Q _ => ∃ (l t : Addr) (cs p : List Int) (n : Nat), vs = [.ref l, .ref t] ∧ LotAt C H l cs ∧ H t = some (.tup (p.map V.int)) ∧ p ∈ allP cs n ∧ n ≤ 4000 ∧
  (allP cs n = [p] → ∀ H', Same H H' → Q .non H') ∧ (allP cs n ≠ [p] → ∀ q H' (x : List Int), Same H H' → othP cs n p = some x → x ∈ allP cs n → x ≠ p → H' q = some (.tup (x.map V.int)) → Q (.ref q) H')
def sp_is_single (C : Addr) : Sp := fun vs H Q _ => ∃ (l t : Addr) (cs p : List Int) (n : Nat), vs = [.ref l, .ref t] ∧ LotAt C H l cs ∧ H t = some (.tup (p.map V.int)) ∧ p ∈ allP cs n ∧ n ≤ 4000 ∧
  ∀ H', Same H H' → Q (.bl (decide (allP cs n = [p]))) H'
theorem lot_tail {c : Int} {r : List Int} (h : Lotc (c :: r)) (hr : r ≠ []) : Lotc r := by
  obtain ⟨h1, h2, h3⟩ := h
  obtain ⟨a1, a2⟩ := asc_pw h3
  refine ⟨hr, by simp at h2; omega, asc_of (List.pairwise_cons.mp a1).2 fun d hd => a2 d (List.mem_cons_of_mem _ hd)⟩
theorem pd_nil_iff {k : Nat} : pdR [] k ↔ k = 0 := by
  unfold pdR KG.nL
  rw [KL.pd_iff]
  simp
theorem pd_split {c : Int} {r : List Int} {n : Nat} (hc : ∀ d ∈ c :: r, 1 ≤ d) (h : pdR (c :: r) n) : ∃ m, m * c.toNat ≤ n ∧ pdR r (n - m * c.toNat) := by
  have hne := (KG.all_pd hc n).mpr h
  obtain ⟨p, hp⟩ := List.exists_mem_of_ne_nil _ hne
  obtain ⟨m, hm, hb⟩ := List.mem_flatMap.mp (show p ∈ (List.range' 0 (n / c.toNat + 1 - 0)).flatMap (blk c.toNat (allP r) n) from hp)
  obtain ⟨x, hx, _⟩ := List.mem_map.mp hb
  have hc1 := hc c (by simp)
  have hm' : m ≤ n / c.toNat := by
    have := List.mem_range'_1.mp hm
    omega
  exact ⟨m, (Nat.le_div_iff_mul_le (by omega)).mp hm', (KG.all_pd (fun d hd => hc d (by simp [hd])) _).mp (List.ne_nil_of_mem hx)⟩
def sp_l_is_other : Sp := fun vs H Q _ => ∃ (a t u : Addr) (cs p x : List Int) (n : Nat), vs = [.ref a, .ref t, .ref u] ∧ H a = some (.tup (cs.map V.int)) ∧ H t = some (.tup (p.map V.int)) ∧ H u = some (.tup (x.map V.int)) ∧ Lotc cs ∧ p ∈ allP cs n ∧ x ∈ allP cs n ∧ x ≠ p ∧ n ≤ 4000 ∧ ∀ H', Same H H' → Q (.bl true) H'
def sp_l_some_pay18 : Sp := fun vs H Q _ => ∃ (b t : Addr) (cs : List Int), vs = [.ref b, .ref t] ∧ Bw H b ∧ H t = some (.tup (cs.map V.int)) ∧ Lotc cs ∧
  ∀ q (p : List Int) H', H q = none → p.length = cs.length → (∀ m ∈ p, 0 ≤ m ∧ m ≤ 4000) → H' q = some (.tup (p.map V.int)) → Bw H' b → But b H H' → Q (.ref q) H'
def sp_l_two : Sp := fun vs H Q _ => ∃ (t : Addr) (cs : List Int) (n : Nat), vs = [.ref t, .int n] ∧ H t = some (.tup (cs.map V.int)) ∧ Lotc cs ∧ n ≤ 4000 ∧ ∀ H', Same H H' → Q (.int (min 2 (cnt cs n))) H'
end Kx

/-! least and greatest lengths of sums, coin by coin -/
namespace KT
open KC
/-- n is paid with k coins -/
inductive Ln (cs : List Nat) : Nat → Nat → Prop
  | zero : Ln cs 0 0
  | add {c n k : Nat} (h : c ∈ cs) (p : Ln cs n k) : Ln cs (n + c) (k + 1)
theorem Ln.mono {cs ds : List Nat} (h : ∀ c ∈ cs, c ∈ ds) {n k : Nat} (p : Ln cs n k) : Ln ds n k := by
  induction p with
  | zero => exact .zero
  | add hc _ ih => exact .add (h _ hc) ih
theorem Ln.sum {cs : List Nat} {m n j k : Nat} (p : Ln cs m j) (q : Ln cs n k) : Ln cs (m + n) (j + k) := by
  induction q with
  | zero => exact p
  | @add c n k hc _ ih =>
    have := Ln.add hc ih
    rw [show m + (n + c) = m + n + c by omega, show j + (k + 1) = j + k + 1 by omega]
    exact this
theorem Ln.times {cs : List Nat} {c : Nat} (h : c ∈ cs) (j : Nat) : Ln cs (j * c) j := by
  induction j with
  | zero => rw [Nat.zero_mul]; exact .zero
  | succ j ih => rw [Nat.add_mul, Nat.one_mul]; exact .add h ih
theorem Ln.bounds {cs : List Nat} {L G n k : Nat} (hL : ∀ c ∈ cs, L ≤ c) (hG : ∀ c ∈ cs, c ≤ G) (p : Ln cs n k) : L * k ≤ n ∧ n ≤ G * k := by
  induction p with
  | zero => simp
  | @add c n k hc _ ih =>
    have h1 := hL c hc
    have h2 := hG c hc
    rw [Nat.mul_add, Nat.mul_add]
    omega
theorem Ln.paid {cs : List Nat} {n k : Nat} (p : Ln cs n k) : KL.Paid cs n := by
  induction p with
  | zero => exact .zero
  | add hc _ ih => exact .add hc ih
theorem paid_ln {cs : List Nat} {n : Nat} (p : KL.Paid cs n) : ∃ k, Ln cs n k := by
  induction p with
  | zero => exact ⟨0, .zero⟩
  | add hc _ ih => obtain ⟨k, h⟩ := ih; exact ⟨k + 1, .add hc h⟩
/-- one coin more -/
theorem ln_more {cs : List Nat} {c n k : Nat} : Ln (cs ++ [c]) n k ↔ Ln cs n k ∨ (c ≤ n ∧ 1 ≤ k ∧ Ln (cs ++ [c]) (n - c) (k - 1)) := by
  constructor
  · intro p
    induction p with
    | zero => exact .inl .zero
    | @add d n k hd p ih =>
      rcases List.mem_append.mp hd with h | h
      · rcases ih with i | ⟨i1, i0, i2⟩
        · exact .inl (.add h i)
        · refine .inr ⟨by omega, by omega, ?_⟩
          have e : n + d - c = (n - c) + d := by omega
          have e2 : k + 1 - 1 = (k - 1) + 1 := by omega
          rw [e, e2]
          exact .add hd i2
      · have e : d = c := by simpa using h
        subst e
        exact .inr ⟨by omega, by omega, by rw [Nat.add_sub_cancel, Nat.add_sub_cancel]; exact p⟩
  · rintro (p | ⟨h1, h0, p⟩)
    · exact p.mono fun c hc => List.mem_append_left _ hc
    · have := Ln.add (show c ∈ cs ++ [c] by simp) p
      rwa [Nat.sub_add_cancel h1, Nat.sub_add_cancel h0] at this
/-- the better one of two -/
def sel (b : Nat → Nat → Nat) : Option Nat → Option Nat → Option Nat
  | none, y => y
  | some x, none => some x
  | some x, some y => some (b x y)
/-- a coin's step over a table -/
def ost (b : Nat → Nat → Nat) (c : Nat) (T : Tb) (n : Nat) : Option Nat := if h : 0 < c ∧ c ≤ n then sel b (T n) ((ost b c T (n - c)).map (· + 1)) else T n
termination_by n
decreasing_by omega
theorem ost_ge {b : Nat → Nat → Nat} {c : Nat} {T : Tb} {n : Nat} (hc : 0 < c) (h : c ≤ n) : ost b c T n = sel b (T n) ((ost b c T (n - c)).map (· + 1)) := by
  rw [ost, dif_pos ⟨hc, h⟩]
theorem ost_lt {b : Nat → Nat → Nat} {c : Nat} {T : Tb} {n : Nat} (h : n < c) : ost b c T n = T n := by
  rw [ost, dif_neg (by omega)]
/-- a table half way through a coin's step -/
def ohf (b : Nat → Nat → Nat) (c : Nat) (T : Tb) (m n : Nat) : Option Nat := if n < m then ost b c T n else T n
theorem ohf_start (b : Nat → Nat → Nat) (c : Nat) (T : Tb) (n : Nat) : ohf b c T c n = T n := by
  unfold ohf
  split
  · exact ost_lt (by assumption)
  · rfl
theorem ohf_step {b : Nat → Nat → Nat} {c : Nat} (hc : 0 < c) (T : Tb) {m : Nat} (hm : c ≤ m) (n : Nat) : (if n = m then sel b (ohf b c T m m) ((ohf b c T m (m - c)).map (· + 1)) else ohf b c T m n) = ohf b c T (m + 1) n := by
  unfold ohf
  by_cases h : n = m
  · subst h
    rw [if_pos rfl, if_neg (by omega), if_pos (by omega), if_pos (by omega), ost_ge hc hm]
  · rw [if_neg h]
    by_cases h2 : n < m
    · rw [if_pos h2, if_pos (by omega)]
    · rw [if_neg h2, if_neg (by omega)]
theorem ohf_end {b : Nat → Nat → Nat} {c : Nat} {T : Tb} {k n : Nat} (h : n < k) : ohf b c T k n = ost b c T n := if_pos h
theorem ohf_none {b b' : Nat → Nat → Nat} {c : Nat} {T T' : Tb} (hT : ∀ n, T n = none ↔ T' n = none) : ∀ n, ost b c T n = none ↔ ost b' c T' n = none := by
  intro n
  induction n using Nat.strongRecOn with
  | ind n ih =>
    by_cases h : 0 < c ∧ c ≤ n
    · rw [ost_ge h.1 h.2, ost_ge h.1 h.2]
      have i := ih (n - c) (by omega)
      have t := hT n
      cases e1 : T n <;> cases e2 : T' n <;> cases e3 : ost b c T (n - c) <;> cases e4 : ost b' c T' (n - c) <;> simp_all [sel]
    · have e1 : ost b c T n = T n := by rw [ost, dif_neg h]
      have e2 : ost b' c T' n = T' n := by rw [ost, dif_neg h]
      rw [e1, e2]
      exact hT n
/-- the table of some coins -/
def otb (b : Nat → Nat → Nat) (cs : List Nat) : Tb := cs.foldl (fun T c => ost b c T) T0
theorem otb_snoc (b : Nat → Nat → Nat) (cs : List Nat) (c : Nat) : otb b (cs ++ [c]) = ost b c (otb b cs) := by
  unfold otb
  rw [List.foldl_append]
  rfl
theorem otb_none {b b' : Nat → Nat → Nat} (cs : List Nat) : ∀ n, otb b cs n = none ↔ otb b' cs n = none := by
  have key : ∀ (cs : List Nat) (T T' : Tb), (∀ n, T n = none ↔ T' n = none) → ∀ n, cs.foldl (fun T c => ost b c T) T n = none ↔ cs.foldl (fun T c => ost b' c T) T' n = none := by
    intro cs
    induction cs with
    | nil => intro T T' h; exact h
    | cons c cs ih => intro T T' h; exact ih _ _ (ohf_none h)
  exact key cs T0 T0 fun _ => Iff.rfl
/-- a table tells the best of what S has; le: at least as good -/
structure Best (le : Nat → Nat → Prop) (T : Tb) (S : Nat → Nat → Prop) : Prop where
  sound : ∀ n k, T n = some k → S n k
  best : ∀ n k, S n k → ∃ j, T n = some j ∧ le j k
/-- b is the better one by le -/
structure Sel (b : Nat → Nat → Nat) (le : Nat → Nat → Prop) : Prop where
  one : ∀ x y, b x y = x ∨ b x y = y
  left : ∀ x y, le (b x y) x
  right : ∀ x y, le (b x y) y
  refl : ∀ x, le x x
  trans : ∀ x y z, le x y → le y z → le x z
  succ : ∀ x y, le x y → le (x + 1) (y + 1)
theorem sel_min : Sel min (· ≤ ·) := ⟨fun x y => by omega, fun x y => by show min x y ≤ x; omega, fun x y => by show min x y ≤ y; omega, fun x => Nat.le_refl x, fun x y z h1 h2 => Nat.le_trans h1 h2, fun x y h => Nat.succ_le_succ h⟩
theorem sel_max : Sel max (fun x y => y ≤ x) := ⟨fun x y => by omega, fun x y => by show x ≤ max x y; omega, fun x y => by show y ≤ max x y; omega, fun x => Nat.le_refl x, fun x y z h1 h2 => Nat.le_trans h2 h1, fun x y h => Nat.succ_le_succ h⟩
theorem best_ost {b : Nat → Nat → Nat} {le : Nat → Nat → Prop} (hs : Sel b le) {cs : List Nat} {c : Nat} (hc : 0 < c) {T : Tb} (h : Best le T (Ln cs)) : Best le (ost b c T) (Ln (cs ++ [c])) := by
  have key : ∀ n, (∀ k, ost b c T n = some k → Ln (cs ++ [c]) n k) ∧ (∀ k, Ln (cs ++ [c]) n k → ∃ j, ost b c T n = some j ∧ le j k) := by
    intro n
    induction n using Nat.strongRecOn with
    | ind n ih =>
      have up : ∀ k, Ln cs n k → Ln (cs ++ [c]) n k := fun k p => p.mono fun c hc => List.mem_append_left _ hc
      by_cases hn : c ≤ n
      · obtain ⟨i1, i2⟩ := ih (n - c) (by omega)
        have more : ∀ k, ost b c T (n - c) = some k → Ln (cs ++ [c]) n (k + 1) := fun k e => ln_more.mpr (.inr ⟨hn, by omega, by rw [Nat.add_sub_cancel]; exact i1 k e⟩)
        rw [ost_ge hc hn]
        refine ⟨fun k e => ?_, fun k p => ?_⟩
        · cases e1 : T n with
          | none =>
            cases e2 : ost b c T (n - c) with
            | none => rw [e1, e2] at e; cases e
            | some y =>
              rw [e1, e2] at e
              have : y + 1 = k := by simpa [sel] using e
              rw [← this]
              exact more y e2
          | some x =>
            have hx := up x (h.sound n x e1)
            cases e2 : ost b c T (n - c) with
            | none =>
              rw [e1, e2] at e
              have : x = k := by simpa [sel] using e
              rw [← this]
              exact hx
            | some y =>
              rw [e1, e2] at e
              have : b x (y + 1) = k := by simpa [sel] using e
              rw [← this]
              rcases hs.one x (y + 1) with z | z
              · rw [z]; exact hx
              · rw [z]; exact more y e2
        · rcases ln_more.mp p with p | ⟨_, hk, p⟩
          · obtain ⟨j, hj, hl⟩ := h.best n k p
            rw [hj]
            cases e2 : ost b c T (n - c) with
            | none => exact ⟨j, rfl, hl⟩
            | some y => exact ⟨b j (y + 1), rfl, hs.trans _ _ _ (hs.left _ _) hl⟩
          · obtain ⟨j, hj, hl⟩ := i2 _ p
            have hl' : le (j + 1) k := by
              have := hs.succ _ _ hl
              rwa [Nat.sub_add_cancel hk] at this
            rw [hj]
            cases e1 : T n with
            | none => exact ⟨j + 1, rfl, hl'⟩
            | some x => exact ⟨b x (j + 1), rfl, hs.trans _ _ _ (hs.right _ _) hl'⟩
      · rw [ost_lt (by omega)]
        refine ⟨fun k e => up k (h.sound n k e), fun k p => ?_⟩
        rcases ln_more.mp p with p | ⟨z, _⟩
        · exact h.best n k p
        · omega
  exact ⟨fun n => (key n).1, fun n => (key n).2⟩
theorem best_t0 {le : Nat → Nat → Prop} (hr : ∀ x, le x x) : Best le T0 (Ln []) := by
  refine ⟨fun n k e => ?_, fun n k p => ?_⟩
  · unfold T0 at e
    split at e
    · rename_i h
      subst h
      have : 0 = k := by simpa using e
      subst this
      exact .zero
    · cases e
  · cases p with
    | zero => exact ⟨0, rfl, hr 0⟩
    | add h => cases h
theorem best_otb {b : Nat → Nat → Nat} {le : Nat → Nat → Prop} (hs : Sel b le) : ∀ (cs : List Nat), (∀ c ∈ cs, 0 < c) → Best le (otb b cs) (Ln cs) := by
  have key : ∀ (ds cs : List Nat) (T : Tb), (∀ c ∈ ds, 0 < c) → Best le T (Ln cs) → Best le (ds.foldl (fun T c => ost b c T) T) (Ln (cs ++ ds)) := by
    intro ds
    induction ds with
    | nil => intro cs T _ h; simpa using h
    | cons d ds ih =>
      intro cs T hd h
      have := ih (cs ++ [d]) (ost b d T) (fun c hc => hd c (by simp [hc])) (best_ost hs (hd d (by simp)) h)
      simpa using this
  intro cs hc
  have := key cs [] T0 hc (best_t0 hs.refl)
  rw [List.nil_append] at this
  exact this
/-- the least, the greatest lengths -/
abbrev few (cs : List Nat) : Tb := otb min cs
abbrev many (cs : List Nat) : Tb := otb max cs
theorem few_iff {cs : List Nat} (hp : ∀ c ∈ cs, 0 < c) {n k : Nat} : few cs n = some k ↔ Ln cs n k ∧ ∀ j, Ln cs n j → k ≤ j := by
  have B : Best (· ≤ ·) (few cs) (Ln cs) := best_otb sel_min cs hp
  constructor
  · intro e
    refine ⟨B.sound n k e, fun j p => ?_⟩
    obtain ⟨i, hi, hl⟩ := B.best n j p
    rw [e] at hi
    cases hi
    exact hl
  · rintro ⟨p, h⟩
    obtain ⟨i, hi, hl⟩ := B.best n k p
    have := h i (B.sound n i hi)
    have hl' : i ≤ k := hl
    rw [hi]
    congr 1
    omega
theorem many_iff {cs : List Nat} (hp : ∀ c ∈ cs, 0 < c) {n k : Nat} : many cs n = some k ↔ Ln cs n k ∧ ∀ j, Ln cs n j → j ≤ k := by
  have B : Best (fun x y => y ≤ x) (many cs) (Ln cs) := best_otb sel_max cs hp
  constructor
  · intro e
    refine ⟨B.sound n k e, fun j p => ?_⟩
    obtain ⟨i, hi, hl⟩ := B.best n j p
    rw [e] at hi
    cases hi
    exact hl
  · rintro ⟨p, h⟩
    obtain ⟨i, hi, hl⟩ := B.best n k p
    have := h i (B.sound n i hi)
    have hl' : k ≤ i := hl
    rw [hi]
    congr 1
    omega
theorem few_none {cs : List Nat} (hp : ∀ c ∈ cs, 0 < c) {n : Nat} : few cs n = none ↔ ∀ k, ¬ Ln cs n k := by
  have B : Best (· ≤ ·) (few cs) (Ln cs) := best_otb sel_min cs hp
  constructor
  · intro e k p
    obtain ⟨i, hi, _⟩ := B.best n k p
    rw [e] at hi
    cases hi
  · intro h
    cases e : few cs n with
    | none => rfl
    | some k => exact absurd (B.sound n k e) (h k)
/-- [14]: the least and the greatest length beside one another -/
theorem gap {cs : List Nat} {L G n f m : Nat} (hp : ∀ c ∈ cs, 0 < c) (hLm : L ∈ cs) (hGm : G ∈ cs) (hL : ∀ c ∈ cs, L ≤ c) (hG : ∀ c ∈ cs, c ≤ G) (hf : few cs n = some f) (hm : many cs n = some m) :
    L * m ≤ n ∧ n ≤ G * f ∧ (G ∣ n → G * f = n) ∧ (L ∣ n → L * m = n) := by
  obtain ⟨pf, lf⟩ := (few_iff hp).mp hf
  obtain ⟨pm, lm⟩ := (many_iff hp).mp hm
  obtain ⟨a1, a2⟩ := pf.bounds hL hG
  obtain ⟨b1, b2⟩ := pm.bounds hL hG
  refine ⟨b1, a2, ?_, ?_⟩
  · rintro ⟨j, rfl⟩
    have := lf j (by rw [Nat.mul_comm]; exact Ln.times hGm j)
    have := Nat.mul_le_mul_left G this
    omega
  · rintro ⟨j, rfl⟩
    have := lm j (by rw [Nat.mul_comm]; exact Ln.times hLm j)
    have := Nat.mul_le_mul_left L this
    omega
end KT

/-! math.lcm of small numbers -/
namespace L2
open PySem PySem.Spec PyProof.Rows
section
variable {X : Cx}
def rLcm : List V → Hp → VK → Prop := fun vs H Q => ∃ a b : Int, vs = [.int a, .int b] ∧ a.natAbs < 1000 ∧ b.natAbs < 1000 ∧ Q (.int ((Nat.lcm a.natAbs b.natAbs : Nat) : Int)) H
theorem cr_lcm : CallR X (.builtin "math.lcm") rLcm := by
  intro pins s σ H vs us Q I r h
  obtain ⟨a, b, rfl, ha, hb, q⟩ := h
  obtain ⟨t, u, rfl⟩ := Vals.int2 r
  have hl : Nat.lcm a.natAbs b.natAbs < 2 ^ 20 := by
    have h1 : Nat.lcm a.natAbs b.natAbs ≤ a.natAbs * b.natAbs := Nat.div_le_self _ _
    have h2 : a.natAbs * b.natAbs ≤ 1000 * 1000 := Nat.mul_le_mul (by omega) (by omega)
    exact Nat.lt_of_le_of_lt (Nat.le_trans h1 h2) (by decide)
  refine PySem.W.mg_lcm_v (by omega) (by omega) (by rw [Nat.lcm_one_left]) ?_ ⟨.int _, H, I.tok _, ⟨_, rfl⟩, q⟩
  have h3 : ((Nat.lcm a.natAbs b.natAbs : Nat) : Int).natAbs.log2 < 21 := by
    rw [Int.natAbs_natCast]
    by_cases z : Nat.lcm a.natAbs b.natAbs = 0
    · rw [z]; decide
    · exact (Nat.log2_lt z).mpr (by omega)
  exact Nat.lt_of_lt_of_le h3 (by decide)
end
end L2

namespace Kx
open PySem L2 MG KM
theorem tabO_ohf {b : Nat → Nat → Nat} {c n j : Nat} {T : KC.Tb} (hc : 0 < c) {v : Option Nat} (hv : KT.sel b (KT.ohf b c T (c + j) (c + j)) ((KT.ohf b c T (c + j) j).map (· + 1)) = v) :
    (tabO n (KT.ohf b c T (c + j))).set (c + j) (optV v) = tabO n (KT.ohf b c T (c + (j + 1))) := by
  rw [tabO_set]
  refine tabO_congr fun i _ => ?_
  have := KT.ohf_step (b := b) hc T (m := c + j) (by omega) i
  rw [show c + j - c = j by omega, hv] at this
  exact this
theorem tabO_ohf_stay {b : Nat → Nat → Nat} {c n j : Nat} {T : KC.Tb} (hc : 0 < c) (h : KT.ohf b c T (c + j) j = none) : tabO n (KT.ohf b c T (c + j)) = tabO n (KT.ohf b c T (c + (j + 1))) := by
  refine tabO_congr fun i _ => ?_
  have := KT.ohf_step (b := b) hc T (m := c + j) (by omega) i
  rw [show c + j - c = j by omega, h] at this
  refine Eq.trans ?_ this
  split
  · rename_i e
    subst e
    cases KT.ohf b c T (c + j) (c + j) <;> rfl
  · rfl
theorem ohf_same {b b' : Nat → Nat → Nat} {c m : Nat} {T T' : KC.Tb} (h : ∀ n, T n = none ↔ T' n = none) (n : Nat) : KT.ohf b c T m n = none ↔ KT.ohf b' c T' m n = none := by
  unfold KT.ohf
  split
  · exact KT.ohf_none h n
  · exact h n
theorem natL_snoc {cs : List Int} {i c : Nat} (hz : cs[i]? = some (c : Int)) : natL (cs.take (i + 1)) = natL (cs.take i) ++ [c] := by
  unfold natL
  rw [List.take_add_one, hz]
  simp
theorem first_min {cs : List Int} (hc : Lotc cs) {L : Int} (h : cs[0]? = some L) : ∀ c ∈ cs, L ≤ c := by
  obtain ⟨p, _⟩ := asc_pw hc.up
  match cs, h, p with
  | d :: r, h, p =>
    have e : d = L := by simpa using h
    subst e
    intro c hc'
    rcases List.mem_cons.mp hc' with rfl | hc'
    · exact Int.le_refl _
    · have := (List.pairwise_cons.mp p).1 c hc'
      omega
theorem str_facts {l g : Nat} (hl : 1 ≤ l) (hg : 1 ≤ g) (hl60 : l ≤ 60) (hg60 : g ≤ 60) : ∃ tp bo am : Nat, g / Nat.gcd l g = tp ∧ l / Nat.gcd l g = bo ∧ Nat.lcm l g = am ∧ tp * l = bo * g ∧ (∀ f m : Nat, g * f = l * m ↔ tp * f = bo * m) ∧ Nat.gcd tp bo = 1 ∧ 1 ≤ tp ∧ 1 ≤ bo ∧ tp ≤ 60 ∧ bo ≤ 60 ∧ 0 < am ∧ am ≤ 3540 ∧ (∀ n, am ∣ n ↔ l ∣ n ∧ g ∣ n) ∧ (∀ f m : Nat, l * m ≤ g * f → bo * m ≤ tp * f) := by
  have hd : 0 < Nat.gcd l g := Nat.gcd_pos_of_pos_left g hl
  have hcop := Nat.gcd_div_gcd_div_gcd_of_pos_left (n := l) (m := g) hl
  have hlcm := Nat.gcd_mul_lcm l g
  obtain ⟨tp, etp⟩ := Nat.gcd_dvd_right l g
  obtain ⟨bo, ebo⟩ := Nat.gcd_dvd_left l g
  have h1 : g / Nat.gcd l g = tp := Nat.div_eq_of_eq_mul_right hd etp
  have h2 : l / Nat.gcd l g = bo := Nat.div_eq_of_eq_mul_right hd ebo
  have htp : tp ≤ 60 := by rw [← h1]; exact Nat.le_trans (Nat.div_le_self _ _) hg60
  have hbo : bo ≤ 60 := by rw [← h2]; exact Nat.le_trans (Nat.div_le_self _ _) hl60
  have hdvd : ∀ n, Nat.lcm l g ∣ n ↔ l ∣ n ∧ g ∣ n := fun n => ⟨fun h => ⟨Nat.dvd_trans (Nat.dvd_lcm_left l g) h, Nat.dvd_trans (Nat.dvd_lcm_right l g) h⟩, fun h => Nat.lcm_dvd h.1 h.2⟩
  have hpos : 0 < Nat.lcm l g := Nat.lcm_pos hl hg
  have hle : Nat.lcm l g ≤ 3540 := by
    by_cases e : l = g
    · subst e
      have := Nat.le_of_dvd (by omega) ((hdvd l).mpr ⟨Nat.dvd_refl l, Nat.dvd_refl l⟩)
      omega
    · have h3 : Nat.lcm l g ≤ l * g := Nat.div_le_self _ _
      have h4 : l * g ≤ 3540 := by
        rcases Nat.lt_or_gt_of_ne e with z | z
        · exact Nat.mul_le_mul (show l ≤ 59 by omega) hg60
        · exact Nat.mul_le_mul hl60 (show g ≤ 59 by omega)
      omega
  rw [h1, h2] at hcop
  refine ⟨tp, bo, Nat.lcm l g, h1, h2, rfl, ?_, ?_, by rw [Nat.gcd_comm]; exact hcop, ?_, ?_, htp, hbo, hpos, hle, hdvd, ?_⟩
  all_goals generalize Nat.gcd l g = d at *
  · rw [etp, ebo]
    ac_rfl
  · intro f m
    rw [etp, ebo, Nat.mul_assoc, Nat.mul_assoc]
    exact ⟨fun h => Nat.eq_of_mul_eq_mul_left hd h, fun h => by rw [h]⟩
  · rcases Nat.eq_zero_or_pos tp with z | z
    · subst z; omega
    · exact z
  · rcases Nat.eq_zero_or_pos bo with z | z
    · subst z; omega
    · exact z
  · intro f m h
    rw [etp, ebo, Nat.mul_assoc, Nat.mul_assoc] at h
    exact Nat.le_of_mul_le_mul_left h hd
theorem shapedT (ns : List Int) : SeqAt.shaped (.tuple (ns.map .int)) = true := by
  obtain ⟨a, b⟩ := layI ns
  have d : (PyData.tuple (ns.map .int)).depth ≤ 64 := by
    show PyData.depthAll (ns.map PyData.int) + 1 ≤ 64
    omega
  have c : (PyData.tuple (ns.map .int)).canLay0 = true := a
  unfold SeqAt.shaped
  rw [c]
  simpa using d
/-! lengths: what the laws' own steps promise -/
def sp_l_tables : Sp := fun vs H Q _ => ∃ (t : Addr) (cs : List Int) (m : Nat), vs = [.ref t, .int m] ∧ H t = some (.tup (cs.map V.int)) ∧ Lotc cs ∧ m ≤ 8000 ∧
  ∀ q p1 p2 H', H q = none → H p1 = none → H p2 = none → Same H H' → H' q = some (.tup [.ref p1, .ref p2]) → H' p1 = some (.lst (tabO (m + 1) (KT.few (natL cs)))) → H' p2 = some (.lst (tabO (m + 1) (KT.many (natL cs)))) → Q (.ref q) H'
def sp_l_lowest : Sp := fun vs H Q _ => ∃ (a b : Nat), vs = [.int a, .int b] ∧ a < 1000 ∧ b < 1000 ∧ Nat.gcd a b = 1 ∧ ∀ H', Same H H' → Q (.bl true) H'
def sp_stretch (C : Addr) : Sp := fun vs H Q _ => ∃ (p : Addr) (cs : List Int) (L G : Nat), vs = [.ref p] ∧ LotAt C H p cs ∧ cs[0]? = some (L : Int) ∧ cs[cs.length - 1]? = some (G : Int) ∧
  ∀ q H', H q = none → Same H H' → H' q = some (.tup [.int (G / Nat.gcd L G : Nat), .int (L / Nat.gcd L G : Nat), .int (Nat.lcm L G : Nat)]) → Q (.ref q) H'
end Kx

/-! [12]: of great sums the least, the greatest length from those of lesser ones -/
namespace KT
theorem php : ∀ (G : Nat) (f : Nat → Nat), (∀ i, i ≤ G → f i < G) → ∃ i j, i < j ∧ j ≤ G ∧ f i = f j := by
  intro G
  induction G with
  | zero => intro f h; exact absurd (h 0 (Nat.le_refl _)) (by omega)
  | succ G ih =>
    intro f h
    by_cases q : ∃ i, i ≤ G ∧ f i = f (G + 1)
    · obtain ⟨i, hi, e⟩ := q
      exact ⟨i, G + 1, by omega, Nat.le_refl _, e⟩
    · have nq : ∀ i, i ≤ G → f i ≠ f (G + 1) := fun i hi e => q ⟨i, hi, e⟩
      have hv := h (G + 1) (Nat.le_refl _)
      obtain ⟨i, j, h1, h2, h3⟩ := ih (fun i => if f i = G then f (G + 1) else f i) fun i hi => by
        have h4 := h i (by omega)
        have h5 := nq i hi
        show (if f i = G then f (G + 1) else f i) < G
        split
        · rename_i e
          rw [e] at h5
          omega
        · omega
      refine ⟨i, j, h1, by omega, ?_⟩
      have n1 := nq i (by omega)
      have n2 := nq j h2
      have h3' : (if f i = G then f (G + 1) else f i) = (if f j = G then f (G + 1) else f j) := h3
      split at h3' <;> split at h3' <;> omega
/-- among G coins some come to a multiple of G -/
theorem mid {G : Nat} (hG : 1 ≤ G) {ds : List Nat} (hl : G ≤ ds.length) : ∃ a m z, ds = a ++ m ++ z ∧ m ≠ [] ∧ G ∣ m.sum := by
  obtain ⟨i, j, h1, h2, h3⟩ := php G (fun i => (ds.take i).sum % G) fun i _ => Nat.mod_lt _ hG
  have e1 : ds = ds.take i ++ (ds.take j).drop i ++ ds.drop j := by
    have : ds.take i = (ds.take j).take i := by rw [List.take_take, Nat.min_eq_left (by omega)]
    rw [this, List.take_append_drop, List.take_append_drop]
  have e2 : (ds.take j).sum = (ds.take i).sum + ((ds.take j).drop i).sum := by
    have : ds.take i = (ds.take j).take i := by rw [List.take_take, Nat.min_eq_left (by omega)]
    rw [this, ← List.sum_append, List.take_append_drop]
  refine ⟨_, _, _, e1, ?_, ?_⟩
  · intro z
    have := congrArg List.length z
    simp at this
    omega
  · have h3' : (ds.take i).sum % G = (ds.take j).sum % G := h3
    have h4 := Nat.div_add_mod (ds.take i).sum G
    have h5 := Nat.div_add_mod (ds.take j).sum G
    refine ⟨(ds.take j).sum / G - (ds.take i).sum / G, ?_⟩
    rw [Nat.mul_sub]
    omega
theorem ln_list {cs : List Nat} {n k : Nat} : Ln cs n k ↔ ∃ ds : List Nat, (∀ d ∈ ds, d ∈ cs) ∧ ds.sum = n ∧ ds.length = k := by
  constructor
  · intro p
    induction p with
    | zero => exact ⟨[], by simp, rfl, rfl⟩
    | @add c n k hc _ ih =>
      obtain ⟨ds, h1, h2, h3⟩ := ih
      refine ⟨c :: ds, ?_, ?_, ?_⟩
      · intro d hd
        rcases List.mem_cons.mp hd with rfl | hd
        · exact hc
        · exact h1 d hd
      · rw [List.sum_cons, h2, Nat.add_comm]
      · rw [List.length_cons, h3]
  · rintro ⟨ds, h1, rfl, rfl⟩
    induction ds with
    | nil => exact .zero
    | cons d ds ih =>
      rw [List.sum_cons, Nat.add_comm]
      exact .add (h1 d (by simp)) (ih fun x hx => h1 x (by simp [hx]))
theorem sum_le {ds : List Nat} {C : Nat} (h : ∀ d ∈ ds, d ≤ C) : ds.sum ≤ C * ds.length := by
  induction ds with
  | nil => simp
  | cons d ds ih =>
    have := ih fun x hx => h x (by simp [hx])
    have h0 := h d (by simp)
    rw [List.sum_cons, List.length_cons, Nat.mul_add, Nat.mul_one]
    omega
theorem sum_ge {ds : List Nat} {C : Nat} (h : ∀ d ∈ ds, C ≤ d) : C * ds.length ≤ ds.sum := by
  induction ds with
  | nil => simp
  | cons d ds ih =>
    have := ih fun x hx => h x (by simp [hx])
    have h0 := h d (by simp)
    rw [List.sum_cons, List.length_cons, Nat.mul_add, Nat.mul_one]
    omega
/-- a coin taken out of a payment that has it -/
theorem ln_out {cs ds : List Nat} {c : Nat} (h : ∀ d ∈ ds, d ∈ cs) (hc : c ∈ ds) : c ≤ ds.sum ∧ 1 ≤ ds.length ∧ Ln cs (ds.sum - c) (ds.length - 1) := by
  obtain ⟨a, z, rfl⟩ := List.append_of_mem hc
  have e1 : (a ++ c :: z).sum = (a ++ z).sum + c := by
    rw [List.sum_append, List.sum_append, List.sum_cons]
    omega
  have e2 : (a ++ c :: z).length = (a ++ z).length + 1 := by
    rw [List.length_append, List.length_append, List.length_cons]
    omega
  rw [e1, e2]
  refine ⟨by omega, by omega, ?_⟩
  rw [Nat.add_sub_cancel, Nat.add_sub_cancel]
  exact ln_list.mpr ⟨a ++ z, fun d hd => h d (by
    rcases List.mem_append.mp hd with q | q
    · exact List.mem_append_left _ q
    · exact List.mem_append_right _ (List.mem_cons_of_mem _ q)), rfl, rfl⟩
theorem few_back {cs : List Nat} {G C n : Nat} (hp : ∀ c ∈ cs, 0 < c) (hm : G ∈ cs) (hC : ∀ c ∈ cs, c ≠ G → c ≤ C) (hlt : ∀ c ∈ cs, c ≤ G) (hn : (G - 1) * C < n) :
    G ≤ n → few cs n = (few cs (n - G)).map (· + 1) := by
  intro hGn
  have hG := hp G hm
  have up : ∀ j, Ln cs (n - G) j → Ln cs n (j + 1) := fun j p => by
    have := Ln.add hm p
    rwa [Nat.sub_add_cancel hGn] at this
  cases e : few cs (n - G) with
  | none =>
    show few cs n = none
    rw [few_none hp]
    intro k p
    have hk : ∃ k, few cs n = some k := by
      cases e2 : few cs n with
      | none => exact absurd p ((few_none hp).mp e2 k)
      | some k => exact ⟨k, rfl⟩
    obtain ⟨k0, hk0⟩ := hk
    obtain ⟨p0, l0⟩ := (few_iff hp).mp hk0
    obtain ⟨ds, h1, h2, h3⟩ := ln_list.mp p0
    have hGd : G ∈ ds := by
      refine Classical.byContradiction fun hno => ?_
      have hle : ∀ d ∈ ds, d ≤ C := fun d hd => hC d (h1 d hd) fun z => hno (z ▸ hd)
      have hs := sum_le hle
      have hlen : G ≤ ds.length := by
        refine Classical.byContradiction fun z => ?_
        have : C * ds.length ≤ C * (G - 1) := Nat.mul_le_mul_left C (by omega)
        rw [Nat.mul_comm C (G - 1)] at this
        omega
      obtain ⟨a, m, z, e3, e4, q, e5⟩ := mid hG hlen
      have hml : ∀ d ∈ m, d ≤ G - 1 := fun d hd => by
        have hd' : d ∈ ds := by rw [e3]; simp [hd]
        have := hlt d (h1 d hd')
        have : d ≠ G := fun w => hno (w ▸ hd')
        omega
      have hms := sum_le hml
      have hmpos : 0 < m.length := List.length_pos_iff.mpr e4
      have hq : q < m.length := by
        refine Classical.byContradiction fun w => ?_
        have : G * m.length ≤ G * q := Nat.mul_le_mul_left G (by omega)
        have e6 : G * m.length = (G - 1) * m.length + m.length := by
          conv => lhs; rw [show G = (G - 1) + 1 by omega]
          rw [Nat.add_mul, Nat.one_mul]
        omega
      have p1 : Ln cs (a ++ z).sum (a ++ z).length := ln_list.mpr ⟨a ++ z, fun d hd => h1 d (by rw [e3]; simp at hd ⊢; rcases hd with h | h <;> simp [h]), rfl, rfl⟩
      have p2 := p1.sum (Ln.times hm q)
      have e7 : (a ++ z).sum + q * G = n := by
        rw [← h2, e3, List.sum_append, List.sum_append, List.sum_append, e5, Nat.mul_comm q G]
        omega
      rw [e7] at p2
      have := l0 _ p2
      rw [e3, List.length_append, List.length_append] at h3
      rw [List.length_append] at this
      omega
    obtain ⟨_, _, p4⟩ := ln_out h1 hGd
    rw [h2] at p4
    exact (few_none hp).mp e _ p4
  | some j =>
    obtain ⟨pj, lj⟩ := (few_iff hp).mp e
    show few cs n = some (j + 1)
    rw [few_iff hp]
    refine ⟨up j pj, fun k p => ?_⟩
    -- the least one of all
    have hk : ∃ k, few cs n = some k := by
      cases e2 : few cs n with
      | none => exact absurd p ((few_none hp).mp e2 k)
      | some k => exact ⟨k, rfl⟩
    obtain ⟨k0, hk0⟩ := hk
    obtain ⟨p0, l0⟩ := (few_iff hp).mp hk0
    obtain ⟨ds, h1, h2, h3⟩ := ln_list.mp p0
    have hGd : G ∈ ds := by
      refine Classical.byContradiction fun hno => ?_
      have hle : ∀ d ∈ ds, d ≤ C := fun d hd => hC d (h1 d hd) fun z => hno (z ▸ hd)
      have hs := sum_le hle
      have hlen : G ≤ ds.length := by
        refine Classical.byContradiction fun z => ?_
        have : C * ds.length ≤ C * (G - 1) := Nat.mul_le_mul_left C (by omega)
        rw [Nat.mul_comm C (G - 1)] at this
        omega
      obtain ⟨a, m, z, e3, e4, q, e5⟩ := mid hG hlen
      have hml : ∀ d ∈ m, d ≤ G - 1 := fun d hd => by
        have hd' : d ∈ ds := by rw [e3]; simp [hd]
        have := hlt d (h1 d hd')
        have : d ≠ G := fun w => hno (w ▸ hd')
        omega
      have hms := sum_le hml
      have hmpos : 0 < m.length := List.length_pos_iff.mpr e4
      have hq : q < m.length := by
        refine Classical.byContradiction fun w => ?_
        have : G * m.length ≤ G * q := Nat.mul_le_mul_left G (by omega)
        have e6 : G * m.length = (G - 1) * m.length + m.length := by
          conv => lhs; rw [show G = (G - 1) + 1 by omega]
          rw [Nat.add_mul, Nat.one_mul]
        omega
      have p1 : Ln cs (a ++ z).sum (a ++ z).length := ln_list.mpr ⟨a ++ z, fun d hd => h1 d (by rw [e3]; simp at hd ⊢; rcases hd with h | h <;> simp [h]), rfl, rfl⟩
      have p2 := p1.sum (Ln.times hm q)
      have e7 : (a ++ z).sum + q * G = n := by
        rw [← h2, e3, List.sum_append, List.sum_append, List.sum_append, e5, Nat.mul_comm q G]
        omega
      rw [e7] at p2
      have := l0 _ p2
      rw [e3, List.length_append, List.length_append] at h3
      rw [List.length_append] at this
      omega
    obtain ⟨_, _, p4⟩ := ln_out h1 hGd
    rw [h2] at p4
    have h5 := lj _ p4
    have h6 := l0 _ p
    omega
end KT

namespace KT
theorem few_some {cs : List Nat} (hp : ∀ c ∈ cs, 0 < c) {n k : Nat} (p : Ln cs n k) : ∃ j, few cs n = some j := by
  cases e : few cs n with
  | none => exact absurd p ((few_none hp).mp e k)
  | some k => exact ⟨k, rfl⟩
theorem many_some {cs : List Nat} (hp : ∀ c ∈ cs, 0 < c) {n k : Nat} (p : Ln cs n k) : ∃ j, many cs n = some j := by
  cases e : many cs n with
  | none =>
    have e2 : few cs n = none := (otb_none cs n).mpr e
    exact absurd p ((few_none hp).mp e2 k)
  | some k => exact ⟨k, rfl⟩
theorem many_has {cs : List Nat} {L G n k : Nat} (hp : ∀ c ∈ cs, 0 < c) (hm : L ∈ cs) (hL : ∀ c ∈ cs, L ≤ c) (hG : ∀ c ∈ cs, c ≤ G) (hn : (L - 1) * G < n) (e : many cs n = some k) : 1 ≤ k ∧ Ln cs (n - L) (k - 1) := by
  have hLp := hp L hm
  obtain ⟨p0, l0⟩ := (many_iff hp).mp e
  obtain ⟨ds, h1, h2, h3⟩ := ln_list.mp p0
  have hd : L ∈ ds := by
    refine Classical.byContradiction fun hno => ?_
    have hs := sum_le fun d hd => hG d (h1 d hd)
    have hlen : L ≤ ds.length := by
      refine Classical.byContradiction fun z => ?_
      have : G * ds.length ≤ G * (L - 1) := Nat.mul_le_mul_left G (by omega)
      rw [Nat.mul_comm G (L - 1)] at this
      omega
    obtain ⟨a, m, z, e3, e4, q, e5⟩ := mid hLp hlen
    have hml : ∀ d ∈ m, L + 1 ≤ d := fun d hd => by
      have hd' : d ∈ ds := by rw [e3]; simp [hd]
      have := hL d (h1 d hd')
      have : d ≠ L := fun w => hno (w ▸ hd')
      omega
    have hms := sum_ge hml
    have hmpos : 0 < m.length := List.length_pos_iff.mpr e4
    have hq : m.length < q := by
      refine Classical.byContradiction fun w => ?_
      have : L * q ≤ L * m.length := Nat.mul_le_mul_left L (by omega)
      rw [Nat.add_mul, Nat.one_mul] at hms
      omega
    have p1 : Ln cs (a ++ z).sum (a ++ z).length := ln_list.mpr ⟨a ++ z, fun d hd => h1 d (by rw [e3]; simp at hd ⊢; rcases hd with h | h <;> simp [h]), rfl, rfl⟩
    have p2 := p1.sum (Ln.times hm q)
    have e7 : (a ++ z).sum + q * L = n := by
      rw [← h2, e3, List.sum_append, List.sum_append, List.sum_append, e5, Nat.mul_comm q L]
      omega
    rw [e7] at p2
    have := l0 _ p2
    rw [e3, List.length_append, List.length_append] at h3
    rw [List.length_append] at this
    omega
  obtain ⟨_, h4, p4⟩ := ln_out h1 hd
  rw [h2, h3] at p4
  exact ⟨by omega, p4⟩
theorem many_back {cs : List Nat} {L G n : Nat} (hp : ∀ c ∈ cs, 0 < c) (hm : L ∈ cs) (hL : ∀ c ∈ cs, L ≤ c) (hG : ∀ c ∈ cs, c ≤ G) (hn : (L - 1) * G < n) (hLn : L ≤ n) : many cs n = (many cs (n - L)).map (· + 1) := by
  have up : ∀ j, Ln cs (n - L) j → Ln cs n (j + 1) := fun j p => by
    have := Ln.add hm p
    rwa [Nat.sub_add_cancel hLn] at this
  cases e : many cs (n - L) with
  | none =>
    show many cs n = none
    cases e2 : many cs n with
    | none => rfl
    | some k =>
      obtain ⟨_, p⟩ := many_has hp hm hL hG hn e2
      obtain ⟨j, hj⟩ := many_some hp p
      rw [e] at hj
      cases hj
  | some j =>
    obtain ⟨pj, lj⟩ := (many_iff hp).mp e
    show many cs n = some (j + 1)
    rw [many_iff hp]
    refine ⟨up j pj, fun k p => ?_⟩
    obtain ⟨k0, hk0⟩ := many_some hp p
    obtain ⟨h5, p4⟩ := many_has hp hm hL hG hn hk0
    have h6 := lj _ p4
    have h7 := ((many_iff hp).mp hk0).2 _ p
    omega
theorem map_map_succ (m : Nat) (x : Option Nat) : (x.map (· + m)).map (· + 1) = x.map (· + (m + 1)) := by
  cases x <;> rfl
/-- taken away m times -/
theorem back_times {f : Nat → Option Nat} {c last : Nat} (h : ∀ n, last < n → c ≤ n → f n = (f (n - c)).map (· + 1)) (hc : c ≤ last + 1) : ∀ m n, (m = 0 ∨ last + (m - 1) * c < n) → m * c ≤ n ∧ f n = (f (n - m * c)).map (· + m) := by
  intro m
  induction m with
  | zero => intro n _; refine ⟨by omega, ?_⟩; rw [Nat.zero_mul, Nat.sub_zero]; cases f n <;> rfl
  | succ m ih =>
    intro n hn
    have hn' : last + m * c < n := by
      rcases hn with hn | hn
      · omega
      · rwa [Nat.add_sub_cancel] at hn
    have h1 := h n (by omega) (by omega)
    obtain ⟨h2, h3⟩ := ih (n - c) (by
      rcases Nat.eq_zero_or_pos m with z | z
      · exact .inl z
      · right
        have e : m * c = (m - 1) * c + c := by
          rw [← Nat.succ_mul]
          congr 1
          omega
        omega)
    rw [Nat.add_mul, Nat.one_mul]
    refine ⟨by omega, ?_⟩
    rw [h1, h3, map_map_succ]
    congr 2
    omega
end KT

namespace Kx
open PySem L2 MG KM
theorem atI_neg2 {α : Type} {xs : List α} {v : α} (h : xs[xs.length - 2]? = some v) (h2 : 1 < xs.length) : atI xs (-2) = some v := by
  have e : ixN xs.length (-2) = some (xs.length - 2) := by
    unfold ixN
    rw [if_neg (by omega), if_pos (by omega)]
    congr 1
    omega
  unfold atI
  rw [e]
  exact h
theorem dp_optV {K : PySem.W.Frag} {H : Hp} : ∀ x : Option Nat, Dp K H (optV x) (optD x)
  | none => .non
  | some n => .int _
theorem dp_lstO {K : PySem.W.Frag} {H : Hp} {a : Addr} {n : Nat} {f : KC.Tb} (h : H a = some (.lst (tabO n f))) : Dp K H (.ref a) (.list (datO n f)) := .lst (.inl (.inl h)) (dpO f _)
theorem shw_opt {x : Option Nat} (h : ∀ u, x = some u → u ≤ 10 ^ 31) : Shw 1001 0 (optD x) := by
  cases x with
  | none => exact ⟨rfl, rfl, Nat.le_refl _, by decide⟩
  | some u =>
    have := h u rfl
    exact shw_int (Nat.lt_of_le_of_lt (show ((u : Nat) : Int).natAbs ≤ 10 ^ 31 by omega) (by decide +kernel))
theorem shw_lstO {n : Nat} {f : KC.Tb} (h : n ≤ 70) (hf : ∀ i u, i < n → f i = some u → u ≤ 4000) : Shw 80000 1 (.list (datO n f)) := by
  have hall : ∀ d ∈ datO n f, Shw 1001 0 d := fun d hd => by
    obtain ⟨i, hi, rfl⟩ := List.mem_map.mp hd
    exact shw_opt fun u hu => Nat.le_trans (hf i u (List.mem_range.mp hi) hu) (by decide +kernel)
  exact (shw_list (m := 70) hall (by simpa [datO] using h)).mono (by decide) (by decide)
theorem shw_lstO2 {n : Nat} {f g : KC.Tb} (h : n ≤ 70) (hf : ∀ i u, i < n → f i = some u → u ≤ 4000) (hg : ∀ i u, i < n → g i = some u → u ≤ 4000) : Shw 16000000 90 (.list [.list (datO n f), .list (datO n g)]) := by
  have hall : ∀ d ∈ [PyData.list (datO n f), PyData.list (datO n g)], Shw 80000 1 d := fun d hd => by
    simp only [List.mem_cons, List.not_mem_nil, or_false] at hd
    rcases hd with rfl | rfl
    · exact shw_lstO h hf
    · exact shw_lstO h hg
  exact (shw_list (m := 2) hall (by simp)).mono (by decide) (by decide)
theorem shw_opt2 {x y : Option Nat} (hx : ∀ u, x = some u → u ≤ 10 ^ 31) (hy : ∀ u, y = some u → u ≤ 10 ^ 31) : Shw 16000000 90 (.list [optD x, optD y]) := by
  have hall : ∀ d ∈ [optD x, optD y], Shw 1001 0 d := fun d hd => by
    simp only [List.mem_cons, List.not_mem_nil, or_false] at hd
    rcases hd with rfl | rfl
    · exact shw_opt hx
    · exact shw_opt hy
  exact (shw_list (m := 2) hall (by simp)).mono (by decide) (by decide)
theorem few_small {cs : List Int} (h : ∀ c ∈ cs, 1 ≤ c ∧ c ≤ 60) {n u : Nat} (e : KT.few (natL cs) n = some u) : u ≤ n := by
  have hp := natL_pos h
  have := (((KT.few_iff hp).mp e).1.bounds (L := 1) (G := 60) (fun c hc => hp c hc) (fun c hc => by
    obtain ⟨d, hd, rfl⟩ := List.mem_map.mp hc
    have := h d hd
    omega)).1
  omega
theorem many_small {cs : List Int} (h : ∀ c ∈ cs, 1 ≤ c ∧ c ≤ 60) {n u : Nat} (e : KT.many (natL cs) n = some u) : u ≤ n := by
  have hp := natL_pos h
  have := (((KT.many_iff hp).mp e).1.bounds (L := 1) (G := 60) (fun c hc => hp c hc) (fun c hc => by
    obtain ⟨d, hd, rfl⟩ := List.mem_map.mp hc
    have := h d hd
    omega)).1
  omega
/-! lengths: what the program promises -/
/-- the coin ahead of the greatest one; 1 if there is none -/
def AhC (cs : List Int) (C : Nat) : Prop := (cs.length = 1 ∧ C = 1) ∨ (1 < cs.length ∧ cs[cs.length - 2]? = some (C : Int))
theorem ahc_ex {cs : List Int} (hc : Lotc cs) : ∃ C, AhC cs C ∧ 1 ≤ C ∧ C ≤ 60 := by
  have hpos := List.length_pos_iff.mpr hc.ne
  by_cases h : 1 < cs.length
  · have h60 := lot_pos (Int.le_refl 0) hc.up (cs[cs.length - 2]'(by omega)) (List.getElem_mem _)
    refine ⟨(cs[cs.length - 2]'(by omega)).toNat, .inr ⟨h, ?_⟩, by omega, by omega⟩
    rw [Int.toNat_of_nonneg (by omega)]
    exact List.getElem?_eq_getElem _
  · exact ⟨1, .inl ⟨by omega, rfl⟩, by omega, by omega⟩
theorem ahc_le {cs : List Int} (hc : Lotc cs) {C G : Nat} (h : AhC cs C) (hG : cs[cs.length - 1]? = some (G : Int)) : ∀ c ∈ natL cs, c ≠ G → c ≤ C := by
  intro c hc' hne
  obtain ⟨d, hd, rfl⟩ := List.mem_map.mp hc'
  have h60 := lot_pos (Int.le_refl 0) hc.up d hd
  obtain ⟨i, hi, e⟩ := List.mem_iff_getElem.mp hd
  have hpw := (asc_pw hc.up).1
  rw [List.pairwise_iff_getElem] at hpw
  rcases h with ⟨h1, _⟩ | ⟨h1, h2⟩
  · have : i = cs.length - 1 := by omega
    subst this
    rw [List.getElem?_eq_getElem hi, e] at hG
    have : d = G := by simpa using hG
    omega
  · by_cases z : i = cs.length - 1
    · subst z
      rw [List.getElem?_eq_getElem hi, e] at hG
      have : d = G := by simpa using hG
      omega
    · rw [List.getElem?_eq_getElem (by omega)] at h2
      have h3 : cs[cs.length - 2]'(by omega) = (C : Int) := by simpa using h2
      by_cases w : i = cs.length - 2
      · subst w
        rw [e] at h3
        omega
      · have := hpw i (cs.length - 2) hi (by omega) (by omega)
        rw [h3, e] at this
        omega
/-- which of both lengths is looked for -/
def Sg (sg : Int) (b : Nat → Nat → Nat) : Prop := (sg = 1 ∧ b = min) ∨ (sg = -1 ∧ b = max)
def sp_last_without_greatest : Sp := fun vs H Q _ => ∃ (t : Addr) (cs : List Int) (C G : Nat), vs = [.ref t] ∧ H t = some (.tup (cs.map V.int)) ∧ Lotc cs ∧ AhC cs C ∧ cs[cs.length - 1]? = some (G : Int) ∧ Q (.int (((G - 1) * C : Nat) : Int)) H
def sp_last_without_least : Sp := fun vs H Q _ => ∃ (t : Addr) (cs : List Int) (L G : Nat), vs = [.ref t] ∧ H t = some (.tup (cs.map V.int)) ∧ Lotc cs ∧ cs[0]? = some (L : Int) ∧ cs[cs.length - 1]? = some (G : Int) ∧ Q (.int (((L - 1) * G : Nat) : Int)) H
def sp_brought_down : Sp := fun vs H Q _ => ∃ (n c last : Nat), vs = [.int n, .int c, .int last] ∧ 1 ≤ c ∧ c ≤ 60 ∧ last ≤ 3540 ∧ c ≤ last + 1 ∧ n ≤ 10 ^ 30 ∧
  ∀ (m left : Nat) q H', H q = none → Same H H' → (m = 0 ∨ last + (m - 1) * c < n) → left + m * c = n → left ≤ last → H' q = some (.tup [.int m, .int left]) → Q (.ref q) H'
def sp_length_table : Sp := fun vs H Q _ => ∃ (t : Addr) (cs : List Int) (m : Nat) (sg : Int) (b : Nat → Nat → Nat), vs = [.ref t, .int m, .int sg] ∧ H t = some (.tup (cs.map V.int)) ∧ Lotc cs ∧ m ≤ 8000 ∧ Sg sg b ∧
  ∀ q H', H q = none → Same H H' → H' q = some (.lst (tabO (m + 1) (KT.otb b (natL cs)))) → Q (.ref q) H'
def sp_frequent_place : Sp := fun vs H Q _ => ∃ (sg : Int) (b : Nat → Nat → Nat), vs = [.int sg] ∧ Sg sg b ∧ Q (.int (if sg = 1 then -1 else 0)) H
def sp_shortened : Sp := fun vs H Q _ => ∃ (t : Addr) (cs : List Int) (n : Nat) (sg : Int) (b : Nat → Nat → Nat), vs = [.ref t, .int n, .int sg] ∧ H t = some (.tup (cs.map V.int)) ∧ Lotc cs ∧ n ≤ 10 ^ 30 ∧ Sg sg b ∧
  ∀ (m left : Nat) q p H', H q = none → H p = none → Same H H' → H' q = some (.tup [.int m, .ref p]) → H' p = some (.lst (tabO (left + 1) (KT.otb b (natL cs)))) → KT.otb b (natL cs) n = (KT.otb b (natL cs) left).map (· + m) → left ≤ 3540 → (∀ c : Nat, (sg = 1 → cs[cs.length - 1]? = some (c : Int)) → (sg ≠ 1 → cs[0]? = some (c : Int)) → left + m * c = n) → Q (.ref q) H'
def sp_length_of (C : Addr) : Sp := fun vs H Q _ => ∃ (p : Addr) (cs : List Int) (n : Nat) (sg : Int) (b : Nat → Nat → Nat), vs = [.ref p, .int n, .int sg] ∧ LotAt C H p cs ∧ n ≤ 10 ^ 30 ∧ Sg sg b ∧ ∀ H', Same H H' → Q (optV (KT.otb b (natL cs) n)) H'
def sp_least (C : Addr) : Sp := fun vs H Q _ => ∃ (p : Addr) (cs : List Int) (n : Nat), vs = [.ref p, .int n] ∧ LotAt C H p cs ∧ n ≤ 10 ^ 30 ∧ ∀ H', Same H H' → Q (optV (KT.few (natL cs) n)) H'
def sp_most (C : Addr) : Sp := fun vs H Q _ => ∃ (p : Addr) (cs : List Int) (n : Nat), vs = [.ref p, .int n] ∧ LotAt C H p cs ∧ n ≤ 10 ^ 30 ∧ ∀ H', Same H H' → Q (optV (KT.many (natL cs) n)) H'
/-- the bounds of [12] as the law has them -/
def sp_l_edges : Sp := fun vs H Q _ => ∃ (t : Addr) (cs : List Int), vs = [.ref t] ∧ H t = some (.tup (cs.map V.int)) ∧ Lotc cs ∧ ∀ (e1 e2 : Nat) q H', H q = none → Same H H' → e1 ≤ 3540 → e2 ≤ 3540 → (∀ C G : Nat, AhC cs C → cs[cs.length - 1]? = some (G : Int) → (cs.length = 1 ∧ e1 = 0) ∨ e1 = (G - 1) * C) → (∀ L G : Nat, cs[0]? = some (L : Int) → cs[cs.length - 1]? = some (G : Int) → e2 = (L - 1) * G) → H' q = some (.lst [.int e1, .int e2]) → Q (.ref q) H'
theorem down_facts {n c last : Nat} (hc : 1 ≤ c) (hl : c ≤ last + 1) : ∃ m left : Nat, (if 0 < -(((last : Int) - (n : Int)) / (c : Int)) then -(((last : Int) - (n : Int)) / (c : Int)) else 0) = (m : Int) ∧ (n : Int) - (m : Int) * (c : Int) = (left : Int) ∧ (m = 0 ∨ last + (m - 1) * c < n) ∧ left + m * c = n ∧ left ≤ last := by
  have hd := Int.mul_ediv_add_emod ((last : Int) - (n : Int)) (c : Int)
  have h1 := Int.emod_nonneg ((last : Int) - (n : Int)) (show (c : Int) ≠ 0 by omega)
  have h2 := Int.emod_lt_of_pos ((last : Int) - (n : Int)) (show (0 : Int) < c by omega)
  generalize ((last : Int) - (n : Int)) / (c : Int) = q at hd ⊢
  generalize ((last : Int) - (n : Int)) % (c : Int) = r at hd h1 h2
  by_cases hq : 0 < -q
  · rw [if_pos hq]
    obtain ⟨m, rfl⟩ : ∃ m : Nat, q = -(m : Int) := ⟨(-q).toNat, by omega⟩
    have e : (c : Int) * -(m : Int) = -((m * c : Nat) : Int) := by rw [Int.mul_neg, Int.natCast_mul, Int.mul_comm]
    rw [e] at hd
    have hm1 : 1 ≤ m := by omega
    have e2 : m * c = (m - 1) * c + c := by
      rw [← Nat.succ_mul]
      congr 1
      omega
    refine ⟨m, n - m * c, by omega, ?_, .inr ?_, by omega, by omega⟩
    · rw [← Int.natCast_mul]
      omega
    · omega
  · rw [if_neg hq]
    have hq0 : 0 ≤ q := by omega
    have : 0 ≤ (c : Int) * q := Int.mul_nonneg (by omega) hq0
    exact ⟨0, n, rfl, by simp, .inl rfl, by simp, by omega⟩
end Kx

/-! [13]: losses and gains -/
namespace KT
open KC
theorem Ln.low {cs : List Nat} {L n k : Nat} (hL : ∀ c ∈ cs, L ≤ c) (p : Ln cs n k) : L * k ≤ n := by
  induction p with
  | zero => simp
  | @add c n k hc _ ih =>
    have h1 := hL c hc
    rw [Nat.mul_add]
    omega
theorem Ln.high {cs : List Nat} {G n k : Nat} (hG : ∀ c ∈ cs, c ≤ G) (p : Ln cs n k) : n ≤ G * k := by
  induction p with
  | zero => simp
  | @add c n k hc _ ih =>
    have h1 := hG c hc
    rw [Nat.mul_add]
    omega
theorem rea_loss {cs : List Nat} {G s v : Nat} (hG : ∀ c ∈ cs, c ≤ G) : KD.Rea (cs.map fun c => (c, G - c)) s v ↔ ∃ k, Ln cs s k ∧ v + s = G * k := by
  constructor
  · intro p
    induction p with
    | zero => exact ⟨0, .zero, rfl⟩
    | @add c e s v h _ ih =>
      obtain ⟨k, p, e1⟩ := ih
      obtain ⟨d, hd, e2⟩ := List.mem_map.mp h
      injection e2 with e3 e4
      subst e3
      subst e4
      have := hG d hd
      refine ⟨k + 1, .add hd p, ?_⟩
      rw [Nat.mul_add, Nat.mul_one]
      omega
  · rintro ⟨k, p, e⟩
    induction p generalizing v with
    | zero =>
      have : v = 0 := by simpa using e
      subst this
      exact .zero
    | @add c n k hc p ih =>
      have h1 := hG c hc
      have h2 := p.high hG
      rw [Nat.mul_add, Nat.mul_one] at e
      have := KD.Rea.add (ks := cs.map fun c => (c, G - c)) (c := c) (e := G - c) (List.mem_map.mpr ⟨c, hc, rfl⟩) (ih (v := G * k - n) (by omega))
      rw [show G * k - n + (G - c) = v by omega] at this
      exact this
theorem rea_gain {cs : List Nat} {L s v : Nat} (hL : ∀ c ∈ cs, L ≤ c) : KD.Rea (cs.map fun c => (c, c - L)) s v ↔ ∃ k, Ln cs s k ∧ s = v + L * k := by
  constructor
  · intro p
    induction p with
    | zero => exact ⟨0, .zero, rfl⟩
    | @add c e s v h _ ih =>
      obtain ⟨k, p, e1⟩ := ih
      obtain ⟨d, hd, e2⟩ := List.mem_map.mp h
      injection e2 with e3 e4
      subst e3
      subst e4
      have := hL d hd
      refine ⟨k + 1, .add hd p, ?_⟩
      rw [Nat.mul_add, Nat.mul_one]
      omega
  · rintro ⟨k, p, e⟩
    induction p generalizing v with
    | zero =>
      have : v = 0 := by omega
      subst this
      exact .zero
    | @add c n k hc p ih =>
      have h1 := hL c hc
      have h2 := p.low hL
      rw [Nat.mul_add, Nat.mul_one] at e
      have := KD.Rea.add (ks := cs.map fun c => (c, c - L)) (c := c) (e := c - L) (List.mem_map.mpr ⟨c, hc, rfl⟩) (ih (v := n - L * k) (by omega))
      rw [show n - L * k + (c - L) = v by omega] at this
      exact this
/-- brought down, with the same loss -/
theorem few_down {cs : List Nat} {G C : Nat} (hp : ∀ c ∈ cs, 0 < c) (hm : G ∈ cs) (hC : ∀ c ∈ cs, c ≠ G → c ≤ C) (hlt : ∀ c ∈ cs, c ≤ G) (hC1 : 1 ≤ C) : ∀ s f, few cs s = some f → ∃ t g, t ≤ (G - 1) * C ∧ t % G = s % G ∧ few cs t = some g ∧ G * g + s = G * f + t := by
  intro s
  induction s using Nat.strongRecOn with
  | ind s ih =>
    intro f hf
    by_cases h : s ≤ (G - 1) * C
    · exact ⟨s, f, h, rfl, hf, rfl⟩
    · have hG := hp G hm
      have hGs : G ≤ s := by
        have := Nat.mul_le_mul_left (G - 1) hC1
        omega
      have e := few_back hp hm hC hlt (show (G - 1) * C < s by omega) hGs
      rw [hf] at e
      cases e2 : few cs (s - G) with
      | none => rw [e2] at e; cases e
      | some g0 =>
        rw [e2] at e
        have e3 : f = g0 + 1 := by simpa using e
        obtain ⟨t, g, h1, h2, h3, h4⟩ := ih (s - G) (by omega) g0 e2
        refine ⟨t, g, h1, ?_, h3, ?_⟩
        · rw [h2, ← Nat.mod_eq_sub_mod hGs]
        · rw [e3, Nat.mul_add, Nat.mul_one]
          omega
theorem many_down {cs : List Nat} {L G : Nat} (hp : ∀ c ∈ cs, 0 < c) (hm : L ∈ cs) (hL : ∀ c ∈ cs, L ≤ c) (hG : ∀ c ∈ cs, c ≤ G) : ∀ s f, many cs s = some f → ∃ t g, t ≤ (L - 1) * G ∧ t % L = s % L ∧ many cs t = some g ∧ L * g + s = L * f + t := by
  intro s
  induction s using Nat.strongRecOn with
  | ind s ih =>
    intro f hf
    by_cases h : s ≤ (L - 1) * G
    · exact ⟨s, f, h, rfl, hf, rfl⟩
    · have hLp := hp L hm
      have hLs : L ≤ s := by
        have := Nat.mul_le_mul_left (L - 1) (show 1 ≤ G by have := hG L hm; omega)
        omega
      have e := many_back hp hm hL hG (show (L - 1) * G < s by omega) hLs
      rw [hf] at e
      cases e2 : many cs (s - L) with
      | none => rw [e2] at e; cases e
      | some g0 =>
        rw [e2] at e
        have e3 : f = g0 + 1 := by simpa using e
        obtain ⟨t, g, h1, h2, h3, h4⟩ := ih (s - L) (by omega) g0 e2
        refine ⟨t, g, h1, ?_, h3, ?_⟩
        · rw [h2, ← Nat.mod_eq_sub_mod hLs]
        · rw [e3, Nat.mul_add, Nat.mul_one]
          omega
/-- the least numbers by rests -/
def lbs (n : Nat) (T : Tb) (p : Nat × Nat) : Tb := fun r => if r = p.1 % n then sel min (T r) (some p.2) else T r
def lby (n : Nat) (ps : List (Nat × Nat)) : Tb := ps.foldl (lbs n) fun _ => none
theorem lby_snoc (n : Nat) (ps : List (Nat × Nat)) (p : Nat × Nat) : lby n (ps ++ [p]) = lbs n (lby n ps) p := by
  unfold lby
  rw [List.foldl_append]
  rfl
theorem lby_char (n : Nat) (ps : List (Nat × Nat)) (r : Nat) : (lby n ps r = none ∧ ∀ p ∈ ps, p.1 % n ≠ r) ∨ ∃ m, lby n ps r = some m ∧ (∃ p ∈ ps, p.1 % n = r ∧ p.2 = m) ∧ ∀ p ∈ ps, p.1 % n = r → m ≤ p.2 := by
  have key : ∀ (qs ps : List (Nat × Nat)) (T : Tb), ((T r = none ∧ ∀ p ∈ ps, p.1 % n ≠ r) ∨ ∃ m, T r = some m ∧ (∃ p ∈ ps, p.1 % n = r ∧ p.2 = m) ∧ ∀ p ∈ ps, p.1 % n = r → m ≤ p.2) →
      ((qs.foldl (lbs n) T r = none ∧ ∀ p ∈ ps ++ qs, p.1 % n ≠ r) ∨ ∃ m, qs.foldl (lbs n) T r = some m ∧ (∃ p ∈ ps ++ qs, p.1 % n = r ∧ p.2 = m) ∧ ∀ p ∈ ps ++ qs, p.1 % n = r → m ≤ p.2) := by
    intro qs
    induction qs with
    | nil => intro ps T h; simpa using h
    | cons q qs ih =>
      intro ps T h
      have := ih (ps ++ [q]) (lbs n T q) ?_
      · simpa using this
      · unfold lbs
        by_cases e : r = q.1 % n
        · rw [if_pos e]
          right
          rcases h with ⟨h1, h2⟩ | ⟨m, h1, ⟨p, hp, hp1, hp2⟩, h3⟩
          · rw [h1]
            refine ⟨q.2, rfl, ⟨q, by simp, e.symm, rfl⟩, fun p hp hr => ?_⟩
            rcases List.mem_append.mp hp with hp | hp
            · exact absurd hr (h2 p hp)
            · have : p = q := by simpa using hp
              rw [this]
              exact Nat.le_refl _
          · rw [h1]
            refine ⟨min m q.2, rfl, ?_, fun x hx hr => ?_⟩
            · by_cases z : m ≤ q.2
              · exact ⟨p, List.mem_append_left _ hp, hp1, by omega⟩
              · exact ⟨q, by simp, e.symm, by omega⟩
            · rcases List.mem_append.mp hx with hx | hx
              · have := h3 x hx hr
                omega
              · have : x = q := by simpa using hx
                rw [this]
                omega
        · rw [if_neg e]
          rcases h with ⟨h1, h2⟩ | ⟨m, h1, ⟨p, hp, hp1, hp2⟩, h3⟩
          · refine .inl ⟨h1, fun p hp hr => ?_⟩
            rcases List.mem_append.mp hp with hp | hp
            · exact h2 p hp hr
            · have : p = q := by simpa using hp
              exact e (by rw [← hr, this])
          · refine .inr ⟨m, h1, ⟨p, List.mem_append_left _ hp, hp1, hp2⟩, fun x hx hr => ?_⟩
            rcases List.mem_append.mp hx with hx | hx
            · exact h3 x hx hr
            · have : x = q := by simpa using hx
              exact absurd (by rw [← hr, this]) e
  have := key ps [] (fun _ => none) (.inl ⟨rfl, fun p hp => by cases hp⟩)
  rw [List.nil_append] at this
  exact this
/-- the losses of all paid sums up to a bound -/
def lossP (cs : List Nat) (G top : Nat) : List (Nat × Nat) := (List.range top).filterMap fun t => (few cs t).map fun f => (t, G * f - t)
def gainP (cs : List Nat) (L top : Nat) : List (Nat × Nat) := (List.range top).filterMap fun t => (many cs t).map fun f => (t, t - L * f)
theorem loss_tbl {cs : List Nat} {G C top : Nat} (hp : ∀ c ∈ cs, 0 < c) (hm : G ∈ cs) (hC : ∀ c ∈ cs, c ≠ G → c ≤ C) (hlt : ∀ c ∈ cs, c ≤ G) (hC1 : 1 ≤ C) (ht : (G - 1) * C < top) (r : Nat) :
    KD.tbl G (cs.map fun c => (c, G - c)) r = lby G (lossP cs G top) r := by
  have hG := hp G hm
  have O := KD.ok_tbl hG (cs.map fun c => (c, G - c))
  have mem : ∀ t v, (t, v) ∈ lossP cs G top ↔ t < top ∧ ∃ f, few cs t = some f ∧ v = G * f - t := by
    intro t v
    unfold lossP
    rw [List.mem_filterMap]
    constructor
    · rintro ⟨a, ha, e⟩
      cases ef : few cs a with
      | none => rw [ef] at e; cases e
      | some f =>
        rw [ef] at e
        have e' : (a, G * f - a) = (t, v) := by simpa using e
        injection e' with e1 e2
        subst e1
        exact ⟨List.mem_range.mp ha, f, ef, e2.symm⟩
    · rintro ⟨h1, f, h2, h3⟩
      exact ⟨t, List.mem_range.mpr h1, by rw [h2, h3]; rfl⟩
  -- each loss is that of a small sum or more
  have low : ∀ v, KD.tbl G (cs.map fun c => (c, G - c)) r = some v → ∃ t f, t < top ∧ t % G = r ∧ few cs t = some f ∧ G * f - t ≤ v := by
    intro v hv
    obtain ⟨s, p, hs⟩ := O.sound r v hv
    obtain ⟨k, pk, ek⟩ := (rea_loss hlt).mp p
    obtain ⟨f, hf⟩ := few_some hp pk
    have hfk := ((few_iff hp).mp hf).2 k pk
    obtain ⟨t, g, h1, h2, h3, h4⟩ := few_down hp hm hC hlt hC1 s f hf
    refine ⟨t, g, by omega, by rw [h2, hs], h3, ?_⟩
    have := Nat.mul_le_mul_left G hfk
    omega
  have up : ∀ t f, t < top → t % G = r → few cs t = some f → ∃ u, KD.tbl G (cs.map fun c => (c, G - c)) r = some u ∧ u ≤ G * f - t := by
    intro t f _ h2 h3
    have pf := ((few_iff hp).mp h3).1
    have hb := pf.high hlt
    have := KD.ok_least hG O ((rea_loss hlt).mpr ⟨f, pf, show G * f - t + t = G * f by omega⟩)
    rw [h2] at this
    exact this
  rcases lby_char G (lossP cs G top) r with ⟨h1, h2⟩ | ⟨m, h1, ⟨p, hp1, hp2, hp3⟩, h3⟩
  · rw [h1]
    cases e : KD.tbl G (cs.map fun c => (c, G - c)) r with
    | none => rfl
    | some v =>
      obtain ⟨t, f, a1, a2, a3, a4⟩ := low v e
      exact absurd a2 (h2 (t, G * f - t) ((mem _ _).mpr ⟨a1, f, a3, rfl⟩))
  · obtain ⟨b1, f, b2, b3⟩ := (mem p.1 p.2).mp hp1
    obtain ⟨u, hu, hu2⟩ := up p.1 f b1 hp2 b2
    obtain ⟨t, f', a1, a2, a3, a4⟩ := low u hu
    have := h3 (t, G * f' - t) ((mem _ _).mpr ⟨a1, f', a3, rfl⟩) a2
    rw [hu, h1]
    congr 1
    have : m ≤ G * f' - t := this
    omega
theorem gain_tbl {cs : List Nat} {L G top : Nat} (hp : ∀ c ∈ cs, 0 < c) (hm : L ∈ cs) (hL : ∀ c ∈ cs, L ≤ c) (hG : ∀ c ∈ cs, c ≤ G) (ht : (L - 1) * G < top) (r : Nat) :
    KD.tbl L (cs.map fun c => (c, c - L)) r = lby L (gainP cs L top) r := by
  have hLp := hp L hm
  have O := KD.ok_tbl hLp (cs.map fun c => (c, c - L))
  have mem : ∀ t v, (t, v) ∈ gainP cs L top ↔ t < top ∧ ∃ f, many cs t = some f ∧ v = t - L * f := by
    intro t v
    unfold gainP
    rw [List.mem_filterMap]
    constructor
    · rintro ⟨a, ha, e⟩
      cases ef : many cs a with
      | none => rw [ef] at e; cases e
      | some f =>
        rw [ef] at e
        have e' : (a, a - L * f) = (t, v) := by simpa using e
        injection e' with e1 e2
        subst e1
        exact ⟨List.mem_range.mp ha, f, ef, e2.symm⟩
    · rintro ⟨h1, f, h2, h3⟩
      exact ⟨t, List.mem_range.mpr h1, by rw [h2, h3]; rfl⟩
  have low : ∀ v, KD.tbl L (cs.map fun c => (c, c - L)) r = some v → ∃ t f, t < top ∧ t % L = r ∧ many cs t = some f ∧ t - L * f ≤ v := by
    intro v hv
    obtain ⟨s, p, hs⟩ := O.sound r v hv
    obtain ⟨k, pk, ek⟩ := (rea_gain hL).mp p
    obtain ⟨f, hf⟩ := many_some hp pk
    have hfk := ((many_iff hp).mp hf).2 k pk
    obtain ⟨t, g, h1, h2, h3, h4⟩ := many_down hp hm hL hG s f hf
    refine ⟨t, g, by omega, by rw [h2, hs], h3, ?_⟩
    have := Nat.mul_le_mul_left L hfk
    omega
  have up : ∀ t f, t < top → t % L = r → many cs t = some f → ∃ u, KD.tbl L (cs.map fun c => (c, c - L)) r = some u ∧ u ≤ t - L * f := by
    intro t f _ h2 h3
    have pf := ((many_iff hp).mp h3).1
    have hb := pf.low hL
    have := KD.ok_least hLp O ((rea_gain hL).mpr ⟨f, pf, show t = t - L * f + L * f by omega⟩)
    rw [h2] at this
    exact this
  rcases lby_char L (gainP cs L top) r with ⟨h1, h2⟩ | ⟨m, h1, ⟨p, hp1, hp2, hp3⟩, h3⟩
  · rw [h1]
    cases e : KD.tbl L (cs.map fun c => (c, c - L)) r with
    | none => rfl
    | some v =>
      obtain ⟨t, f, a1, a2, a3, a4⟩ := low v e
      exact absurd a2 (h2 (t, t - L * f) ((mem _ _).mpr ⟨a1, f, a3, rfl⟩))
  · obtain ⟨b1, f, b2, b3⟩ := (mem p.1 p.2).mp hp1
    obtain ⟨u, hu, hu2⟩ := up p.1 f b1 hp2 b2
    obtain ⟨t, f', a1, a2, a3, a4⟩ := low u hu
    have := h3 (t, t - L * f') ((mem _ _).mpr ⟨a1, f', a3, rfl⟩) a2
    rw [hu, h1]
    congr 1
    have : m ≤ t - L * f' := this
    omega
end KT

namespace Kx
open PySem L2 MG KM
def lossI (cs : List Int) (G : Nat) : KC.Tb := KD.tbl G ((natL cs).map fun c => (c, G - c))
def gainI (cs : List Int) (L : Nat) : KC.Tb := KD.tbl L ((natL cs).map fun c => (c, c - L))
def sp_losses (C : Addr) : Sp := fun vs H Q _ => ∃ (p : Addr) (cs : List Int) (G : Nat), vs = [.ref p] ∧ LotAt C H p cs ∧ cs[cs.length - 1]? = some (G : Int) ∧ ∀ q H', H q = none → Same H H' → H' q = some (.tup (tabO G (lossI cs G))) → Q (.ref q) H'
def sp_gains (C : Addr) : Sp := fun vs H Q _ => ∃ (p : Addr) (cs : List Int) (L : Nat), vs = [.ref p] ∧ LotAt C H p cs ∧ cs[0]? = some (L : Int) ∧ ∀ q H', H q = none → Same H H' → H' q = some (.tup (tabO L (gainI cs L))) → Q (.ref q) H'
/-- a list of pairs of numbers -/
def Prs (H : Hp) (l : Addr) (ps : List (Nat × Nat)) : Prop := ∃ rs : List Addr, H l = some (.lst (rs.map V.ref)) ∧ rs.length = ps.length ∧ ∀ (i : Nat) (p : Addr), rs[i]? = some p → ∃ x : Nat × Nat, ps[i]? = some x ∧ H p = some (.tup [.int x.1, .int x.2])
theorem Prs.same {H H' : Hp} {l : Addr} {ps : List (Nat × Nat)} (h : Prs H l ps) (s : Same H H') : Prs H' l ps := by
  obtain ⟨rs, a, b, c⟩ := h
  exact ⟨rs, s _ _ a, b, fun i p e => by obtain ⟨x, h1, h2⟩ := c i p e; exact ⟨x, h1, s _ _ h2⟩⟩
theorem Prs.new {l : Addr} {H : Hp} (h : H l = some (.lst [])) : Prs H l [] := ⟨[], h, rfl, fun i p e => by simp at e⟩
/-- one pair more -/
theorem Prs.more {H H5 : Hp} {l p5 : Addr} {ps : List (Nat × Nat)} {x : Nat × Nat} {rs : List Addr} (hl : H l = some (.lst (rs.map V.ref))) (hlen : rs.length = ps.length) (hps : ∀ (i : Nat) (p : Addr), rs[i]? = some p → ∃ x : Nat × Nat, ps[i]? = some x ∧ H p = some (.tup [.int x.1, .int x.2])) (s : Same H H5) (h5 : H5 p5 = some (.tup [.int x.1, .int x.2])) :
    Prs (upd H5 l (HO.lst (rs.map V.ref ++ [V.ref p5]))) l (ps ++ [x]) := by
  have key : ∀ (p : Addr) (y : Nat × Nat), H5 p = some (.tup [.int y.1, .int y.2]) → upd H5 l (HO.lst (rs.map V.ref ++ [V.ref p5])) p = some (.tup [.int y.1, .int y.2]) := fun p c h => by
    rw [upd_ne (fun z => by rw [z, s _ _ hl] at h; cases h)]
    exact h
  refine ⟨rs ++ [p5], by rw [upd_same]; simp, by simp [hlen], fun i p e => ?_⟩
  by_cases hi : i < rs.length
  · rw [List.getElem?_append_left hi] at e
    obtain ⟨y, h1, h2⟩ := hps i p e
    exact ⟨y, by rw [List.getElem?_append_left (by omega)]; exact h1, key _ _ (s _ _ h2)⟩
  · have hi2 : i = rs.length := by
      have := (List.getElem?_eq_some_iff.mp e).1
      simp at this
      omega
    subst hi2
    have : p5 = p := by simpa using e
    subst this
    refine ⟨x, ?_, key _ _ h5⟩
    rw [hlen]
    simp
theorem steps_of_prs {H : Hp} {l : Addr} {n : Nat} {ks : List (Nat × Nat)} (h : Prs H l ks) (hb : ∀ x ∈ ks, 1 ≤ x.1 ∧ x.1 ≤ 60 ∧ x.2 ≤ 1000) : Steps H l n ks := by
  obtain ⟨rs, h1, h2, h3⟩ := h
  refine ⟨rs, h1, h2, fun i p e => ?_⟩
  obtain ⟨x, h4, h5⟩ := h3 i p e
  obtain ⟨b1, b2, b3⟩ := hb x (List.mem_of_getElem? h4)
  exact ⟨_, x.1, x.2, h4, h5, stp_pos b1 b2, b3⟩
theorem items_snoc {f : Nat → Nat × Nat} {cs : List Int} {j c : Nat} (hz : cs[j]? = some (c : Int)) : ((natL cs).map f).take (j + 1) = ((natL cs).map f).take j ++ [f c] := by
  rw [List.take_add_one, List.getElem?_map]
  have : (natL cs)[j]? = some c := by
    unfold natL
    rw [List.getElem?_map, hz]
    rfl
  rw [this]
  rfl
/-- the paid sums below a bound -/
def paidN (ks : List Nat) (top : Nat) : List Nat := (List.range top).filter fun t => (KT.few ks t).isSome
theorem paidN_succ (ks : List Nat) (i : Nat) : paidN ks (i + 1) = if (KT.few ks i).isSome then paidN ks i ++ [i] else paidN ks i := by
  unfold paidN
  rw [List.range_succ, List.filter_append]
  cases h : (KT.few ks i).isSome <;> simp [h]
theorem paidN_len (ks : List Nat) (top : Nat) : (paidN ks top).length ≤ top := by
  have := List.length_filter_le (fun t => (KT.few ks t).isSome) (List.range top)
  rw [List.length_range] at this
  exact this
theorem paidN_mem {ks : List Nat} {top t : Nat} (h : t ∈ paidN ks top) : t < top ∧ ∃ f, KT.few ks t = some f := by
  obtain ⟨h1, h2⟩ := List.mem_filter.mp h
  refine ⟨List.mem_range.mp h1, ?_⟩
  cases e : KT.few ks t with
  | none => rw [e] at h2; cases h2
  | some f => exact ⟨f, rfl⟩
theorem filterMap_filter {T T' : Nat → Option Nat} (F : Nat → Nat → Nat × Nat) (h : ∀ t, T' t = none ↔ T t = none) : ∀ l : List Nat, l.filterMap (fun t => (T t).map (F t)) = (l.filter fun t => (T' t).isSome).map fun t => F t ((T t).getD 0)
  | [] => rfl
  | t :: l => by
    have ih := filterMap_filter F h l
    rw [List.filterMap_cons, List.filter_cons]
    have ht := h t
    cases e : T t with
    | none =>
      have e' := ht.mpr e
      rw [e']
      simpa using ih
    | some v =>
      cases e' : T' t with
      | none => rw [ht.mp e'] at e; cases e
      | some v' => simp [e, ih]
theorem lossP_eq (ks : List Nat) (G top : Nat) : KT.lossP ks G top = (paidN ks top).map fun t => (t, G * (KT.few ks t).getD 0 - t) := filterMap_filter (fun t f => (t, G * f - t)) (fun _ => Iff.rfl) _
theorem gainP_eq (ks : List Nat) (L top : Nat) : KT.gainP ks L top = (paidN ks top).map fun t => (t, t - L * (KT.many ks t).getD 0) := filterMap_filter (T := KT.many ks) (T' := KT.few ks) (fun t f => (t, t - L * f)) (fun t => KT.otb_none ks t) _
theorem lby_small {n r u B : Nat} {ps : List (Nat × Nat)} (h : ∀ p ∈ ps, p.2 ≤ B) (e : KT.lby n ps r = some u) : u ≤ B := by
  rcases KT.lby_char n ps r with ⟨h1, _⟩ | ⟨m, h1, ⟨p, hp, _, h2⟩, _⟩
  · rw [h1] at e; cases e
  · rw [h1] at e
    have : m = u := by simpa using e
    have := h p hp
    omega
theorem pairs_snoc {F : Nat → Nat × Nat} {ts : List Nat} {j t : Nat} (h : ts[j]? = some t) : (ts.map F).take (j + 1) = (ts.map F).take j ++ [F t] := by
  rw [List.take_add_one, List.getElem?_map, h]
  rfl
def sp_l_least_by : Sp := fun vs H Q _ => ∃ (l : Addr) (n : Nat) (ps : List (Nat × Nat)), vs = [.int n, .ref l] ∧ Prs H l ps ∧ 1 ≤ n ∧ n ≤ 60 ∧ ∀ q H', H q = none → Same H H' → H' q = some (.tup (tabO n (KT.lby n ps))) → Q (.ref q) H'
theorem shw_tabT {n : Nat} {f : KC.Tb} (h : n ≤ 60) (hf : ∀ i u, f i = some u → u ≤ 10 ^ 31) : Shw 60183 1 (.tuple (datO n f)) := by
  have hall : ∀ d ∈ datO n f, Shw 1001 0 d := fun d hd => by
    obtain ⟨i, _, rfl⟩ := List.mem_map.mp hd
    exact shw_opt (hf i)
  exact (shw_tuple (m := 60) hall (by simpa [datO] using h)).mono (by decide) (by decide)
theorem shw_twoT {n : Nat} {f : KC.Tb} (h : n ≤ 60) (hf : ∀ i u, f i = some u → u ≤ 10 ^ 31) : Shw 16000000 90 (.list [.tuple (datO n f), .tuple (datO n f)]) := by
  have hall : ∀ d ∈ [PyData.tuple (datO n f), PyData.tuple (datO n f)], Shw 60183 1 d := fun d hd => by
    simp only [List.mem_cons, List.not_mem_nil, or_false, or_self] at hd
    subst hd
    exact shw_tabT h hf
  exact (shw_list (m := 2) hall (by simp)).mono (by decide) (by decide)
theorem tabO_nones (n : Nat) : List.replicate n V.non = tabO n (fun _ => none) := by
  unfold tabO
  rw [List.map_const']
  simp
  exact .inr rfl
end Kx

/-! single sums of two coins -/
namespace KF
open KM
theorem asc_uniq : ∀ {xs ys : List Nat}, xs.Pairwise (· < ·) → ys.Pairwise (· < ·) → (∀ n, n ∈ xs ↔ n ∈ ys) → xs = ys
  | [], [], _, _, _ => rfl
  | [], y :: ys, _, _, h => by have := (h y).mpr (by simp); simp at this
  | x :: xs, [], _, _, h => by have := (h x).mp (by simp); simp at this
  | x :: xs, y :: ys, hx, hy, h => by
    obtain ⟨a1, a2⟩ := List.pairwise_cons.mp hx
    obtain ⟨b1, b2⟩ := List.pairwise_cons.mp hy
    have e : x = y := by
      have h1 := (h x).mp (by simp)
      have h2 := (h y).mpr (by simp)
      rcases List.mem_cons.mp h1 with e | h1
      · exact e
      · rcases List.mem_cons.mp h2 with e | h2
        · exact e.symm
        · have := b1 x h1
          have := a1 y h2
          omega
    subst e
    rw [asc_uniq a2 b2 fun n => ?_]
    constructor
    · intro hn
      have := a1 n hn
      rcases List.mem_cons.mp ((h n).mp (by simp [hn])) with e | q
      · omega
      · exact q
    · intro hn
      have := b1 n hn
      rcases List.mem_cons.mp ((h n).mpr (by simp [hn])) with e | q
      · omega
      · exact q
theorem fewL_asc (cs : List Int) (W : Int) (n : Nat) : (fewL cs W n).Pairwise (· < ·) := List.Pairwise.filter _ List.pairwise_lt_range
/-- two coins: the single sums -/
theorem single_two {a b d n : Nat} (ha : 1 ≤ a) (hb : 1 ≤ b) (hd : 1 ≤ d) (hne : a ≠ b) (hco : Nat.gcd a b = 1) : Few [((a * d : Nat) : Int), ((b * d : Nat) : Int)] 1 n ↔ ∃ i j, i < b ∧ j < a ∧ n = i * (a * d) + j * (b * d) := by
  have had : 1 ≤ a * d := Nat.mul_pos ha hd
  have hbd : 1 ≤ b * d := Nat.mul_pos hb hd
  have h1 : ∀ c ∈ [((a * d : Nat) : Int), ((b * d : Nat) : Int)], 1 ≤ c := by
    intro c hc
    simp only [List.mem_cons, List.not_mem_nil, or_false] at hc
    rcases hc with rfl | rfl <;> omega
  have hg : Nat.gcd (a * d) (b * d) = d := by rw [Nat.gcd_mul_right, hco, Nat.one_mul]
  have two : ∀ p : List Int, p.length = 2 → ∃ x y, p = [x, y] := fun p hp => match p, hp with
    | [x, y], _ => ⟨x, y, rfl⟩
  constructor
  · intro hf
    obtain ⟨p, hp⟩ := paid_ex h1 hf.1
    obtain ⟨l1, l2, l3⟩ := all_is h1 hp
    obtain ⟨x, y, rfl⟩ := two p l1
    have fp := fp_of (W := 1) h1 hf.2 hp
    have f1 := fp 0 1 (a * d) (b * d) x (by decide) rfl rfl rfl
    have f2 := fp 1 0 (b * d) (a * d) y (by decide) rfl rfl rfl
    rw [Nat.gcd_comm] at f2
    rw [hg, Nat.one_mul, Nat.mul_div_cancel _ hd] at f1 f2
    have x0 := l2 x (by simp)
    have y0 := l2 y (by simp)
    obtain ⟨i, rfl⟩ : ∃ i : Nat, x = i := ⟨x.toNat, by omega⟩
    obtain ⟨j, rfl⟩ : ∃ j : Nat, y = j := ⟨y.toNat, by omega⟩
    refine ⟨i, j, by omega, by omega, ?_⟩
    have e : ((a * d : Nat) : Int) * i + (((b * d : Nat) : Int) * j + 0) = n := l3
    have : ((i * (a * d) + j * (b * d) : Nat) : Int) = n := by
      rw [← e, Int.natCast_add, Int.natCast_mul i, Int.natCast_mul j, Int.mul_comm (i : Int), Int.mul_comm (j : Int)]
      omega
    omega
  · rintro ⟨i, j, hi, hj, rfl⟩
    have hin : [(i : Int), (j : Int)] ∈ allP [((a * d : Nat) : Int), ((b * d : Nat) : Int)] (i * (a * d) + j * (b * d)) := by
      refine mem_all h1 rfl (by intro m hm; simp at hm; omega) ?_
      show ((a * d : Nat) : Int) * i + (((b * d : Nat) : Int) * j + 0) = _
      rw [Int.natCast_add, Int.natCast_mul i, Int.natCast_mul j, Int.mul_comm (i : Int), Int.mul_comm (j : Int)]
      omega
    have huniq : ∀ p ∈ allP [((a * d : Nat) : Int), ((b * d : Nat) : Int)] (i * (a * d) + j * (b * d)), p = [(i : Int), (j : Int)] := by
      intro p hp
      obtain ⟨l1, l2, l3⟩ := all_is h1 hp
      obtain ⟨x, y, rfl⟩ := two p l1
      have x0 := l2 x (by simp)
      have y0 := l2 y (by simp)
      obtain ⟨u, rfl⟩ : ∃ i : Nat, x = i := ⟨x.toNat, by omega⟩
      obtain ⟨v, rfl⟩ : ∃ j : Nat, y = j := ⟨y.toNat, by omega⟩
      have e : ((a * d : Nat) : Int) * u + (((b * d : Nat) : Int) * v + 0) = (i * (a * d) + j * (b * d) : Nat) := l3
      have e2 : u * (a * d) + v * (b * d) = i * (a * d) + j * (b * d) := by
        have : ((u * (a * d) + v * (b * d) : Nat) : Int) = (i * (a * d) + j * (b * d) : Nat) := by
          rw [← e, Int.natCast_add, Int.natCast_mul u, Int.natCast_mul v, Int.mul_comm (u : Int), Int.mul_comm (v : Int)]
          omega
        omega
      have e3 : u * a + v * b = i * a + j * b := by
        have : (u * a + v * b) * d = (i * a + j * b) * d := by
          rw [Nat.add_mul, Nat.add_mul, Nat.mul_assoc, Nat.mul_assoc, Nat.mul_assoc, Nat.mul_assoc]
          exact e2
        exact Nat.eq_of_mul_eq_mul_right hd this
      have key : ∀ u v i j : Nat, u * a + v * b = i * a + j * b → u ≤ i → i < b → u = i ∧ v = j := by
        intro u v i j e hu hi
        obtain ⟨k, rfl⟩ : ∃ k, i = u + k := ⟨i - u, by omega⟩
        have e' : v * b = k * a + j * b := by
          rw [Nat.add_mul] at e
          omega
        have dv : b ∣ k * a := by
          have h2 : b ∣ k * a + j * b := ⟨v, by rw [← e', Nat.mul_comm]⟩
          exact (Nat.dvd_add_left (Nat.dvd_mul_left b j)).mp h2
        have dk : b ∣ k := Nat.Coprime.dvd_of_dvd_mul_right (by rw [Nat.coprime_comm]; exact hco) dv
        have k0 : k = 0 := by
          rcases Nat.eq_zero_or_pos k with z | z
          · exact z
          · have := Nat.le_of_dvd z dk
            omega
        subst k0
        refine ⟨rfl, ?_⟩
        have : v * b = j * b := by omega
        exact Nat.eq_of_mul_eq_mul_right hb this
      have : u = i ∧ v = j := by
        by_cases q : u ≤ i
        · exact key u v i j e3 q hi
        · -- then v < j
          have hv : v ≤ j := by
            refine Nat.le_of_not_lt fun w => ?_
            have h3 := Nat.mul_le_mul_right a (Nat.le_of_lt (Nat.lt_of_not_le q))
            have h4 : (j + 1) * b ≤ v * b := Nat.mul_le_mul_right b w
            rw [Nat.add_mul] at h4
            omega
          -- by the other coin
          obtain ⟨k, rfl⟩ : ∃ k, j = v + k := ⟨j - v, by omega⟩
          have e' : u * a = i * a + k * b := by
            rw [Nat.add_mul] at e3
            omega
          have dv : a ∣ k * b := by
            have h2 : a ∣ i * a + k * b := ⟨u, by rw [← e', Nat.mul_comm]⟩
            exact (Nat.dvd_add_right (Nat.dvd_mul_left a i)).mp h2
          have dk : a ∣ k := Nat.Coprime.dvd_of_dvd_mul_right hco dv
          have k0 : k = 0 := by
            rcases Nat.eq_zero_or_pos k with z | z
            · exact z
            · have := Nat.le_of_dvd z dk
              omega
          subst k0
          have : u * a = i * a := by omega
          exact ⟨Nat.eq_of_mul_eq_mul_right ha this, rfl⟩
      obtain ⟨rfl, rfl⟩ := this
      rfl
    have hlen := cnt_len h1 (i * (a * d) + j * (b * d))
    have hpos := List.length_pos_of_mem hin
    have hnd : (allP [((a * d : Nat) : Int), ((b * d : Nat) : Int)] (i * (a * d) + j * (b * d))).Nodup := by
      refine (all_asc h1 _).imp fun {p q} h e => ?_
      subst e
      have : ∀ p : List Int, lx p p = false := by
        intro p
        induction p with
        | nil => rfl
        | cons x p ih => simp [lx, ih]
      rw [this] at h
      cases h
    have hle : (allP [((a * d : Nat) : Int), ((b * d : Nat) : Int)] (i * (a * d) + j * (b * d))).length ≤ 1 := nodup_le (m := [[(i : Int), (j : Int)]]) hnd fun p hp => by simp [huniq p hp]
    exact ⟨by omega, by omega⟩
end KF

/-! set of a tuple of ints -/
namespace MG
open PySem PySem.Spec PyProof.Rows L2
section
variable {P : Program} {w : World} {A : Around} {E : Value → Shared → Prop} {s : Shared}
theorem set_of_tuple {l : Addr} {items : Array Value} (ns : List Int) {Q : Value → Shared → Prop} (hh : A.handled = none) (hl : s.heap.IsTuple l items) (hit : IntsAre items.toList ns) (hb : ns.length + 1 < scanBound)
    (h : ∀ (h' : Heap) (tk c : Nat), SetR w h' s.heap.objs.size (fun j => decide (j ∈ ns)) c → c ≤ ns.length → (∀ b o, s.heap.get? b = some o → h'.get? b = some o) → Q (.ref s.heap.objs.size) { s with heap := h', toks := tk }) :
    wpAny (model P w) A (call (.type "set") [.ref l]) Q E s := by
  have hisz : items.size = ns.length := (Array.length_toList ..).symm.trans (IntsAre.length hit)
  obtain ⟨c, tl, hmro⟩ := F.called_set.mro
  have hmade := F.called_set.made
  have hsub := F.called_set.sub
  refine wpAny_call (codeAny_of_tree ?_)
  show wpAny _ _ (callAny (.type "set") _) _ _ _
  refine wpAny_pure ⟨Code.quiet_builtin _ (by decide +kernel), codeAny_builtin F.entry_type_call ?_⟩
  rw [Around.under_plain (weight_type_call_type "set" [.ref l] []) rfl]
  have h1 := F.called_set.notType
  have h2 := F.called_set.canCreate
  have hct := F.typeCall_set_1 (.ref l)
  repeat (any_goals (first | assumption | wp_step))
  refine codeAny_mono (code_set_led1 (.ref l) (E := E) (Q₁ := fun ob s₁ => ob = .ref s.heap.objs.size ∧ s₁ = { s with heap := s.heap.push (emp w) }) ⟨rfl, rfl⟩) ?_
  intro r s₁ hr
  cases r with
  | error e => exact hr
  | ok fl =>
    cases fl with
    | ret ob =>
      obtain ⟨rfl, rfl⟩ := hr
      have hS : (s.heap.push (emp w)).get? s.heap.objs.size = some (emp w) := Heap.get?_push_size _ rfl
      have hT : Shared.TypeIs { s with heap := s.heap.push (emp w) } (.ref s.heap.objs.size) "set" := ⟨_, hS, rfl⟩
      have hli := F.called_set.init.lookup
      have hbi := F.called_set.init.bind (.ref s.heap.objs.size)
      repeat (any_goals (first | assumption | wp_step))
      refine codeAny_mono (codeAny_call_builtin (R := wants (fun r s₂ => r = .none ∧ ∃ h' tk c, s₂ = { s with heap := h', toks := tk } ∧ SetR w h' s.heap.objs.size (fun j => decide (j ∈ ns)) c ∧ c ≤ ns.length ∧
          (∀ b o, s.heap.get? b = some o → h'.get? b = some o)) E) F.called_set.init.plain F.entry_set_init (check_set_init_1 hT ?_)) ?_
      · obtain ⟨⟨ocls, odict, odata, oslots⟩, hol, hcl, nl, hdl⟩ := hl
        simp only at hcl hdl
        subst hcl hdl
        have hol' : (s.heap.push (emp w)).get? l = some { cls := .type "tuple", dict := odict, data := .seq items nl, slots := oslots } := Heap.get?_push_of_some _ hol
        have hsls := F.sub_tuple_set
        have hslf := F.sub_tuple_frozenset
        have hne : (Value.type "list" == Value.type "dict") = false := by decide
        have hl1 : (s.heap.push (emp w)).IsTuple l items := ⟨_, hol', rfl, nl, rfl⟩
        unfold Builtin.«set.__init__» noKeywords Builtin.Frozenset.updateFrom
        generalize hPI : pyIter = PI
        wp_walk
        subst hPI
        refine wpAny_pyIter_tuple hl1 ?_
        refine wpAny_bind (wpAny_runValue ?_)
        have hlS : l < s.heap.objs.size := Heap.lt_size hol
        have hh3 : A.in1.in1.in1.handled = none := by simp [hh]
        have hz1 : (s.heap.push (emp w)).objs.size = s.heap.objs.size + 1 := Heap.size_push ..
        have hneI : l ≠ (s.heap.push (emp w)).objs.size := by
          rw [hz1]
          exact Nat.ne_of_lt (Nat.lt_succ_of_lt hlS)
        have hSf : s.heap.objs.size ∉ [(s.heap.push (emp w)).objs.size, l] := by
          rw [hz1]
          simp only [List.mem_cons, List.not_mem_nil, or_false, not_or]
          exact ⟨Nat.ne_of_lt (Nat.lt_succ_self _), Nat.ne_of_gt hlS⟩
        refine set_update_ints ((Walks.tuple hh3 _ l hneI items).toS) s.heap.objs.size hSf ns hisz hb (ints_val hit hisz) (items.size - 0) 0 _ (by omega) (Nat.zero_le _)
          ⟨⟨_, Heap.get?_push_size _ rfl, rfl, rfl⟩, (hl1.push _)⟩ ?hS0 ?hR
        case hS0 => exact ⟨0, Nat.le_refl 0, setR_new_at (Heap.get?_push_of_some _ hS)⟩
        case hR =>
          intro s' c' hm hc' hS'
          obtain ⟨h', g2, d', tk', os'⟩ := s'
          obtain rfl : g2 = s.gens := hm.gens
          obtain rfl : d' = s.drawn := hm.drawn
          obtain rfl : os' = s.os := hm.os
          show wpAny _ _ _ _ _ _
          refine wpAny_pure ?_
          show wpAny _ _ (ret Value.none) _ _ _
          refine wpAny_pure ⟨rfl, h', tk', c', rfl, hS', hisz ▸ hc', ?_⟩
          intro b o e
          have hb0 : b < s.heap.objs.size := Heap.lt_size e
          refine hm.heap b o ?_ (Heap.get?_push_of_some _ (Heap.get?_push_of_some _ e))
          rw [hz1]
          simp only [List.mem_cons, List.not_mem_nil, or_false, not_or]
          exact ⟨Nat.ne_of_lt hb0, Nat.ne_of_lt (Nat.lt_succ_of_lt hb0)⟩
      · intro r₂ s₂ hr₂
        cases r₂ with
        | error e => exact hr₂
        | ok fl₂ =>
          cases fl₂ with
          | ret r =>
            obtain ⟨rfl, h', tk, c', rfl, hS', hc', hk'⟩ := hr₂
            repeat (any_goals (first | assumption | wp_step))
            exact h _ _ _ hS' hc' hk'
          | _ => exact hr₂.elim
    | _ => exact hr.elim
end
section
variable {X : Cx}
def rSetTi (w : World) : List V → Hp → VK → Prop := fun vs H Q => ∃ (a : Addr) (ns : List Int), vs = [.ref a] ∧ H a = some (.tup (ns.map V.int)) ∧ ns.length < 1000 ∧
  ∀ p c, H p = none → c ≤ ns.length → Q (.ref p) (upd H p (SetO w p (fun j => decide (j ∈ ns)) c))
theorem set_Ti (hc : X.calm = true) : CallR X (.type "set") (rSetTi X.w) := by
  intro pins s σ H vs us Q I r h
  obtain ⟨a, ns, rfl, ha, hl, q⟩ := h
  obtain ⟨u, rfl, rx⟩ := vals1 r
  cases (show u = Value.ref a from rx)
  obtain ⟨its, rv, p, hz⟩ := I.tuple (a := a) (xs := ns.map V.int) (sqT ha)
  refine set_of_tuple ns (I.ok.hd hc) p (by simpa using intsAre_of rv) (Nat.lt_of_le_of_lt (show ns.length + 1 ≤ 1000 by omega) (by decide)) ?_
  intro h' tk c hS hc' hk
  exact ⟨.ref _, _, I.laid (t' := tk) hk (Nat.le_refl _) (setO_new hS), rfl, q _ c (I.hok.fresh (Nat.le_refl _)) hc'⟩
end
end MG

/-! sorted of a set of ints, any number -/
namespace MG
open PySem PySem.Spec PyProof.Rows L2
section
variable {P : Program} {w : World} {A : Around} {E : Value → Shared → Prop} {s : Shared}
theorem sorted_setAny {a : Addr} {S : Int → Bool} {n : Nat} {Q : Value → Shared → Prop} (hS : SetR w s.heap a S n) (hh : A.handled = none)
    (h : ∀ (s' : Shared) (p : Nat) (out : Array Value) (c : Nat) (ns : List Int), (∀ (b : Addr) (o : Obj), s.heap.get? b = some o → s'.heap.get? b = some o) → s'.gens = s.gens → s'.os = s.os → s.heap.objs.size ≤ p → s'.heap.get? p = some (seqObj "list" out c) → IntsAre out.toList ns → List.Pairwise (fun x1 x2 => x1 < x2) ns → (∀ (k : Int), k ∈ ns ↔ S k = true) → ns.length = n → Q (Value.ref p) s') :
    wpAny (model P w) A (call (Value.builtin "sorted") [Value.ref a]) Q E s := by
  obtain ⟨o, es, ep, t, h1, h2, h3, h4, h5, h6, h7, h8, h9, h10, h11⟩ := hS
  refine PySem.Calls.call_function_entry kind_sorted plain_sorted entry_sorted (args_sorted1 _) ?_
  unfold Builtin.sorted
  have good : ∀ e ∈ es.toList, ∃ k tk, e.snd = Value.int k tk ∧ keyOf e = k := fun e he => by
    obtain ⟨k, tk, g1, _⟩ := h4 e he
    exact ⟨k, tk, g1, by unfold keyOf; rw [g1]⟩
  refine wpAny_bind (wpAny_pure ?_)
  refine wpAny_bind (collect_set (by simp [hh]) ⟨o, h1, h2.1, h3⟩ h8 h7 h10 h11 fun s1 out hk hsz hg ho hp => ?_)
  have gv : ∀ v ∈ out, ∃ k tk, v = Value.int k tk := fun v hv => by
    obtain ⟨e, he, rfl⟩ := List.mem_map.mp (hp.mem_iff.mp hv)
    obtain ⟨k, tk, g1, _⟩ := good e he
    exact ⟨k, tk, g1⟩
  have hi := ints_of out gv
  have hpk : (out.map Builtin.Re.reRawOf).Perm (es.toList.map keyOf) := by
    refine (hp.map Builtin.Re.reRawOf).trans (List.Perm.of_eq ?_)
    rw [List.map_map]
    refine List.map_congr_left fun e he => ?_
    obtain ⟨k, tk, g1, g2⟩ := good e he
    rw [g2]
    show Builtin.Re.reRawOf e.snd = k
    rw [g1]
    rfl
  have hlen : out.length = n := by
    rw [hp.length_eq, List.length_map, Array.length_toList, h9]
  have hb : out.length ≤ sizeLine := by
    rw [hlen, ← h9]
    exact Nat.le_trans (Nat.le_of_lt h7) (by decide)
  refine wpAny_bind (wpAny_newList ?_ hb)
  refine wpAny_bind (wpAny_holding (wpAny_call_entry slot_list_sort ⟨_, Heap.get?_push_size _ rfl, rfl⟩ entry_list_sort (list_sort_treeAny (n := 0) (vs := out) (Heap.get?_push_size _ rfl) hi hb fun out' ns' hi' hperm hord => ⟨_, rfl, ?_⟩) (args_list_sort _)))
  refine wpAny_pure ⟨_, rfl, ?_⟩
  have hsa : ((s1.heap.push { cls := Value.type "list", data := Data.seq out.toArray }).get? s1.heap.objs.size) = some (seqObj "list" out.toArray 0) := Heap.get?_push_size _ rfl
  obtain ⟨e, he⟩ := sortedHeap_at (out := out') hsa
  refine h _ _ out' e ns' (fun b ob eb => ?_) hg ho hsz he hi' ?_ (fun k => ?_) ?_
  · have lb : b < s1.heap.objs.size := Heap.lt_size (hk b ob eb)
    show (sortedHeap _ _ out out').get? b = some ob
    rw [sortedHeap_old (Nat.ne_of_lt lb) (by rw [size_push']; exact Nat.lt_succ_of_lt lb)]
    exact Heap.get?_push_of_some _ (hk b ob eb)
  · exact lt_of_le_nodup _ hord ((hperm.trans hpk).nodup_iff.mpr h5)
  · rw [(hperm.trans hpk).mem_iff]
    exact (h6 k).symm
  · rw [hperm.length_eq, List.length_map, hlen]
end
section
variable {X : Cx}
/-- sorted of a set of ints -/
def rSortedSetA (w : World) : List V → Hp → VK → Prop := fun vs H Q => ∃ (a : Addr) (S : Int → Bool) (n : Nat), vs = [V.ref a] ∧ H a = some (SetO w a S n) ∧ ∀ (ns : List Int) (p : Addr), ns.Pairwise (· < ·) → (∀ k, k ∈ ns ↔ S k = true) → ns.length = n → H p = none → Q (.ref p) (upd H p (.lst (ns.map V.int)))
theorem sortedSetA (hc : X.calm = true) : CallR X (.builtin "sorted") (rSortedSetA X.w) := by
  intro pins s σ H vs us Q I r h
  obtain ⟨a, S, n, rfl, ha, q⟩ := h
  obtain ⟨u, rfl, rx⟩ := vals1 r
  cases (show u = Value.ref a from rx)
  refine sorted_setAny (setO_get I ha) (I.ok.hd hc) fun s' p out c ns hk hg ho hsz hp hi hord hiff hlen => ?_
  obtain ⟨h', g', d', t', o'⟩ := s'
  obtain rfl : g' = s.gens := hg
  obtain rfl : o' = s.os := ho
  have np : H p = none := I.hok.fresh hsz
  have hok' : HOk X.prog X.w (upd H p (.lst (ns.map V.int))) h' := I.hok.laid hk hsz (by
    refine ⟨?_, out.toList, c, vals_of_ints hi, hp⟩
    obtain ⟨o, es, ep, t, h1, h2, h3, h4, h5, h6, h7, h8, h9, h10, h11⟩ := setO_get I ha
    rw [List.length_map, hlen, ← h9]
    exact Nat.le_trans (Nat.le_of_lt h7) (by decide))
  exact ⟨.ref p, upd H p (.lst (ns.map V.int)), I.call (ch := []) (Un.laid hk hsz np) hok' I.bare (fun b hb => by cases hb), rfl, q ns p hord hiff hlen np⟩
end
end MG

/-! single sums: what the law's defs promise -/
namespace Kx
open PySem L2 MG KM
def sp_l_all2 (d : Nat) : Sp := fun vs H Q _ => ∃ (t : Addr) (cs : List Int) (n : Nat), vs = [.ref t, .int n] ∧ H t = some (.tup (cs.map V.int)) ∧ (∀ c ∈ cs, 1 ≤ c ∧ c ≤ 60) ∧ cs ≠ [] ∧ cs.length ≤ d ∧ d ≤ 15 ∧ n ≤ 400000 ∧ (allP cs n).length ≤ 400000 ∧
  ∀ l H', H l = none → Same H H' → RowsL H' l (allP cs n) → Q (.ref l) H'
def sp_last_single (C : Addr) : Sp := fun vs H Q _ => ∃ (p : Addr) (cs : List Int) (m : Nat), vs = [.ref p] ∧ LotAt C H p cs ∧ 2 ≤ cs.length ∧ (fewA cs 1)[(fewA cs 1).length - 1]? = some m ∧ ∀ H', Same H H' → Q (.int m) H'
/-- the single sums of two coins, as the law lays them -/
def dueL (A B a k : Nat) : List Nat := (List.range k).flatMap fun i => (List.range a).map fun j => i * A + j * B
theorem dueL_succ (A B a k : Nat) : dueL A B a (k + 1) = dueL A B a k ++ (List.range a).map fun j => k * A + j * B := by
  unfold dueL
  rw [List.range_succ, List.flatMap_append]
  simp
theorem dueL_len (A B a : Nat) : ∀ k, (dueL A B a k).length = k * a
  | 0 => by simp [dueL]
  | k + 1 => by
    rw [dueL_succ, List.length_append, dueL_len A B a k, Nat.add_mul]
    simp
theorem dueL_mem {A B a k n : Nat} : n ∈ dueL A B a k ↔ ∃ i j, i < k ∧ j < a ∧ n = i * A + j * B := by
  simp only [dueL, List.mem_flatMap, List.mem_map, List.mem_range]
  constructor
  · rintro ⟨i, hi, j, hj, e⟩
    exact ⟨i, j, hi, hj, e.symm⟩
  · rintro ⟨i, j, hi, hj, e⟩
    exact ⟨i, hi, j, hj, e.symm⟩
theorem dueL_nodup {A B a : Nat} : ∀ {k : Nat}, (∀ i j i' j', i < k → j < a → i' < k → j' < a → i * A + j * B = i' * A + j' * B → i = i' ∧ j = j') → (dueL A B a k).Nodup
  | 0, _ => by simp [dueL]
  | k + 1, h => by
    rw [dueL_succ]
    refine List.nodup_append.mpr ⟨dueL_nodup fun i j i' j' h1 h2 h3 h4 e => h i j i' j' (by omega) h2 (by omega) h4 e, ?_, ?_⟩
    · unfold List.Nodup
      rw [List.pairwise_map]
      refine List.Pairwise.imp_of_mem (R := fun x y => x ≠ y) (fun {x y} hx hy hne e => hne ?_) List.nodup_range
      exact (h k x k y (by omega) (List.mem_range.mp hx) (by omega) (List.mem_range.mp hy) e).2
    · intro n hn m hm e
      subst e
      obtain ⟨i, j, hi, hj, e⟩ := dueL_mem.mp hn
      obtain ⟨j', hj', e'⟩ := List.mem_map.mp hm
      have := (h i j k j' (by omega) hj (by omega) (List.mem_range.mp hj') (by omega)).1
      omega
/-- a sorted row with the same members, each once, is the ascending one -/
theorem sorted_is {xs ys zs : List Nat} (hx : xs.Pairwise (· < ·)) (hp : zs.Perm ys) (hz : zs.Pairwise (· ≤ ·)) (h : ∀ n, n ∈ xs ↔ n ∈ ys) (nd : ys.Nodup) : zs = xs := by
  have nz : zs.Nodup := hp.nodup_iff.mpr nd
  refine KF.asc_uniq ?_ hx fun n => by rw [hp.mem_iff, h n]
  have := List.pairwise_and_iff.mpr ⟨hz, nz⟩
  exact this.imp fun ⟨a, b⟩ => by omega
theorem last_is : ∀ {xs : List Nat} {m : Nat}, xs.Pairwise (· < ·) → m ∈ xs → (∀ x ∈ xs, x ≤ m) → xs[xs.length - 1]? = some m
  | [], _, _, h, _ => by simp at h
  | [x], m, _, h, _ => by
    have : m = x := by simpa using h
    subst this
    rfl
  | x :: y :: r, m, hp, h, hm => by
    obtain ⟨h1, h2⟩ := List.pairwise_cons.mp hp
    have hmr : m ∈ y :: r := by
      rcases List.mem_cons.mp h with e | h
      · have := h1 y (by simp)
        have := hm y (by simp)
        omega
      · exact h
    have := last_is (xs := y :: r) h2 hmr fun z hz => hm z (List.mem_cons_of_mem _ hz)
    simpa using this
theorem lg_small {i : Int} (h : i.natAbs < 2 ^ 20) : i.natAbs.log2 < 1920 := by
  by_cases z : i.natAbs = 0
  · rw [z]
    decide
  · exact Nat.lt_trans ((Nat.log2_lt z).mpr h) (by decide)
theorem shw_rowT {xs : List Nat} {k n : Nat} (hx : ∀ x ∈ xs, x < 2 ^ k) (h1 : 1 ≤ k) (hk : k ≤ 1000) (h2 : xs.length ≤ n) (h : n * (k + 3) + 3 ≤ 16000000) : Shw 16000000 90 (.tuple (xs.map fun (x : Nat) => PyData.int x)) := by
  refine (shw_tuple (n := k + 1) (k := 0) (m := n) (fun d hd => ?_) (by simpa using h2)).mono h (by decide)
  obtain ⟨x, hx', rfl⟩ := List.mem_map.mp hd
  exact shw_intK (by simpa using hx x hx') h1 hk
/-- a row of numbers that was sorted -/
theorem nat_row {ns : List Int} {ys : List Nat} (hp : ns.Perm (ys.map fun (n : Nat) => (n : Int))) (ho : ns.Pairwise (· ≤ ·)) : ∃ zs : List Nat, ns = (zs.map fun (n : Nat) => (n : Int)) ∧ zs.Perm ys ∧ zs.Pairwise (· ≤ ·) := by
  have h0 : ∀ x ∈ ns, 0 ≤ x := fun x hx => by
    obtain ⟨y, _, rfl⟩ := List.mem_map.mp (hp.mem_iff.mp hx)
    omega
  refine ⟨ns.map Int.toNat, ?_, ?_, ?_⟩
  · rw [List.map_map]
    have : ns.map ((fun (n : Nat) => (n : Int)) ∘ Int.toNat) = ns.map id := List.map_congr_left fun x hx => by
      have := h0 x hx
      show ((x.toNat : Nat) : Int) = x
      omega
    rw [this, List.map_id]
  · have := hp.map Int.toNat
    rw [List.map_map] at this
    have e : ys.map (Int.toNat ∘ fun (n : Nat) => (n : Int)) = ys.map id := List.map_congr_left fun x _ => rfl
    rw [e, List.map_id] at this
    exact this
  · rw [List.pairwise_map]
    exact ho.imp fun h => by omega
theorem asc_row {ns : List Int} {xs : List Nat} (hx : xs.Pairwise (· < ·)) (ho : ns.Pairwise (· < ·)) (h : ∀ k, k ∈ ns ↔ decide (k ∈ xs.map fun (n : Nat) => (n : Int)) = true) : ns = xs.map fun (n : Nat) => (n : Int) := by
  have h' : ∀ k, k ∈ ns ↔ k ∈ xs.map fun (n : Nat) => (n : Int) := fun k => by rw [h k, decide_eq_true_iff]
  have h0 : ∀ x ∈ ns, 0 ≤ x := fun x hx => by
    obtain ⟨y, _, rfl⟩ := List.mem_map.mp ((h' x).mp hx)
    omega
  have e1 : ns = (ns.map Int.toNat).map fun (n : Nat) => (n : Int) := by
    rw [List.map_map]
    have : ns.map ((fun (n : Nat) => (n : Int)) ∘ Int.toNat) = ns.map id := List.map_congr_left fun x hx => by
      have := h0 x hx
      show ((x.toNat : Nat) : Int) = x
      omega
    rw [this, List.map_id]
  have e2 : ns.map Int.toNat = xs := by
    refine KF.asc_uniq ?_ hx fun n => ?_
    · rw [List.pairwise_map]
      exact List.Pairwise.imp_of_mem (fun {a b} ha hb hab => by
        have := h0 a ha
        omega) ho
    · constructor
      · intro hn
        obtain ⟨x, hx, rfl⟩ := List.mem_map.mp hn
        obtain ⟨y, hy, rfl⟩ := List.mem_map.mp ((h' x).mp hx)
        exact hy
      · intro hn
        exact List.mem_map.mpr ⟨(n : Int), (h' _).mpr (List.mem_map.mpr ⟨n, hn, rfl⟩), rfl⟩
  rw [e2] at e1
  exact e1
theorem stp_one {c : Nat} (hc : 0 < c) : ∀ n, 0 ≤ stp c w0 n ∧ stp c w0 n ≤ 1 := by
  intro n
  induction n using Nat.strongRecOn with
  | ind n ih =>
    by_cases q : c ≤ n
    · rw [stp_ge hc q]
      have := ih (n - c) (by omega)
      have z : w0 n = 0 := by
        unfold w0
        rw [if_neg (by omega)]
      omega
    · rw [stp_lt (by omega)]
      unfold w0
      split <;> omega
theorem cnt_thin {cs : List Int} (h : ∀ d ∈ cs, 1 ≤ d) (h4 : cs.length ≤ 4) {n : Nat} (hn : n ≤ 70) : cnt cs n ≤ 400000 := by
  cases cs with
  | nil =>
    show w0 n ≤ 400000
    unfold w0
    split <;> decide
  | cons c r =>
    have hc : 0 < c.toNat := by have := h c (by simp); omega
    have := (cnt_bound (N := 70) r (stp c.toNat w0) 1 (fun d hd => h d (by simp [hd])) (by decide) (fun n _ => stp_one hc n) n hn).2
    have hl : r.length ≤ 3 := by simp at h4; omega
    have e : ((70 : Nat) + 1 : Int) ^ r.length ≤ 71 ^ 3 := by
      have h3 : (71 : Nat) ^ r.length ≤ 71 ^ 3 := Nat.pow_le_pow_right (by decide) hl
      have : ((71 ^ r.length : Nat) : Int) ≤ ((71 ^ 3 : Nat) : Int) := by omega
      simpa using this
    have e2 : (71 : Int) ^ 3 = 357911 := by decide
    show r.foldl (fun w c => stp c.toNat w) (stp c.toNat w0) n ≤ 400000
    omega
theorem inV_no {xs : List Nat} {k : Nat} (h : k ∉ xs) : inV (.int k) (xs.map fun (n : Nat) => V.int n) = false := by
  unfold inV
  rw [List.any_eq_false]
  intro x hx
  obtain ⟨n, hn, rfl⟩ := List.mem_map.mp hx
  show ¬ ((n : Int) == (k : Int)) = true
  intro z
  have : (n : Int) = k := by simpa using z
  exact h (by
    have : k = n := by omega
    rw [this]
    exact hn)
/-- each single sum of two coins once -/
theorem two_inj {a b d i j i' j' : Nat} (ha : 1 ≤ a) (hb : 1 ≤ b) (hd : 1 ≤ d) (hne : a ≠ b) (hco : Nat.gcd a b = 1) (hi : i < b) (hj : j < a) (hi' : i' < b) (hj' : j' < a) (e : i * (a * d) + j * (b * d) = i' * (a * d) + j' * (b * d)) : i = i' ∧ j = j' := by
  have hf := (KF.single_two ha hb hd hne hco).mpr ⟨i, j, hi, hj, rfl⟩
  have had : 1 ≤ a * d := Nat.mul_pos ha hd
  have hbd : 1 ≤ b * d := Nat.mul_pos hb hd
  have h1 : ∀ c ∈ [((a * d : Nat) : Int), ((b * d : Nat) : Int)], 1 ≤ c := by
    intro c hc
    simp only [List.mem_cons, List.not_mem_nil, or_false] at hc
    rcases hc with rfl | rfl <;> omega
  have hin : ∀ i j : Nat, [(i : Int), (j : Int)] ∈ allP [((a * d : Nat) : Int), ((b * d : Nat) : Int)] (i * (a * d) + j * (b * d)) := fun i j => by
    refine KF.mem_all h1 rfl (by intro m hm; simp at hm; omega) ?_
    show ((a * d : Nat) : Int) * i + (((b * d : Nat) : Int) * j + 0) = _
    rw [Int.natCast_add, Int.natCast_mul i, Int.natCast_mul j, Int.mul_comm (i : Int), Int.mul_comm (j : Int)]
    omega
  have hlen := KF.cnt_len h1 (i * (a * d) + j * (b * d))
  have h2 := hin i j
  have h3 := hin i' j'
  rw [← e] at h3
  have hl1 : (allP [((a * d : Nat) : Int), ((b * d : Nat) : Int)] (i * (a * d) + j * (b * d))).length = 1 := by
    have := hf.1
    have := hf.2
    omega
  obtain ⟨p, hp⟩ := List.length_eq_one_iff.mp hl1
  rw [hp] at h2 h3
  have e1 : [(i : Int), (j : Int)] = p := by simpa using h2
  have e2 : [(i' : Int), (j' : Int)] = p := by simpa using h3
  have := e1.trans e2.symm
  simp at this
  omega
/-- the law's bound for single sums -/
def mostF (cs : List Int) (c : Int) : Int := c * (if cs[0]?.getD 0 < c then cs[0]?.getD 0 else cs[1]?.getD 0)
def mostI (cs : List Int) : Int := (cs.map (mostF cs)).sum
def mostN (cs : List Int) : Nat := (mostI cs).toNat
theorem most_take {cs : List Int} (hc : Lotc cs) (h2 : 2 ≤ cs.length) {p : List Int} (hl : p.length = cs.length) (h0 : ∀ x ∈ p, 0 ≤ x) (hp : KF.Fp cs 1 p) : ∀ k, k ≤ cs.length → wrt (cs.take k) (p.take k) ≤ ((cs.take k).map (mostF cs)).sum := by
  have h60 := lot_pos (Int.le_refl 0) hc.up
  have hpw := (asc_pw hc.up).1
  intro k
  induction k with
  | zero => intro _; simp [wrt]
  | succ k ih =>
    intro hk
    have i1 := ih (by omega)
    have e0 : cs[0]? = some cs[0] := List.getElem?_eq_getElem (by omega)
    have e01 : cs[1]? = some cs[1] := List.getElem?_eq_getElem (by omega)
    have e1 : cs[k]? = some cs[k] := List.getElem?_eq_getElem (by omega)
    have e2 : p[k]? = some p[k] := List.getElem?_eq_getElem (by omega)
    have b0 := h60 _ (List.mem_of_getElem? e0)
    have b01 := h60 _ (List.mem_of_getElem? e01)
    have b1 := h60 _ (List.mem_of_getElem? e1)
    have b2 := h0 _ (List.mem_of_getElem? e2)
    have hk0 : k = 0 ∨ cs[0] < cs[k] := by
      rcases Nat.eq_zero_or_pos k with z | z
      · exact .inl z
      · exact .inr (List.pairwise_iff_getElem.mp hpw 0 k (by omega) (by omega) z)
    rw [KF.wrt_snoc e1 e2]
    have et : (cs.take (k + 1)).map (mostF cs) = (cs.take k).map (mostF cs) ++ [mostF cs cs[k]] := by
      rw [List.take_add_one, e1, List.map_append]
      rfl
    rw [et, List.sum_append]
    have key : ∀ (j : Nat) (d : Int), k ≠ j → cs[j]? = some d → 1 ≤ d → cs[k] * p[k] ≤ cs[k] * d := fun j d hj ej hd => by
      obtain ⟨c', ec⟩ : ∃ c' : Nat, cs[k] = c' := ⟨cs[k].toNat, by omega⟩
      obtain ⟨d', rfl⟩ : ∃ d' : Nat, d = d' := ⟨d.toNat, by omega⟩
      have hx := hp k j c' d' p[k] hj (by rw [← ec]; exact e1) ej e2
      have : 1 * d' / Nat.gcd c' d' ≤ 1 * d' := Nat.div_le_self _ _
      exact Int.mul_le_mul_of_nonneg_left (by omega) (by omega)
    have hm : cs[k] * p[k] ≤ mostF cs cs[k] := by
      unfold mostF
      rw [e0, e01]
      show _ ≤ cs[k] * (if cs[0] < cs[k] then cs[0] else cs[1])
      by_cases q : cs[0] < cs[k]
      · rw [if_pos q]
        exact key 0 _ (fun z => by subst z; omega) e0 b0.1
      · rw [if_neg q]
        have : k = 0 := by omega
        exact key 1 _ (by omega) e01 b01.1
    simp only [List.sum_cons, List.sum_nil]
    omega
theorem most_nn {cs : List Int} (hc : Lotc cs) : ∀ c ∈ cs, 0 ≤ mostF cs c := fun c hm => by
  have h60 := lot_pos (Int.le_refl 0) hc.up
  have g : ∀ i : Nat, 0 ≤ cs[i]?.getD 0 := fun i => by
    cases e : cs[i]? with
    | none => simp
    | some x =>
      have := h60 x (List.mem_of_getElem? e)
      show 0 ≤ x
      omega
  have := h60 c hm
  unfold mostF
  refine Int.mul_nonneg (by omega) ?_
  split
  · exact g 0
  · exact g 1
theorem sum_nn : ∀ {xs : List Int}, (∀ x ∈ xs, 0 ≤ x) → 0 ≤ xs.sum
  | [], _ => by simp
  | x :: xs, h => by
    have := sum_nn (xs := xs) fun y hy => h y (by simp [hy])
    have := h x (by simp)
    rw [List.sum_cons]
    omega
theorem most_int {cs : List Int} (hc : Lotc cs) : mostI cs = (mostN cs : Nat) := by
  have : 0 ≤ mostI cs := sum_nn fun x hx => by
    obtain ⟨c, hc', rfl⟩ := List.mem_map.mp hx
    exact most_nn hc c hc'
  unfold mostN
  omega
theorem most_bound {cs : List Int} (hc : Lotc cs) (h2 : 2 ≤ cs.length) : ∀ n, KF.Few cs (1 : Nat) n → n ≤ mostN cs := fun n hf => by
  have h60 := lot_pos (Int.le_refl 0) hc.up
  have := KF.few_bound (W := 1) (m := mostI cs) (fun d hd => (h60 d hd).1) (fun p hl h0 hp => by
    have := most_take hc h2 hl h0 hp cs.length (Nat.le_refl _)
    rw [List.take_length, ← hl, List.take_length] at this
    exact this) hf
  rw [most_int hc] at this
  omega
theorem most_small {cs : List Int} {m : Nat} (hc : Lotc cs) (h2 : 2 ≤ cs.length) (h4 : cs.length ≤ 4) (hm : m ≤ 12) (hcm : ∀ c ∈ cs, c ≤ m) : mostN cs ≤ 576 := by
  have h60 := lot_pos (Int.le_refl 0) hc.up
  have g : ∀ i : Nat, cs[i]?.getD 0 ≤ 12 := fun i => by
    cases e : cs[i]? with
    | none => simp
    | some x =>
      have := hcm x (List.mem_of_getElem? e)
      show x ≤ 12
      omega
  have hb : ∀ c ∈ cs, mostF cs c ≤ 144 := fun c hcc => by
    have h1 := h60 c hcc
    have h2 := hcm c hcc
    unfold mostF
    have : c * (if cs[0]?.getD 0 < c then cs[0]?.getD 0 else cs[1]?.getD 0) ≤ c * 12 := Int.mul_le_mul_of_nonneg_left (by split; exact g 0; exact g 1) (by omega)
    omega
  have hs : ∀ xs : List Int, (∀ x ∈ xs, x ≤ 144) → xs.sum ≤ 144 * xs.length := by
    intro xs
    induction xs with
    | nil => intro _; simp
    | cons x xs ih =>
      intro h
      have a := ih fun y hy => h y (by simp [hy])
      have b := h x (by simp)
      rw [List.sum_cons, List.length_cons]
      omega
  have := hs (cs.map (mostF cs)) (fun x hx => by
    obtain ⟨c, hcc, rfl⟩ := List.mem_map.mp hx
    exact hb c hcc)
  rw [List.length_map] at this
  have e := most_int hc
  unfold mostI at e
  omega
end Kx

/-! moves up and down by coins: turn by turn within a window, and the least losses by rests -/
namespace KY
open KC
/-- what is reached by k turns within a window, and by how many -/
def lvl (cs : List Nat) (L : Nat) : Nat → Int → Option Nat
  | 0, p => if p = 0 then some 0 else none
  | k + 1, p => match lvl cs L k p with
    | some j => some j
    | none => if p.natAbs ≤ L ∧ (cs.any fun c => lvl cs L k (p - c) == some k || lvl cs L k (p + c) == some k) = true then some (k + 1) else none
theorem lvl_up {cs : List Nat} {L k j : Nat} {p : Int} (h : lvl cs L k p = some j) : lvl cs L (k + 1) p = some j := by
  rw [lvl, h]
theorem lvl_mono {cs : List Nat} {L k j : Nat} {p : Int} (h : lvl cs L k p = some j) : ∀ {m}, k ≤ m → lvl cs L m p = some j := fun {m} hm => by
  obtain ⟨d, rfl⟩ : ∃ d, m = k + d := ⟨m - k, by omega⟩
  clear hm
  induction d with
  | zero => exact h
  | succ d ih => exact lvl_up ih
theorem lvl_le {cs : List Nat} {L : Nat} : ∀ {k j : Nat} {p : Int}, lvl cs L k p = some j → j ≤ k
  | 0, j, p, h => by
    rw [lvl] at h
    split at h
    · have : 0 = j := by simpa using h
      omega
    · cases h
  | k + 1, j, p, h => by
    rw [lvl] at h
    cases e : lvl cs L k p with
    | some i =>
      rw [e] at h
      have : i = j := by simpa using h
      have := lvl_le e
      omega
    | none =>
      rw [e] at h
      dsimp only at h
      split at h
      · have : k + 1 = j := by simpa using h
        omega
      · cases h
theorem lvl_back {cs : List Nat} {L k j : Nat} {p : Int} (h : lvl cs L (k + 1) p = some j) (hj : j ≤ k) : lvl cs L k p = some j := by
  rw [lvl] at h
  cases e : lvl cs L k p with
  | some i =>
    rw [e] at h
    exact h
  | none =>
    rw [e] at h
    dsimp only at h
    split at h
    · have : k + 1 = j := by simpa using h
      omega
    · cases h
theorem lvl_down {cs : List Nat} {L k j : Nat} {p : Int} (h : lvl cs L k p = some j) : lvl cs L j p = some j := by
  have hj := lvl_le h
  obtain ⟨d, rfl⟩ : ∃ d, k = j + d := ⟨k - j, by omega⟩
  clear hj
  induction d with
  | zero => exact h
  | succ d ih => exact ih (lvl_back h (by omega))
theorem lvl_new {cs : List Nat} {L k : Nat} {p : Int} : lvl cs L (k + 1) p = some (k + 1) ↔ lvl cs L k p = none ∧ p.natAbs ≤ L ∧ ∃ c ∈ cs, lvl cs L k (p - c) = some k ∨ lvl cs L k (p + c) = some k := by
  rw [lvl]
  cases e : lvl cs L k p with
  | some i =>
    have := lvl_le e
    constructor
    · intro h
      have : i = k + 1 := by simpa using h
      omega
    · rintro ⟨h, _⟩
      cases h
  | none =>
    dsimp only
    constructor
    · intro h
      split at h
      · rename_i hh
        refine ⟨rfl, hh.1, ?_⟩
        simpa using hh.2
      · cases h
    · rintro ⟨_, h1, h2⟩
      rw [if_pos ⟨h1, by simpa using h2⟩]
theorem lvl_win {cs : List Nat} {L : Nat} : ∀ {k j : Nat} {p : Int}, lvl cs L k p = some j → p.natAbs ≤ L
  | 0, j, p, h => by
    rw [lvl] at h
    split at h
    · rename_i e
      rw [e]
      exact Nat.zero_le _
    · cases h
  | k + 1, j, p, h => by
    cases e : lvl cs L k p with
    | some i => exact lvl_win e
    | none =>
      rw [lvl, e] at h
      dsimp only at h
      split at h
      · rename_i hh
        exact hh.1
      · cases h
/-- moves, by coins of some kind -/
inductive Mv (S : Nat → Prop) : Int → Nat → Prop
  | zero : Mv S 0 0
  | up {c m : Nat} {p : Int} (h : S c) (q : Mv S p m) : Mv S (p + c) (m + 1)
  | dn {c m : Nat} {p : Int} (h : S c) (q : Mv S p m) : Mv S (p - c) (m + 1)
theorem Mv.mono {S R : Nat → Prop} (h : ∀ c, S c → R c) {p : Int} {m : Nat} (q : Mv S p m) : Mv R p m := by
  induction q with
  | zero => exact .zero
  | up hc _ ih => exact .up (h _ hc) ih
  | dn hc _ ih => exact .dn (h _ hc) ih
theorem Mv.neg {S : Nat → Prop} {p : Int} {m : Nat} (q : Mv S p m) : Mv S (-p) m := by
  induction q with
  | zero => exact .zero
  | @up c m p hc _ ih =>
    have := Mv.dn hc ih
    rwa [show -(p + (c : Int)) = -p - c by omega]
  | @dn c m p hc _ ih =>
    have := Mv.up hc ih
    rwa [show -(p - (c : Int)) = -p + c by omega]
theorem Mv.near {S : Nat → Prop} {C : Nat} (h : ∀ c, S c → c ≤ C) {p : Int} {m : Nat} (q : Mv S p m) : p.natAbs ≤ m * C := by
  induction q with
  | zero => simp
  | @up c m p hc _ ih =>
    have := h _ hc
    rw [Nat.add_mul]
    omega
  | @dn c m p hc _ ih =>
    have := h _ hc
    rw [Nat.add_mul]
    omega
theorem sound {cs : List Nat} {L : Nat} : ∀ {k j : Nat} {p : Int}, lvl cs L k p = some j → Mv (· ∈ cs) p j
  | 0, j, p, h => by
    rw [lvl] at h
    split at h
    · rename_i e
      have : 0 = j := by simpa using h
      subst this e
      exact .zero
    · cases h
  | k + 1, j, p, h => by
    by_cases hj : j ≤ k
    · exact sound (lvl_back h hj)
    · have := lvl_le h
      have e : j = k + 1 := by omega
      subst e
      obtain ⟨_, _, c, hc, h1 | h1⟩ := lvl_new.mp h
      · have := Mv.up (S := (· ∈ cs)) hc (sound h1)
        rwa [show p - (c : Int) + c = p by omega] at this
      · have := Mv.dn (S := (· ∈ cs)) hc (sound h1)
        rwa [show p + (c : Int) - c = p by omega] at this
/-- one turn more -/
theorem lvl_step {cs : List Nat} {L j c : Nat} {p q : Int} (hc : c ∈ cs) (hq : q = p + c ∨ q = p - c) (hL : q.natAbs ≤ L) (h : lvl cs L j p = some j) : ∃ i, i ≤ j + 1 ∧ lvl cs L (j + 1) q = some i := by
  cases e : lvl cs L j q with
  | some i => exact ⟨i, by have := lvl_le e; omega, lvl_up e⟩
  | none =>
    refine ⟨j + 1, Nat.le_refl _, lvl_new.mpr ⟨e, hL, c, hc, ?_⟩⟩
    rcases hq with rfl | rfl
    · left
      rwa [show p + (c : Int) - c = p by omega]
    · right
      rwa [show p - (c : Int) + c = p by omega]
/-- moves that stay within the window are found -/
theorem found {cs : List Nat} {L C : Nat} {S : Nat → Prop} (hS : ∀ c, S c → c ∈ cs ∧ c ≤ C) {p : Int} {m : Nat} (q : Mv S p m) (hL : m * C ≤ L) : ∃ j, j ≤ m ∧ lvl cs L m p = some j := by
  induction q with
  | zero => exact ⟨0, Nat.le_refl _, by rw [lvl, if_pos rfl]⟩
  | @up c m p hc q ih =>
    rw [Nat.add_mul] at hL
    obtain ⟨j, hj, e⟩ := ih (by omega)
    have hn := Mv.near (fun c h => (hS c h).2) q
    have := (hS c hc).2
    obtain ⟨i, hi, e2⟩ := lvl_step (q := p + c) (hS c hc).1 (.inl rfl) (by omega) (lvl_down e)
    exact ⟨i, by omega, lvl_mono e2 (by omega)⟩
  | @dn c m p hc q ih =>
    rw [Nat.add_mul] at hL
    obtain ⟨j, hj, e⟩ := ih (by omega)
    have hn := Mv.near (fun c h => (hS c h).2) q
    have := (hS c hc).2
    obtain ⟨i, hi, e2⟩ := lvl_step (q := p - c) (hS c hc).1 (.inr rfl) (by omega) (lvl_down e)
    exact ⟨i, by omega, lvl_mono e2 (by omega)⟩
/-- the steps of losses -/
def stps (G : Nat) (cs : List Nat) : List (Nat × Nat) := (cs.map fun c => (c, G - c)) ++ cs.map fun c => (G - c, G + c)
theorem mv_rea {G : Nat} {cs : List Nat} (hG : ∀ c ∈ cs, c ≤ G) {p : Int} {m : Nat} (q : Mv (· ∈ cs) p m) : ∃ s v, KD.Rea (stps G cs) s v ∧ (v : Int) = G * m - p ∧ ∃ z : Int, p = s + G * z := by
  induction q with
  | zero => exact ⟨0, 0, .zero, by simp, 0, by simp⟩
  | @up c m p hc _ ih =>
    obtain ⟨s, v, a, b, z, e⟩ := ih
    have := hG c hc
    refine ⟨s + c, v + (G - c), .add (by unfold stps; exact List.mem_append_left _ (List.mem_map.mpr ⟨c, hc, rfl⟩)) a, ?_, z, by omega⟩
    rw [Int.natCast_add, Int.natCast_sub this, Int.natCast_add, Int.mul_add, b]
    omega
  | @dn c m p hc _ ih =>
    obtain ⟨s, v, a, b, z, e⟩ := ih
    have := hG c hc
    refine ⟨s + (G - c), v + (G + c), .add (by unfold stps; exact List.mem_append_right _ (List.mem_map.mpr ⟨c, hc, rfl⟩)) a, ?_, z - 1, ?_⟩
    · rw [Int.natCast_add, Int.natCast_add, Int.natCast_add, Int.mul_add, b]
      omega
    · rw [Int.natCast_add, Int.natCast_sub this, Int.mul_sub, e]
      omega
/-- least losses by few moves, none by the greatest coin -/
theorem short {G : Nat} {cs : List Nat} {T : Tb} (hG0 : 0 < G) (hG : ∀ c ∈ cs, 0 < c ∧ c ≤ G) (O : KD.Ok G (stps G cs) T) {s v : Nat} (h : KD.Rea (stps G cs) s v) :
    T (s % G) = some v → ∃ p m, Mv (fun c => c ∈ cs ∧ c ≠ G) p m ∧ m ≤ rk T v G ∧ (v : Int) = G * m - p ∧ ∃ z : Int, p = s + G * z := by
  induction h with
  | zero => exact fun _ => ⟨0, 0, .zero, Nat.zero_le _, by simp, 0, by simp⟩
  | @add c e s v hc p ih =>
    intro hT
    obtain ⟨u, hu, huv⟩ := KD.ok_least hG0 O p
    obtain ⟨w, hw, hwu⟩ := O.closed _ hc (s % G) (Nat.mod_lt _ hG0) u hu
    simp only [Nat.mod_add_mod] at hw
    rw [hT] at hw
    have ew : v + e = w := by simpa using hw
    have euv : u = v := by omega
    subst euv
    obtain ⟨p', m', q, hm, hv, z, hz⟩ := ih hu
    have more : 0 < e → m' + 1 ≤ rk T (u + e) G := fun he => by
      have := rk_more (T := T) (show u < u + e by omega) hu G (Nat.mod_lt _ hG0)
      omega
    rcases List.mem_append.mp hc with hc | hc
    · obtain ⟨d, hd, e1⟩ := List.mem_map.mp hc
      have hd2 := hG d hd
      have x1 : c = _ := congrArg Prod.fst e1.symm
      have x2 : e = _ := congrArg Prod.snd e1.symm
      dsimp only at x1 x2
      subst x1 x2
      by_cases hdG : c = G
      · subst hdG
        refine ⟨p', m', q, ?_, by rw [Nat.sub_self]; exact hv, z - 1, ?_⟩
        · rw [Nat.sub_self]
          exact hm
        · rw [Int.natCast_add, Int.mul_sub, hz]
          omega
      · refine ⟨p' + c, m' + 1, .up ⟨hd, hdG⟩ q, more (by omega), ?_, z, by omega⟩
        rw [Int.natCast_add, Int.natCast_sub hd2.2, Int.natCast_add, Int.mul_add, hv]
        omega
    · obtain ⟨d, hd, e1⟩ := List.mem_map.mp hc
      have hd2 := hG d hd
      have x1 : c = _ := congrArg Prod.fst e1.symm
      have x2 : e = _ := congrArg Prod.snd e1.symm
      dsimp only at x1 x2
      subst x1 x2
      by_cases hdG : d = G
      · subst hdG
        exfalso
        rw [Nat.sub_self, Nat.add_zero, hu] at hT
        have : u = u + (d + d) := by simpa using hT
        omega
      · refine ⟨p' - d, m' + 1, .dn ⟨hd, hdG⟩ q, more (by omega), ?_, z - 1, ?_⟩
        · rw [Int.natCast_add, Int.natCast_add, Int.natCast_add, Int.mul_add, hv]
          omega
        · rw [Int.natCast_add, Int.natCast_sub hd2.2, Int.mul_sub, hz]
          omega
theorem rest_of {G s : Nat} {p z : Int} (h : p = s + G * z) : (p % (G : Int)).toNat = s % G := by
  rw [h, Int.add_mul_emod_self_left]
  rfl
/-- a table of losses by what is found turn by turn -/
theorem meet {G C top : Nat} {cs : List Nat} {T F : Tb} (hG0 : 0 < G) (hG : ∀ c ∈ cs, 0 < c ∧ c ≤ G) (hC : ∀ c ∈ cs, c ≠ G → c ≤ C) (O : KD.Ok G (stps G cs) T) (htop : (G - 1) * C ≤ top) (hGt : G ≤ top)
    (F1 : ∀ r v, r < G → F r = some v → ∃ p j, lvl cs top top p = some j ∧ (p % (G : Int)).toNat = r ∧ (v : Int) = G * j - p)
    (F2 : ∀ p j, p.natAbs ≤ (G - 1) * C → lvl cs top top p = some j → ∃ u, F (p % (G : Int)).toNat = some u ∧ (u : Int) ≤ G * j - p) : ∀ r, r < G → F r = T r := by
  have low : ∀ r v, r < G → F r = some v → ∃ u, T r = some u ∧ u ≤ v := fun r v hr h => by
    obtain ⟨p, j, hl, hp, hv⟩ := F1 r v hr h
    obtain ⟨s, w, a, b, z, e⟩ := mv_rea (fun c hc => (hG c hc).2) (sound hl)
    obtain ⟨u, hu, huw⟩ := KD.ok_least hG0 O a
    rw [← rest_of e, hp] at hu
    exact ⟨u, hu, by omega⟩
  have high : ∀ r v, r < G → T r = some v → ∃ u, F r = some u ∧ u ≤ v := fun r v hr h => by
    obtain ⟨s, a, hs⟩ := O.sound r v h
    obtain ⟨p, m, q, hm, hv, z, e⟩ := short hG0 hG O a (by rw [hs]; exact h)
    have hmG := rk_lt h G hr
    have hmC : m * C ≤ (G - 1) * C := Nat.mul_le_mul_right C (by omega)
    obtain ⟨j, hj, hl⟩ := found (C := C) (L := top) (fun c hc => ⟨hc.1, hC c hc.1 hc.2⟩) q (by omega)
    have hn := Mv.near (C := C) (fun c hc => hC c hc.1 hc.2) q
    obtain ⟨u, hu, hle⟩ := F2 p j (by omega) (lvl_mono hl (by omega))
    rw [rest_of e, hs] at hu
    have h1 : (G : Int) * j ≤ G * m := Int.mul_le_mul_of_nonneg_left (by omega) (by omega)
    exact ⟨u, hu, by omega⟩
  intro r hr
  cases e : T r with
  | some v =>
    obtain ⟨u, hu, h1⟩ := high r v hr e
    obtain ⟨w, hw, h2⟩ := low r u hr hu
    rw [e] at hw
    have : v = w := by simpa using hw
    rw [hu]
    congr 1
    omega
  | none =>
    cases e2 : F r with
    | none => rfl
    | some v =>
      obtain ⟨w, hw, _⟩ := low r v hr e2
      rw [e] at hw
      cases hw
end KY

namespace MG
open PySem PySem.Spec PyProof.Rows L2
/-- a comprehension over enumerate of a tuple -/
theorem lc_enT {K : PySem.W.Frag} {a : Addr} {xs : List V} {g : TG} {tt : TT} {te : TE} {vs : List Nat} {σ : L2.St} {H1 : Hp} {D : Addr} {Qd : Hp → Prop} (Pv : Nat → Hp → Prop) (h0 : Pv 0 (upd H1 D (.lst [])))
    (hq : ∀ i H, Pv i H → SqT K H a xs)
    (hs : ∀ i x T H, xs[i]? = some x → Pv i H → H T = none → g (.ref T) (wipe σ vs) (upd H T (.tup [.int (i : Nat), x])) fun σ2 H2 => wipe σ2 vs = wipe σ vs ∧ tt σ2 H2 fun b H3 =>
      if b = true then te σ2 H3 fun z H4 => ∃ acc, H4 D = some (.lst acc) ∧ acc.length < sizeLine ∧ Pv (i + 1) (upd H4 D (.lst (acc ++ [z]))) else Pv (i + 1) H3) (hd : ∀ H, Pv xs.length H → Qd H) :
    ∃ W : Nat → Nat → Hp → Prop, (∃ m, W 0 m (upd H1 D (.lst []))) ∧ ∀ i m H, W i m H →
      ((Iet K a xs).stop i H ∧ Qd H) ∨ ((Iet K a xs).go i H ∧ ∃ Nx : Hp → Prop, (∀ H', Nx H' → ∃ m', m' < m ∧ W (i + 1) m' H') ∧ ∀ x H', (Iet K a xs).yld i H x H' → g x (wipe σ vs) H' fun σ2 H2 => wipe σ2 vs = wipe σ vs ∧ tt σ2 H2 fun b H3 =>
        if b = true then te σ2 H3 fun y H4 => ∃ acc, H4 D = some (.lst acc) ∧ acc.length < sizeLine ∧ Nx (upd H4 D (.lst (acc ++ [y]))) else Nx H3) := by
  refine ⟨fun i m H => m = xs.length - i ∧ i ≤ xs.length ∧ Pv i H, ⟨xs.length, by simp, Nat.zero_le _, h0⟩, ?_⟩
  rintro i m H ⟨rfl, hi, p⟩
  have q1 := hq i H p
  by_cases hlt : i < xs.length
  · refine .inr ⟨⟨q1, hlt⟩, Pv (i + 1), fun H' p' => ⟨xs.length - (i + 1), by omega, rfl, hlt, p'⟩, ?_⟩
    rintro x H' ⟨T, y, rfl, hT, rfl, hy⟩
    exact hs i y T H hy p hT
  · have e : i = xs.length := by omega
    subst e
    exact .inl ⟨⟨q1, rfl⟩, hd H p⟩
end MG

/-! comprehensions with two generators: a walk, whatever is done in each turn -/
namespace MG
open PySem PySem.Spec PyProof.Rows L2
section
variable {prog : Program} {w : World} {A : Around} {E : Value → Shared → Prop} {s : Shared} {l : Addr} {xs : Array (Int × Tok)}
theorem max_intTup {Q : Value → Shared → Prop} (hh : A.handled = none) (hl : s.heap.IsTuple l (intItems xs)) (hne : 0 < xs.size)
    (h : ∀ v h' tk, (intItems xs)[argBest (fun i j => decide (numAt xs i > numAt xs j)) (xs.size - 1)]? = some v → (∀ b o, s.heap.get? b = some o → h'.get? b = some o) → Q v { s with heap := h', toks := tk }) :
    wpAny (model prog w) A (call (.builtin "max") [.ref l]) Q E s := by
  have hlt : l < s.heap.objs.size := by obtain ⟨_, e, _⟩ := hl; exact Heap.lt_size e
  refine call_max_walk (wpAny_pyIter_tuple hl ?_)
  have st : Heap.IsTupleIter (s.heap.push { cls := .type "tuple_iterator", data := .fields #[.ref l, .int 0 0] }) s.heap.objs.size l 0 := ⟨_, Heap.get?_push_size _ rfl, rfl, rfl⟩
  have tp : Heap.IsTuple (s.heap.push { cls := .type "tuple_iterator", data := .fields #[.ref l, .int 0 0] }) l (intItems xs) := by
    obtain ⟨o, e, r⟩ := hl
    exact ⟨o, Heap.get?_push_of_some _ e, r⟩
  refine ⟨_, _, _, _, _, _, _, rfl, Walks.tuple (A := A.in1) hh _ l (Nat.ne_of_lt hlt) (intItems xs), ⟨st, tp⟩, fun b hb => ?_, by simpa [intItems] using hne, CmpOf.ints_gt (numAt xs) (fun _ _ => intItems_at), fun v h' tk hP hk => ?_⟩
  · show b < (s.heap.push _).objs.size
    rw [Heap.size_push]
    rcases List.mem_cons.mp hb with rfl | hb
    · exact Nat.lt_succ_self _
    · rcases List.mem_cons.mp hb with rfl | hb
      · exact Nat.lt_succ_of_lt hlt
      · cases hb
  · refine h v h' tk (by simpa [intItems] using hP) fun b o e => hk b o (fun hm => ?_) (Heap.get?_push_of_some _ e)
    rcases List.mem_cons.mp hm with e1 | hm
    · exact absurd (e1 ▸ Heap.lt_size e) (Nat.lt_irrefl _)
    · cases hm
theorem max_rawT {its : List Value} {ns : List Int} {Q : Value → Shared → Prop} (hh : A.handled = none) (hl : s.heap.IsTuple l its.toArray) (hi : IntsAre its ns) (hne : 0 < ns.length)
    (h : ∀ h' tk M t', (∀ b o, s.heap.get? b = some o → h'.get? b = some o) → M ∈ ns → (∀ a, a ∈ ns → a ≤ M) → Q (.int M t') { s with heap := h', toks := tk }) : wpAny (model prog w) A (call (.builtin "max") [.ref l]) Q E s := by
  obtain ⟨xs, e⟩ := hi.allInts.items
  have hn : numsOf (intItems xs).toList = ns := by rw [← e]; exact hi.numsOf
  rw [nums_intItems] at hn
  subst hn
  rw [e] at hl
  refine max_intTup hh hl (by simpa using hne) fun v h' tk hv hk => ?_
  obtain ⟨t, rfl⟩ := intItems_at hv
  obtain ⟨h1, h2⟩ := argBest_gt (numAt xs) (xs.size - 1)
  have hsz : 0 < xs.size := by simpa using hne
  refine h h' tk _ t hk ?_ fun a ha => ?_
  · rw [numAt_eq]; exact PySem.getD_mem (by rw [List.length_map, Array.length_toList]; omega)
  · obtain ⟨j, hj, rfl⟩ := mem_getD ha
    rw [List.length_map, Array.length_toList] at hj
    rw [← numAt_eq]; exact h2 j (by omega)
end
section
variable {X : Cx}
/-- max of a tuple of ints -/
def rMaxT (K : PySem.W.Frag) : List V → Hp → VK → Prop := fun vs H Q => ∃ (a : Addr) (ns : List Int), vs = [V.ref a] ∧ SqT K H a (ns.map V.int) ∧ 0 < ns.length ∧ ∀ m, m ∈ ns → (∀ y, y ∈ ns → y ≤ m) → Q (.int m) H
theorem max_T (hc : X.calm = true) : CallR X (.builtin "max") (rMaxT X.K) := by
  intro pins s σ H vs us Q I r h
  obtain ⟨a, ns, rfl, hs, hne, q⟩ := h
  obtain ⟨its, rv, hl, _⟩ := I.tuple hs
  rw [Vals.ref1 r]
  exact max_rawT (I.ok.hd hc) hl rv.ints hne fun h' tk m t' hk h1 h2 => ⟨.int _, H, I.kept hk, ⟨_, rfl⟩, q m h1 h2⟩
end
theorem it_enT {K : PySem.W.Frag} {a : Addr} {xs : List V} {Hs : Hp} {B : V → Hp → (Hp → Prop) → Prop} {Qd : Hp → Prop} (Pv : Nat → Hp → Prop) (h0 : Pv 0 Hs) (hq : ∀ i H, Pv i H → SqT K H a xs)
    (hs : ∀ i x T H, xs[i]? = some x → Pv i H → H T = none → B (.ref T) (upd H T (.tup [.int (i : Nat), x])) (Pv (i + 1))) (hd : ∀ H, Pv xs.length H → Qd H) :
    ∃ W : Nat → Nat → Hp → Prop, (∃ m, W 0 m Hs) ∧ ∀ i m H, W i m H →
      ((Iet K a xs).stop i H ∧ Qd H) ∨ ((Iet K a xs).go i H ∧ ∃ Nx : Hp → Prop, (∀ H', Nx H' → ∃ m', m' < m ∧ W (i + 1) m' H') ∧ ∀ x H', (Iet K a xs).yld i H x H' → B x H' Nx) := by
  refine ⟨fun i m H => m = xs.length - i ∧ i ≤ xs.length ∧ Pv i H, ⟨xs.length, by simp, Nat.zero_le _, h0⟩, ?_⟩
  rintro i m H ⟨rfl, hi, p⟩
  have q1 := hq i H p
  by_cases hlt : i < xs.length
  · refine .inr ⟨⟨q1, hlt⟩, Pv (i + 1), fun H' p' => ⟨xs.length - (i + 1), by omega, rfl, hlt, p'⟩, ?_⟩
    rintro x H' ⟨T, y, rfl, hT, rfl, hy⟩
    exact hs i y T H hy p hT
  · have e : i = xs.length := by omega
    subst e
    exact .inl ⟨⟨q1, rfl⟩, hd H p⟩
theorem it_rangeC {lo c : Int} {n : Nat} {Hs : Hp} {B : V → Hp → (Hp → Prop) → Prop} {Qd : Hp → Prop} (Pv : Nat → Hp → Prop) (h0 : Pv 0 Hs)
    (hs : ∀ i H, i < n → Pv i H → B (.int (lo + (i : Int) * c)) H (Pv (i + 1))) (hd : ∀ H, Pv n H → Qd H) :
    ∃ W : Nat → Nat → Hp → Prop, (∃ m, W 0 m Hs) ∧ ∀ i m H, W i m H →
      ((Itc lo c n).stop i H ∧ Qd H) ∨ ((Itc lo c n).go i H ∧ ∃ Nx : Hp → Prop, (∀ H', Nx H' → ∃ m', m' < m ∧ W (i + 1) m' H') ∧ ∀ x H', (Itc lo c n).yld i H x H' → B x H' Nx) := by
  refine ⟨fun i m H => m = n - i ∧ i ≤ n ∧ Pv i H, ⟨n, by simp, Nat.zero_le _, h0⟩, ?_⟩
  rintro i m H ⟨rfl, hi, p⟩
  by_cases hlt : i < n
  · refine .inr ⟨hlt, Pv (i + 1), fun H' p' => ⟨n - (i + 1), by omega, rfl, hlt, p'⟩, fun x H' z => ?_⟩
    obtain ⟨rfl, rfl⟩ := z
    exact hs i _ hlt p
  · have e : i = n := by omega
    subst e
    exact .inl ⟨Nat.le_refl _, hd H p⟩
theorem rgC0 {i j c : Nat} (hc : 0 < c) (h1 : i < 2 ^ 40) (h2 : j < 2 ^ 40) (h3 : c < 2 ^ 29) (hij : j ≤ i) : RgC (i : Int) (j : Int) (c : Int) 0 := by
  have e : Builtin.Range.rangeSize (i : Int) (j : Int) (c : Int) = ((0 : Nat) : Int) := by
    unfold Builtin.Range.rangeSize
    rw [if_pos (by omega), if_neg (by omega)]
    rfl
  refine ⟨by omega, by omega, ?_, e⟩
  unfold Builtin.Range.small
  rw [e, if_pos (by omega)]
  clear e
  simp only [Builtin.Range.rangeFitsLong, Bool.and_eq_true, Bool.or_eq_true, decide_eq_true_eq]
  omega
end MG

/-! repr of data or None -/
namespace MG
open PySem PySem.Spec PyProof.Rows L2
def rReprV (K : PySem.W.Frag) : List V → Hp → VK → Prop := fun xs H Q => (xs = [.non] ∧ Q (.str (Str.ofString "None")) H) ∨ rReprS K xs H Q
theorem repr_V {X : Cx} {n : Nat} (hg : X.A.guards = some []) (rm : Room n X.A) : CallR X (.builtin "repr") (rReprV X.K) := by
  intro pins s σ H xs us Q I r h
  rcases h with ⟨rfl, q⟩ | h
  · obtain ⟨u, rfl, rx⟩ := vals1 r
    cases (show u = Value.none from rx)
    exact P.repr_of_none ⟨.str _, H, I.kept (fun _ _ e => e), ⟨_, rfl⟩, q⟩
  · exact repr_S hg rm pins s σ H xs us Q I r h
/-- is, is not of bools -/
theorem op_isB {X : Cx} : OpR X (compareOp .Is) (fun x y H Q => ∃ a b, x = .bl a ∧ y = .bl b ∧ Q (.bl (decide (a = b))) H) := by
  intro pins s σ H x y v u Q I rx ry h
  obtain ⟨a, b, rfl, rfl, q⟩ := h
  cases (show v = .bool a from rx)
  cases (show u = .bool b from ry)
  show wpAny _ _ (do let d ← isSame (Value.bool a) (Value.bool b); pure (Value.bool d)) _ _ _
  unfold isSame
  refine wpAny_bind ?_
  show wpAny _ _ (pure (Value.bool a == Value.bool b)) _ _ _
  refine wpAny_pure (wpAny_pure ⟨_, H, I, ?_, q⟩)
  cases a <;> cases b <;> rfl
theorem op_notB {X : Cx} : OpR X (compareOp .IsNot) (fun x y H Q => ∃ a b, x = .bl a ∧ y = .bl b ∧ Q (.bl (!decide (a = b))) H) := by
  intro pins s σ H x y v u Q I rx ry h
  obtain ⟨a, b, rfl, rfl, q⟩ := h
  cases (show v = .bool a from rx)
  cases (show u = .bool b from ry)
  show wpAny _ _ (do let d ← isSame (Value.bool a) (Value.bool b); pure (Value.bool !d)) _ _ _
  unfold isSame
  refine wpAny_bind ?_
  show wpAny _ _ (pure (Value.bool a == Value.bool b)) _ _ _
  refine wpAny_pure (wpAny_pure ⟨_, H, I, ?_, q⟩)
  cases a <;> cases b <;> rfl
end MG

/-! moves: what the program's defs promise -/
namespace Kx
open PySem L2 MG KM
/-- a list of pairs of a number and a cost -/
def PrsZ (H : Hp) (l : Addr) (ps : List (Int × Nat)) : Prop := ∃ rs : List Addr, H l = some (.lst (rs.map V.ref)) ∧ rs.length = ps.length ∧ ∀ (i : Nat) (p : Addr), rs[i]? = some p → ∃ x : Int × Nat, ps[i]? = some x ∧ H p = some (.tup [.int x.1, .int x.2])
theorem PrsZ.same {H H' : Hp} {l : Addr} {ps : List (Int × Nat)} (h : PrsZ H l ps) (s : Same H H') : PrsZ H' l ps := by
  obtain ⟨rs, a, b, c⟩ := h
  exact ⟨rs, s _ _ a, b, fun i p e => by obtain ⟨x, h1, h2⟩ := c i p e; exact ⟨x, h1, s _ _ h2⟩⟩
theorem PrsZ.new {l : Addr} {H : Hp} (h : H l = some (.lst [])) : PrsZ H l [] := ⟨[], h, rfl, fun i p e => by simp at e⟩
theorem PrsZ.more {H H5 : Hp} {l p5 : Addr} {ps : List (Int × Nat)} {x : Int × Nat} {rs : List Addr} (hl : H l = some (.lst (rs.map V.ref))) (hlen : rs.length = ps.length) (hps : ∀ (i : Nat) (p : Addr), rs[i]? = some p → ∃ x : Int × Nat, ps[i]? = some x ∧ H p = some (.tup [.int x.1, .int x.2])) (s : Same H H5) (h5 : H5 p5 = some (.tup [.int x.1, .int x.2])) :
    PrsZ (upd H5 l (HO.lst (rs.map V.ref ++ [V.ref p5]))) l (ps ++ [x]) := by
  have key : ∀ (p : Addr) (y : Int × Nat), H5 p = some (.tup [.int y.1, .int y.2]) → upd H5 l (HO.lst (rs.map V.ref ++ [V.ref p5])) p = some (.tup [.int y.1, .int y.2]) := fun p c h => by
    rw [upd_ne (fun z => by rw [z, s _ _ hl] at h; cases h)]
    exact h
  refine ⟨rs ++ [p5], by rw [upd_same]; simp, by simp [hlen], fun i p e => ?_⟩
  by_cases hi : i < rs.length
  · rw [List.getElem?_append_left hi] at e
    obtain ⟨y, h1, h2⟩ := hps i p e
    exact ⟨y, by rw [List.getElem?_append_left (by omega)]; exact h1, key _ _ (s _ _ h2)⟩
  · have hi2 : i = rs.length := by
      have := (List.getElem?_eq_some_iff.mp e).1
      simp at this
      omega
    subst hi2
    have : p5 = p := by simpa using e
    subst this
    refine ⟨x, ?_, key _ _ h5⟩
    rw [hlen]
    simp
/-- two rows behind one another, as steps -/
theorem steps_cat {H : Hp} {l : Addr} {n : Nat} {xs ys : List (Int × Nat)} {rs ts : List Addr} {ks : List (Nat × Nat)} (hl : H l = some (.lst (rs.map V.ref ++ ts.map V.ref))) (hr : rs.length = xs.length) (ht : ts.length = ys.length)
    (h1 : ∀ (i : Nat) (p : Addr), rs[i]? = some p → ∃ x : Int × Nat, xs[i]? = some x ∧ H p = some (.tup [.int x.1, .int x.2])) (h2 : ∀ (i : Nat) (p : Addr), ts[i]? = some p → ∃ x : Int × Nat, ys[i]? = some x ∧ H p = some (.tup [.int x.1, .int x.2]))
    (hk : ks.length = (xs ++ ys).length) (hs : ∀ (i : Nat) (x : Int × Nat), (xs ++ ys)[i]? = some x → ∃ c, ks[i]? = some (c, x.2) ∧ Stp n x.1 c ∧ x.2 ≤ 1000) : Steps H l n ks := by
  refine ⟨rs ++ ts, by rw [hl, List.map_append], by simp [hk, hr, ht], fun i p e => ?_⟩
  have : ∃ x : Int × Nat, (xs ++ ys)[i]? = some x ∧ H p = some (.tup [.int x.1, .int x.2]) := by
    by_cases hi : i < rs.length
    · rw [List.getElem?_append_left hi] at e
      obtain ⟨x, a, b⟩ := h1 i p e
      exact ⟨x, by rw [List.getElem?_append_left (by omega)]; exact a, b⟩
    · rw [List.getElem?_append_right (by omega)] at e
      obtain ⟨x, a, b⟩ := h2 _ p e
      refine ⟨x, ?_, b⟩
      rw [List.getElem?_append_right (by omega), ← hr]
      exact a
  obtain ⟨x, a, b⟩ := this
  obtain ⟨c, h3, h4, h5⟩ := hs i x a
  exact ⟨x.1, c, x.2, h3, b, h4, h5⟩
theorem items_snocZ {f : Nat → Int × Nat} {cs : List Int} {j c : Nat} (hz : cs[j]? = some (c : Int)) : ((natL cs).map f).take (j + 1) = ((natL cs).map f).take j ++ [f c] := by
  rw [List.take_add_one, List.getElem?_map]
  have : (natL cs)[j]? = some c := by
    unfold natL
    rw [List.getElem?_map, hz]
    rfl
  rw [this]
  rfl
theorem stp_dn {n c : Nat} (h1 : 1 ≤ c) (h60 : c ≤ 60) (hn : c ≤ n) : Stp n (-(c : Int)) (n - c) := by
  refine ⟨by omega, by omega, fun x => ?_, ?_⟩
  · have e : (x : Int) + -(c : Int) = ((x + (n - c) : Nat) : Int) + (n : Int) * (-1) := by omega
    rw [e, Int.add_mul_emod_self_left]
    rfl
  · rw [Int.natAbs_neg, Int.natAbs_natCast]
    refine Nat.dvd_antisymm (Nat.dvd_gcd (Nat.gcd_dvd_left _ _) (Nat.dvd_sub (Nat.gcd_dvd_left _ _) (Nat.gcd_dvd_right _ _))) (Nat.dvd_gcd (Nat.gcd_dvd_left _ _) ?_)
    have h := Nat.dvd_sub (Nat.gcd_dvd_left n (n - c)) (Nat.gcd_dvd_right n (n - c))
    rwa [show n - (n - c) = c by omega] at h
def movI (cs : List Int) (G : Nat) : KC.Tb := KD.tbl G (KY.stps G (natL cs))
/-- the greatest of a table -/
def Worst (G : Nat) (T : KC.Tb) (w : Nat) : Prop := (∃ r, r < G ∧ T r = some w) ∧ ∀ r u, r < G → T r = some u → u ≤ w
def worstL (G : Nat) (T : KC.Tb) (w : Nat) : List Nat := (List.range G).filter fun r => decide (T r = some w)
def sp_moved_losses (C : Addr) : Sp := fun vs H Q _ => ∃ (p : Addr) (cs : List Int) (G : Nat), vs = [.ref p] ∧ LotAt C H p cs ∧ cs[cs.length - 1]? = some (G : Int) ∧ ∀ q H', H q = none → Same H H' → H' q = some (.tup (tabO G (movI cs G))) → Q (.ref q) H'
def sp_worst_rests (C : Addr) : Sp := fun vs H Q _ => ∃ (p : Addr) (cs : List Int) (G : Nat), vs = [.ref p] ∧ LotAt C H p cs ∧ cs[cs.length - 1]? = some (G : Int) ∧ ∀ q q2 w H', Same H H' → Worst G (movI cs G) w → H' q = some (.tup [.int (w : Nat), .ref q2]) → H' q2 = some (.tup ((worstL G (movI cs G) w).map fun (r : Nat) => V.int r)) → Q (.ref q) H'
/-- a dict of what is reached -/
def DOf (kvs : List (L2.Key × V)) (cs : List Int) (L k : Nat) : Prop := ∀ p : Int, valV kvs (.inl p) = (KY.lvl (natL cs) L k p).map fun (j : Nat) => V.int j
def sp_l_moves : Sp := fun vs H Q _ => ∃ (t : Addr) (cs : List Int) (L : Nat), vs = [.ref t, .int L] ∧ H t = some (.tup (cs.map V.int)) ∧ Lotc cs ∧ L ≤ 10000 ∧
  ∀ d kvs H', H d = none → Same H H' → H' d = some (.dK kvs) → DOf kvs cs L L → Q (.ref d) H'
def sp_l_due34 : Sp := fun vs H Q _ => ∃ (t : Addr) (cs : List Int) (G : Nat), vs = [.ref t] ∧ H t = some (.tup (cs.map V.int)) ∧ Lotc cs ∧ cs[cs.length - 1]? = some (G : Int) ∧
  ∀ q H', H q = none → Same H H' → H' q = some (.tup (tabO G (movI cs G))) → Q (.ref q) H'
/-- the keys of a dict of numbers -/
def Keys (kvs : List (L2.Key × V)) (L : Nat) : Prop := ∃ ps : List Int, kvs.map (·.1) = ps.map Sum.inl ∧ ps.Nodup ∧ ∀ p ∈ ps, p.natAbs ≤ L
theorem Keys.len {kvs : List (L2.Key × V)} {L : Nat} (h : Keys kvs L) : kvs.length ≤ 2 * L + 1 := by
  obtain ⟨ps, a, b, c⟩ := h
  have e := congrArg List.length a
  rw [List.length_map, List.length_map] at e
  have := KF.nodup_le (m := (List.range (2 * L + 1)).map fun (i : Nat) => (i : Int) - L) b fun p hp => by
    have := c p hp
    exact List.mem_map.mpr ⟨(p + L).toNat, List.mem_range.mpr (by omega), by omega⟩
  rw [List.length_map, List.length_range] at this
  omega
theorem valV_key {kvs : List (L2.Key × V)} {k : L2.Key} (h : valV kvs k = none) : k ∉ kvs.map (·.1) := by
  intro hk
  have := valV_any k kvs
  rw [h] at this
  obtain ⟨x, hx, e⟩ := List.mem_map.mp hk
  have h2 : (kvs.any fun kv => decide (kv.1 = k)) = true := List.any_eq_true.mpr ⟨x, hx, by simp [e]⟩
  rw [h2] at this
  cases this
theorem Keys.put {kvs : List (L2.Key × V)} {L : Nat} {p : Int} {v : V} (h : Keys kvs L) (hn : valV kvs (.inl p) = none) (hp : p.natAbs ≤ L) : Keys (putK kvs (.inl p) v) L := by
  obtain ⟨ps, a, b, c⟩ := h
  rw [putK_new v hn]
  refine ⟨ps ++ [p], by simp [a], List.nodup_append.mpr ⟨b, by simp, fun x hx y hy e => ?_⟩, fun q hq => ?_⟩
  · have ey : y = p := by simpa using hy
    subst e ey
    have := valV_key hn
    rw [a] at this
    exact this (List.mem_map.mpr ⟨_, hx, rfl⟩)
  · rcases List.mem_append.mp hq with hq | hq
    · exact c q hq
    · have : q = p := by simpa using hq
      rw [this]
      exact hp
/-- half way through a turn -/
structure Nw (cs : List Int) (L i : Nat) (kvs : List (L2.Key × V)) (new : List Int) (Cand : Int → Prop) : Prop where
  val : ∀ p : Int, valV kvs (.inl p) = if p ∈ new then some (V.int ((i + 1 : Nat) : Int)) else (KY.lvl (natL cs) L i p).map fun (j : Nat) => V.int j
  nd : new.Nodup
  mem : ∀ q : Int, q ∈ new ↔ Cand q ∧ q.natAbs ≤ L ∧ KY.lvl (natL cs) L i q = none
  keys : Keys kvs L
theorem Nw.start {cs : List Int} {L i : Nat} {kvs : List (L2.Key × V)} (h : DOf kvs cs L i) (k : Keys kvs L) : Nw cs L i kvs [] (fun _ => False) :=
  ⟨fun p => by rw [if_neg (by simp)]; exact h p, List.nodup_nil, fun q => by simp, k⟩
theorem Nw.cong {cs : List Int} {L i : Nat} {kvs : List (L2.Key × V)} {new : List Int} {A B : Int → Prop} (h : Nw cs L i kvs new A) (e : ∀ q, A q ↔ B q) : Nw cs L i kvs new B :=
  ⟨h.val, h.nd, fun q => by rw [h.mem q, e q], h.keys⟩
theorem Nw.free {cs : List Int} {L i : Nat} {kvs : List (L2.Key × V)} {new : List Int} {A : Int → Prop} (h : Nw cs L i kvs new A) {q : Int} : valV kvs (.inl q) = none ↔ q ∉ new ∧ KY.lvl (natL cs) L i q = none := by
  rw [h.val q]
  constructor
  · intro e
    split at e
    · cases e
    · exact ⟨by assumption, by simpa using e⟩
  · rintro ⟨a, b⟩
    rw [if_neg a, b]
    rfl
theorem Nw.put {cs : List Int} {L i : Nat} {kvs : List (L2.Key × V)} {new : List Int} {A : Int → Prop} (h : Nw cs L i kvs new A) {q : Int} (hq : q.natAbs ≤ L) (hn : valV kvs (.inl q) = none) : Nw cs L i (putK kvs (.inl q) (.int ((i + 1 : Nat) : Int))) (new ++ [q]) (fun x => A x ∨ x = q) := by
  obtain ⟨n1, n2⟩ := h.free.mp hn
  refine ⟨fun p => ?_, List.nodup_append.mpr ⟨h.nd, by simp, fun x hx y hy e => ?_⟩, fun x => ?_, h.keys.put hn hq⟩
  · rw [valV_put]
    by_cases e : p = q
    · subst e
      rw [if_pos rfl, if_pos (by simp)]
    · rw [if_neg (fun z => e (Sum.inl.inj z)), h.val p]
      have : p ∈ new ++ [q] ↔ p ∈ new := by simp [e]
      by_cases hp : p ∈ new
      · rw [if_pos hp, if_pos (this.mpr hp)]
      · rw [if_neg hp, if_neg (fun z => hp (this.mp z))]
  · have ey : y = q := by simpa using hy
    subst e ey
    exact n1 hx
  · rw [List.mem_append, h.mem x, List.mem_singleton]
    constructor
    · rintro (⟨a, b, c⟩ | rfl)
      · exact ⟨.inl a, b, c⟩
      · exact ⟨.inr rfl, hq, n2⟩
    · rintro ⟨a | a, b, c⟩
      · exact .inl ⟨a, b, c⟩
      · exact .inr a
theorem Nw.skip {cs : List Int} {L i : Nat} {kvs : List (L2.Key × V)} {new : List Int} {A : Int → Prop} (h : Nw cs L i kvs new A) {q : Int} (hq : ¬ q.natAbs ≤ L ∨ ¬ valV kvs (.inl q) = none) : Nw cs L i kvs new (fun x => A x ∨ x = q) := by
  refine ⟨h.val, h.nd, fun x => ?_, h.keys⟩
  rw [h.mem x]
  constructor
  · rintro ⟨a, b, c⟩
    exact ⟨.inl a, b, c⟩
  · rintro ⟨a | rfl, b, c⟩
    · exact ⟨a, b, c⟩
    · rcases hq with hq | hq
      · exact absurd b hq
      · have : x ∈ new := Classical.byContradiction fun z => hq (h.free.mpr ⟨z, c⟩)
        exact (h.mem x).mp this
theorem win_len {L : Nat} {ps : List Int} (h : ps.Nodup) (hw : ∀ p ∈ ps, p.natAbs ≤ L) : ps.length ≤ 2 * L + 1 := by
  have := KF.nodup_le (m := (List.range (2 * L + 1)).map fun (i : Nat) => (i : Int) - L) h fun p hp => by
    have := hw p hp
    exact List.mem_map.mpr ⟨(p + L).toNat, List.mem_range.mpr (by omega), by omega⟩
  rwa [List.length_map, List.length_range] at this
theorem Nw.len {cs : List Int} {L i : Nat} {kvs : List (L2.Key × V)} {new : List Int} {A : Int → Prop} (h : Nw cs L i kvs new A) : new.length ≤ 2 * L + 1 := win_len h.nd fun p hp => ((h.mem p).mp hp).2.1
theorem Nw.done {cs : List Int} {L i : Nat} {kvs : List (L2.Key × V)} {new E : List Int} (h : Nw cs L i kvs new (fun q => ∃ p ∈ E, ∃ c ∈ natL cs, q = p + c ∨ q = p - c)) (hE : ∀ q, q ∈ E ↔ KY.lvl (natL cs) L i q = some i) :
    DOf kvs cs L (i + 1) ∧ ∀ q, q ∈ new ↔ KY.lvl (natL cs) L (i + 1) q = some (i + 1) := by
  have hmem : ∀ q, q ∈ new ↔ KY.lvl (natL cs) L (i + 1) q = some (i + 1) := fun q => by
    rw [h.mem q, KY.lvl_new]
    constructor
    · rintro ⟨⟨p, hp, c, hc, e⟩, b, d⟩
      refine ⟨d, b, c, hc, ?_⟩
      have := (hE p).mp hp
      rcases e with rfl | rfl
      · left
        rwa [show p + (c : Int) - c = p by omega]
      · right
        rwa [show p - (c : Int) + c = p by omega]
    · rintro ⟨d, b, c, hc, e⟩
      refine ⟨?_, b, d⟩
      rcases e with e | e
      · exact ⟨_, (hE _).mpr e, c, hc, .inl (by omega)⟩
      · exact ⟨_, (hE _).mpr e, c, hc, .inr (by omega)⟩
  refine ⟨fun p => ?_, hmem⟩
  rw [h.val p]
  by_cases hp : p ∈ new
  · rw [if_pos hp, (hmem p).mp hp]
    rfl
  · rw [if_neg hp]
    cases e : KY.lvl (natL cs) L i p with
    | some j => rw [KY.lvl_up e]
    | none =>
      cases e2 : KY.lvl (natL cs) L (i + 1) p with
      | none => rfl
      | some j =>
        exfalso
        have hj := KY.lvl_le e2
        by_cases z : j ≤ i
        · rw [KY.lvl_back e2 z] at e
          cases e
        · have : j = i + 1 := by omega
          subst this
          exact hp ((hmem p).mpr e2)
/-- the law's bound for prices -/
def EdgeOf (cs : List Int) (G e : Nat) : Prop := e ≤ 3540 ∧ ∃ C, e = (G - 1) * C ∧ ∀ c ∈ natL cs, c ≠ G → c ≤ C
def REdge : L2.St → Hp → L2.St → Hp → Prop := fun σ H σ' H' => H' = H ∧ ∃ e : Nat, σ' = σ.set 2 (some (.int e)) ∧ ∀ (t : Addr) (cs : List Int) (G : Nat), σ[0]? = some (some (.ref t)) → H t = some (.tup (cs.map V.int)) → Lotc cs → cs[cs.length - 1]? = some (G : Int) → EdgeOf cs G e
theorem edge_of {cs : List Int} (hc : Lotc cs) {C G : Nat} (h : 1 < cs.length) (hC : cs[cs.length - 2]? = some (C : Int)) (hG : cs[cs.length - 1]? = some (G : Int)) : EdgeOf cs G ((G - 1) * C) := by
  have h60 := lot_pos (Int.le_refl 0) hc.up
  have hC60 := h60 _ (List.mem_of_getElem? hC)
  have hG60 := h60 _ (List.mem_of_getElem? hG)
  have hlt : C ≤ 59 := by
    obtain ⟨u1, u2⟩ := List.getElem?_eq_some_iff.mp hC
    obtain ⟨w1, w2⟩ := List.getElem?_eq_some_iff.mp hG
    have := List.pairwise_iff_getElem.mp (asc_pw hc.up).1 _ _ u1 w1 (by omega)
    omega
  refine ⟨?_, C, rfl, ahc_le hc (.inr ⟨h, hC⟩) hG⟩
  have := Nat.mul_le_mul (show G - 1 ≤ 59 by omega) (show C ≤ 60 by omega)
  omega
theorem edge_one {cs : List Int} (hc : Lotc cs) {G : Nat} (h : ¬ 1 < cs.length) (hG : cs[cs.length - 1]? = some (G : Int)) : EdgeOf cs G 0 := by
  refine ⟨by omega, 0, rfl, fun c hcm hne => ?_⟩
  have hl := List.length_pos_iff.mpr hc.ne
  obtain ⟨d, hd, rfl⟩ := List.mem_map.mp hcm
  obtain ⟨i, hi, e⟩ := List.mem_iff_getElem.mp hd
  have : i = cs.length - 1 := by omega
  subst this
  rw [List.getElem?_eq_getElem hi, e] at hG
  have : d = G := by simpa using hG
  omega
/-- the losses of the prices from -e on, so far -/
structure Lo (cs : List Int) (G top e i : Nat) (F : KC.Tb) : Prop where
  P1 : ∀ r v, r < G → F r = some v → ∃ p j, KY.lvl (natL cs) top top p = some j ∧ (p % (G : Int)).toNat = r ∧ (v : Int) = G * j - p
  P2 : ∀ p j, -(e : Int) ≤ p → p < -(e : Int) + i → KY.lvl (natL cs) top top p = some j → ∃ u, F (p % (G : Int)).toNat = some u ∧ (u : Int) ≤ G * j - p
theorem Lo.start (cs : List Int) (G top e : Nat) : Lo cs G top e 0 (fun _ => none) := ⟨fun r v _ h => (nomatch h), fun p j h1 h2 => by omega⟩
theorem Lo.skip {cs : List Int} {G top e i : Nat} {F : KC.Tb} (h : Lo cs G top e i F) (hn : KY.lvl (natL cs) top top (-(e : Int) + i) = none) : Lo cs G top e (i + 1) F := by
  refine ⟨h.P1, fun p j h1 h2 h3 => ?_⟩
  by_cases z : p = -(e : Int) + i
  · rw [z, hn] at h3
    cases h3
  · exact h.P2 p j h1 (by omega) h3
/-- the lesser of two -/
def least (x : Option Nat) (v : Nat) : Nat := match x with
  | none => v
  | some u => if v < u then v else u
theorem Lo.put {cs : List Int} {G top e i : Nat} {F : KC.Tb} (h : Lo cs G top e i F) {j v : Nat} (hj : KY.lvl (natL cs) top top (-(e : Int) + i) = some j) (hv : (v : Int) = G * j - (-(e : Int) + i)) (hG : 0 < G) :
    Lo cs G top e (i + 1) (fun r => if r = ((-(e : Int) + i) % (G : Int)).toNat then some (least (F r) v) else F r) := by
  have hle : ∀ x, least x v ≤ v := fun x => by
    unfold least
    cases x with
    | none => exact Nat.le_refl _
    | some u =>
      dsimp only
      split <;> omega
  have hle2 : ∀ u, least (some u) v ≤ u := fun u => by
    unfold least
    dsimp only
    split <;> omega
  refine ⟨fun r w hr hw => ?_, fun p k h1 h2 h3 => ?_⟩
  · skip
    split at hw
    · rename_i er
      have ew : least (F r) v = w := by simpa using hw
      cases eF : F r with
      | none =>
        rw [eF] at ew
        have : v = w := ew
        subst this
        exact ⟨_, j, hj, er.symm, hv⟩
      | some u =>
        rw [eF] at ew
        unfold least at ew
        dsimp only at ew
        split at ew
        · subst ew
          exact ⟨_, j, hj, er.symm, hv⟩
        · subst ew
          exact h.P1 r u hr eF
    · exact h.P1 r w hr hw
  · skip
    by_cases z : p = -(e : Int) + i
    · subst z
      rw [if_pos rfl]
      rw [hj] at h3
      have : j = k := by simpa using h3
      subst this
      exact ⟨_, rfl, by have := hle (F ((-(e : Int) + i) % (G : Int)).toNat); omega⟩
    · obtain ⟨u, hu, hul⟩ := h.P2 p k h1 (by omega) h3
      by_cases y : (p % (G : Int)).toNat = ((-(e : Int) + i) % (G : Int)).toNat
      · rw [if_pos y, hu]
        exact ⟨_, rfl, by have := hle2 u; omega⟩
      · rw [if_neg y]
        exact ⟨u, hu, hul⟩
theorem Lo.done {cs : List Int} {G e : Nat} {F : KC.Tb} (hc : Lotc cs) (hG : cs[cs.length - 1]? = some (G : Int)) (he : EdgeOf cs G e) (h : Lo cs G (e + 2 * G) e (2 * e + 1) F) : ∀ r, r < G → F r = movI cs G r := by
  have h60 := lot_pos (Int.le_refl 0) hc.up
  have hG60 := h60 _ (List.mem_of_getElem? hG)
  obtain ⟨_, C, rfl, hC⟩ := he
  refine KY.meet (C := C) (top := (G - 1) * C + 2 * G) (by omega) (fun c hcm => ?_) hC (KD.ok_tbl (by omega) _) (by omega) (by omega) h.P1 fun p j hp hl => h.P2 p j (by omega) (by omega) hl
  obtain ⟨d, hd, rfl⟩ := List.mem_map.mp hcm
  have := h60 d hd
  have := last_max hc hG d hd
  exact ⟨by omega, by omega⟩
theorem mov_small {cs : List Int} (hc : Lotc cs) {G r v : Nat} (hG : cs[cs.length - 1]? = some (G : Int)) (h : movI cs G r = some v) : v ≤ 7200 := by
  have h60 := lot_pos (Int.le_refl 0) hc.up
  have hG60 := h60 _ (List.mem_of_getElem? hG)
  have hb : ∀ c ∈ natL cs, 0 < c ∧ c ≤ G := fun c hcm => by
    obtain ⟨d, hd, rfl⟩ := List.mem_map.mp hcm
    have := h60 d hd
    have := last_max hc hG d hd
    exact ⟨by omega, by omega⟩
  have O := KD.ok_tbl (n := G) (by omega) (KY.stps G (natL cs))
  obtain ⟨s, a, hs⟩ := O.sound r v h
  obtain ⟨p, m, q, hm, hv, _⟩ := KY.short (by omega) hb O a (by rw [hs]; exact h)
  have h1 := KC.rk_le (T := KD.tbl G (KY.stps G (natL cs))) v G
  have h2 := KY.Mv.near (C := G) (fun c hcm => (hb c hcm.1).2) q
  have h3 : m * G ≤ 60 * 60 := Nat.mul_le_mul (by omega) (by omega)
  have h4 : (G : Int) * m = ((m * G : Nat) : Int) := by rw [Int.natCast_mul, Int.mul_comm]
  omega
theorem shw_pairs {w : Nat} {xs : List Nat} (hw : w ≤ 7200) (hx : ∀ x ∈ xs, x ≤ 60) (hl : xs.length ≤ 60) : Shw 16000000 90 (.list [.tuple [.int (w : Nat), .tuple (xs.map fun (x : Nat) => PyData.int x)], .tuple [.int (w : Nat), .tuple (xs.map fun (x : Nat) => PyData.int x)]]) := by
  have h1 : Shw 2000 1 (.tuple (xs.map fun (x : Nat) => PyData.int x)) := (shw_tuple (n := 9) (k := 0) (m := 60) (fun d hd => by
    obtain ⟨x, hx', rfl⟩ := List.mem_map.mp hd
    have := hx x hx'
    exact shw_intK (k := 8) (Nat.lt_of_le_of_lt (show ((x : Nat) : Int).natAbs ≤ 60 by omega) (by decide)) (by decide) (by decide)) (by simpa using hl)).mono (by decide) (by decide)
  have h2 : Shw 2000 1 (.int (w : Nat)) := (shw_intK (k := 13) (Nat.lt_of_le_of_lt (show ((w : Nat) : Int).natAbs ≤ 7200 by omega) (by decide)) (by decide) (by decide)).mono (by decide) (by decide)
  have h3 : Shw 5000 2 (.tuple [.int (w : Nat), .tuple (xs.map fun (x : Nat) => PyData.int x)]) := (shw_tuple (n := 2000) (k := 1) (m := 2) (fun d hd => by
    simp only [List.mem_cons, List.not_mem_nil, or_false] at hd
    rcases hd with rfl | rfl
    · exact h2
    · exact h1) (by simp)).mono (by decide) (by decide)
  refine (shw_list (n := 5000) (k := 2) (m := 2) (fun d hd => ?_) (by simp)).mono (by decide) (by decide)
  simp only [List.mem_cons, List.not_mem_nil, or_false] at hd
  rcases hd with rfl | rfl <;> exact h3
end Kx

/-! the least number of moves to a price: within a window, by bits, and by the least losses -/
namespace KZ
open KC KY
/-- the least number of moves -/
def Dm (cs : List Nat) (n : Int) (m : Nat) : Prop := Mv (· ∈ cs) n m ∧ ∀ k, Mv (· ∈ cs) n k → m ≤ k
theorem dm_uniq {cs : List Nat} {n : Int} {m k : Nat} (a : Dm cs n m) (b : Dm cs n k) : m = k := Nat.le_antisymm (a.2 _ b.1) (b.2 _ a.1)
theorem dm_neg {cs : List Nat} {n : Int} {m : Nat} (a : Dm cs n m) : Dm cs (-n) m := ⟨a.1.neg, fun k h => a.2 k (by have := h.neg; rwa [Int.neg_neg] at this)⟩
theorem dm_abs {cs : List Nat} {n : Int} {m : Nat} (a : Dm cs n.natAbs m) : Dm cs n m := by
  rcases Int.natAbs_eq n with h | h
  · rw [h]; exact a
  · rw [h]; exact dm_neg a
theorem mv_add {S : Nat → Prop} {a b : Int} {j k : Nat} (p : Mv S a j) (q : Mv S b k) : Mv S (a + b) (j + k) := by
  induction q with
  | zero => simpa using p
  | @up c m b hc _ ih =>
    have := Mv.up hc ih
    rwa [show a + b + (c : Int) = a + (b + c) by omega] at this
  | @dn c m b hc _ ih =>
    have := Mv.dn hc ih
    rwa [show a + b - (c : Int) = a + (b - c) by omega] at this
theorem mv_times {S : Nat → Prop} {c : Nat} (h : S c) : ∀ k : Nat, Mv S ((k * c : Nat) : Int) k
  | 0 => by rw [Nat.zero_mul]; exact .zero
  | k + 1 => by
    have := Mv.up h (mv_times h k)
    rwa [show ((k * c : Nat) : Int) + (c : Int) = (((k + 1) * c : Nat) : Int) by rw [Nat.add_mul]; omega] at this
def Rc (cs : List Nat) (n : Int) : Prop := ∃ m, Mv (· ∈ cs) n m
theorem rc_mul {cs : List Nat} {a : Int} (h : Rc cs a) (k : Int) : Rc cs (a * k) := by
  have nat : ∀ {a : Int}, Rc cs a → ∀ k : Nat, Rc cs (a * k) := fun {a} h k => by
    induction k with
    | zero => exact ⟨0, by simpa using Mv.zero⟩
    | succ k ih =>
      obtain ⟨i, p⟩ := ih
      obtain ⟨j, q⟩ := h
      exact ⟨i + j, by have := mv_add p q; rwa [show a * ((k + 1 : Nat) : Int) = a * (k : Int) + a by rw [Int.natCast_add, Int.mul_add]; simp]⟩
  rcases Int.natAbs_eq k with e | e
  · rw [e]
    exact nat h _
  · rw [e]
    obtain ⟨m, q⟩ := nat h k.natAbs
    exact ⟨m, by have := q.neg; rwa [← Int.mul_neg] at this⟩
theorem rc_gcd {cs : List Nat} {a b : Nat} (ha : Rc cs a) (hb : Rc cs b) : Rc cs (Nat.gcd a b : Nat) := by
  obtain ⟨x, y, e⟩ := bez a b
  obtain ⟨i, p⟩ := rc_mul ha x
  obtain ⟨j, q⟩ := rc_mul hb y
  exact ⟨i + j, by rw [← e]; exact mv_add p q⟩
theorem rc_fold {cs : List Nat} : ∀ (ks : List Nat) (d : Nat), Rc cs d → (∀ k ∈ ks, Rc cs k) → Rc cs ((ks.foldl Nat.gcd d : Nat) : Int)
  | [], _, h, _ => h
  | k :: ks, d, h, hk => rc_fold ks _ (rc_gcd h (hk k (by simp))) fun x hx => hk x (by simp [hx])
/-- what the divisor divides is reached -/
theorem reach {cs : List Nat} {n : Int} (h : ((KL.gcdL cs : Nat) : Int) ∣ n) : Rc cs n := by
  have h0 : Rc cs ((KL.gcdL cs : Nat) : Int) := rc_fold cs 0 ⟨0, .zero⟩ fun k hk => ⟨1, by have := mv_times (S := (· ∈ cs)) hk 1; rwa [Nat.one_mul] at this⟩
  obtain ⟨k, rfl⟩ := h
  exact rc_mul h0 k
theorem unreach {cs : List Nat} {n : Int} {m : Nat} (q : Mv (· ∈ cs) n m) : ((KL.gcdL cs : Nat) : Int) ∣ n := by
  have hd : ∀ c ∈ cs, ((KL.gcdL cs : Nat) : Int) ∣ (c : Int) := fun c hc => Int.natCast_dvd_natCast.mpr (KL.gcdL_iff.mp (Nat.dvd_refl _) c hc)
  induction q with
  | zero => exact Int.dvd_zero _
  | up hc _ ih => exact Int.dvd_add ih (hd _ hc)
  | dn hc _ ih => exact Int.dvd_sub ih (hd _ hc)
theorem least_ex {P : Nat → Prop} {m : Nat} (h : P m) : ∃ k, P k ∧ ∀ j, P j → k ≤ j := by
  induction m using Nat.strongRecOn with
  | ind m ih =>
    by_cases w : ∃ j, j < m ∧ P j
    · obtain ⟨j, hj, pj⟩ := w
      exact ih j hj pj
    · exact ⟨m, h, fun j pj => Nat.le_of_not_lt fun z => w ⟨j, z, pj⟩⟩
theorem dm_ex {cs : List Nat} {n : Int} {m : Nat} (q : Mv (· ∈ cs) n m) : ∃ k, Dm cs n k := by
  obtain ⟨k, a, b⟩ := least_ex (P := fun k => Mv (· ∈ cs) n k) q
  exact ⟨k, a, b⟩
/-- moves, sorted by their ways -/
theorem mv_lists {S : Nat → Prop} {n : Int} {m : Nat} (q : Mv S n m) : ∃ us ds : List Nat, (∀ c ∈ us, S c) ∧ (∀ c ∈ ds, S c) ∧ n = us.sum - ds.sum ∧ m = us.length + ds.length := by
  induction q with
  | zero => exact ⟨[], [], by simp, by simp, by simp, by simp⟩
  | @up c m n hc _ ih =>
    obtain ⟨us, ds, a, b, e1, e2⟩ := ih
    exact ⟨c :: us, ds, fun x hx => (List.mem_cons.mp hx).elim (fun e => e ▸ hc) (a x), b, by rw [List.sum_cons, e1]; omega, by rw [List.length_cons, e2]; omega⟩
  | @dn c m n hc _ ih =>
    obtain ⟨us, ds, a, b, e1, e2⟩ := ih
    exact ⟨us, c :: ds, a, fun x hx => (List.mem_cons.mp hx).elim (fun e => e ▸ hc) (b x), by rw [List.sum_cons, e1]; omega, by rw [List.length_cons, e2]; omega⟩
/-- walks within a window, its places counted from G below -/
inductive Wk (cs : List Nat) (G N : Nat) : Nat → Nat → Prop
  | zero : Wk cs G N G 0
  | up {c b k : Nat} (h : c ∈ cs) (q : Wk cs G N b k) (hN : b + c < N) : Wk cs G N (b + c) (k + 1)
  | dn {c b k : Nat} (h : c ∈ cs) (q : Wk cs G N b k) (hc : c ≤ b) : Wk cs G N (b - c) (k + 1)
theorem wk_mv {cs : List Nat} {G N b k : Nat} (q : Wk cs G N b k) : Mv (· ∈ cs) ((b : Int) - G) k := by
  induction q with
  | zero => rw [Int.sub_self]; exact .zero
  | @up c b k h _ hN ih =>
    have := Mv.up (S := (· ∈ cs)) h ih
    rwa [show (b : Int) - G + c = ((b + c : Nat) : Int) - G by omega] at this
  | @dn c b k h _ hc ih =>
    have := Mv.dn (S := (· ∈ cs)) h ih
    rwa [show (b : Int) - G - c = ((b - c : Nat) : Int) - G by omega] at this
/-- moves in an order that stays within the window -/
theorem order {cs : List Nat} {G n : Nat} (hG : ∀ c ∈ cs, 0 < c ∧ c ≤ G) : ∀ (t : Nat) (us ds : List Nat) (b k : Nat), us.length + ds.length = t → (∀ c ∈ us, c ∈ cs) → (∀ c ∈ ds, c ∈ cs) → Wk cs G (n + 2 * G + 1) b k → b + us.sum = n + G + ds.sum → Wk cs G (n + 2 * G + 1) (n + G) (k + t)
  | 0, us, ds, b, k, hl, _, _, q, e => by
    have h1 : us = [] := List.eq_nil_of_length_eq_zero (by omega)
    have h2 : ds = [] := List.eq_nil_of_length_eq_zero (by omega)
    subst h1 h2
    simp at e
    rw [← e]
    exact q
  | t + 1, us, ds, b, k, hl, hu, hd, q, e => by
    rw [show k + (t + 1) = (k + 1) + t by omega]
    by_cases hb : b ≤ n + G
    · cases us with
      | nil =>
        cases ds with
        | nil => simp at hl
        | cons d ds =>
          have := hG d (hd d (by simp))
          simp at e
          omega
      | cons u us =>
        have hu1 := hu u (by simp)
        have := hG u hu1
        simp at hl e
        exact order hG t us ds (b + u) (k + 1) (by omega) (fun c hc => hu c (by simp [hc])) hd (.up hu1 q (by omega)) (by omega)
    · cases ds with
      | nil =>
        simp at e
        omega
      | cons d ds =>
        have hd1 := hd d (by simp)
        have := hG d hd1
        simp at hl e
        exact order hG t us ds (b - d) (k + 1) (by omega) hu (fun c hc => hd c (by simp [hc])) (.dn hd1 q (by omega)) (by omega)
theorem mv_wk {cs : List Nat} {G n m : Nat} (hG : ∀ c ∈ cs, 0 < c ∧ c ≤ G) (q : Mv (· ∈ cs) (n : Int) m) : Wk cs G (n + 2 * G + 1) (n + G) m := by
  obtain ⟨us, ds, a, b, e1, e2⟩ := mv_lists q
  have := order (n := n) hG m us ds G 0 e2.symm a b .zero (by omega)
  rwa [Nat.zero_add] at this
theorem wk_iff {cs : List Nat} {G n m : Nat} (hG : ∀ c ∈ cs, 0 < c ∧ c ≤ G) : Wk cs G (n + 2 * G + 1) (n + G) m ↔ Mv (· ∈ cs) (n : Int) m := by
  constructor
  · intro q
    have := wk_mv q
    rwa [show ((n + G : Nat) : Int) - G = n by omega] at this
  · exact mv_wk hG
theorem wk_lt {cs : List Nat} {G N b k : Nat} (hN : G < N) (q : Wk cs G N b k) : b < N := by
  induction q with
  | zero => exact hN
  | up _ _ h _ => exact h
  | dn _ _ _ ih => omega
theorem wk_succ {cs : List Nat} {G N b k : Nat} (hN : G < N) : Wk cs G N b (k + 1) ↔ b < N ∧ ∃ c ∈ cs, (c ≤ b ∧ Wk cs G N (b - c) k) ∨ Wk cs G N (b + c) k := by
  constructor
  · intro q
    refine ⟨wk_lt hN q, ?_⟩
    cases q with
    | @up c b k h q hN' => exact ⟨c, h, .inl ⟨by omega, by rwa [Nat.add_sub_cancel]⟩⟩
    | @dn c b k h q hc => exact ⟨c, h, .inr (by rwa [Nat.sub_add_cancel hc])⟩
  · rintro ⟨hb, c, hc, ⟨h1, h2⟩ | h2⟩
    · have := Wk.up hc h2 (by omega)
      rwa [Nat.sub_add_cancel h1] at this
    · have := Wk.dn hc h2 (by omega)
      rwa [Nat.add_sub_cancel] at this
theorem wk_zero {cs : List Nat} {G N b : Nat} : Wk cs G N b 0 ↔ b = G := by
  constructor
  · intro q
    cases q
    rfl
  · rintro rfl
    exact .zero
/-- the walks of a length, by bits -/
def bits (cs : List Nat) (M : Nat) : Nat := cs.foldl (fun x c => x ||| (M <<< c ||| M >>> c)) 0
def lev (cs : List Nat) (G N : Nat) : Nat → Nat
  | 0 => 1 <<< G
  | k + 1 => bits cs (lev cs G N k) % 2 ^ N
theorem bits_bit {M : Nat} : ∀ (cs : List Nat) (x b : Nat), (cs.foldl (fun x c => x ||| (M <<< c ||| M >>> c)) x).testBit b = true ↔ x.testBit b = true ∨ ∃ c ∈ cs, (c ≤ b ∧ M.testBit (b - c) = true) ∨ M.testBit (b + c) = true
  | [], x, b => by simp
  | c :: cs, x, b => by
    rw [List.foldl_cons, bits_bit cs]
    rw [Nat.testBit_or, Nat.testBit_or, Nat.testBit_shiftLeft, Nat.testBit_shiftRight, Bool.or_eq_true, Bool.or_eq_true, Bool.and_eq_true, decide_eq_true_iff, Nat.add_comm c b]
    simp only [List.mem_cons, exists_eq_or_imp]
    constructor
    · rintro ((h | h) | h)
      · exact .inl h
      · exact .inr (.inl h)
      · exact .inr (.inr h)
    · rintro (h | h | h)
      · exact .inl (.inl h)
      · exact .inl (.inr h)
      · exact .inr h
theorem lev_bit {cs : List Nat} {G N : Nat} (hN : G < N) : ∀ (k b : Nat), (lev cs G N k).testBit b = true ↔ Wk cs G N b k
  | 0, b => by
    rw [lev, wk_zero, Nat.testBit_shiftLeft]
    constructor
    · intro h
      rw [Bool.and_eq_true, decide_eq_true_iff, Nat.testBit_one_eq_true_iff_self_eq_zero] at h
      omega
    · rintro rfl
      simp
  | k + 1, b => by
    rw [lev, wk_succ hN, Nat.testBit_mod_two_pow, Bool.and_eq_true, decide_eq_true_iff]
    unfold bits
    rw [bits_bit]
    simp only [Nat.zero_testBit, Bool.false_eq_true, false_or]
    constructor
    · rintro ⟨h1, c, hc, h2⟩
      refine ⟨h1, c, hc, ?_⟩
      rcases h2 with ⟨a, h2⟩ | h2
      · exact .inl ⟨a, (lev_bit hN k _).mp h2⟩
      · exact .inr ((lev_bit hN k _).mp h2)
    · rintro ⟨h1, c, hc, h2⟩
      refine ⟨h1, c, hc, ?_⟩
      rcases h2 with ⟨a, h2⟩ | h2
      · exact .inl ⟨a, (lev_bit hN k _).mpr h2⟩
      · exact .inr ((lev_bit hN k _).mpr h2)
theorem lev_lt {cs : List Nat} {G N : Nat} (hN : G < N) : ∀ k, lev cs G N k < 2 ^ N
  | 0 => by
    rw [lev, Nat.shiftLeft_eq, Nat.one_mul]
    exact Nat.pow_lt_pow_right (by omega) hN
  | k + 1 => by
    rw [lev]
    exact Nat.mod_lt _ (Nat.two_pow_pos N)
/-- by the least losses: as far as the bound less the greatest coin -/
theorem by_loss {G C n : Nat} {cs : List Nat} {T : Tb} (hm : G ∈ cs) (hG : ∀ c ∈ cs, 0 < c ∧ c ≤ G) (hC : ∀ c ∈ cs, c ≠ G → c ≤ C) (O : KD.Ok G (stps G cs) T) (hn : (G - 1) * C < n + G) {m : Nat} :
    Dm cs (n : Int) m ↔ ∃ v, T (n % G) = some v ∧ G * m = n + v := by
  have hG0 := (hG G hm).1
  have low : ∀ {k}, Mv (· ∈ cs) (n : Int) k → ∃ v, T (n % G) = some v ∧ n + v ≤ G * k := fun {k} q => by
    obtain ⟨s, w, a, b, z, e⟩ := mv_rea (fun c hc => (hG c hc).2) q
    obtain ⟨u, hu, huw⟩ := KD.ok_least hG0 O a
    rw [← rest_of e] at hu
    refine ⟨u, ?_, ?_⟩
    · rw [← hu]
      congr 1
    · have : (G : Int) * k = ((G * k : Nat) : Int) := by rw [Int.natCast_mul]
      omega
  have high : ∀ {v}, T (n % G) = some v → ∃ k, Mv (· ∈ cs) (n : Int) k ∧ G * k = n + v := fun {v} h => by
    obtain ⟨s, a, hs⟩ := O.sound _ v h
    obtain ⟨p, j, q, hj, hv, z, e⟩ := short hG0 hG O a (by rw [hs]; exact h)
    have hjG := rk_lt h G (Nat.mod_lt _ hG0)
    have hjC : j * C ≤ (G - 1) * C := Nat.mul_le_mul_right C (by omega)
    have hp := Mv.near (C := C) (fun c hc => hC c hc.1 hc.2) q
    -- p lies at a multiple of G below n
    obtain ⟨y, hy⟩ : ∃ y : Int, (n : Int) - p = G * y := by
      have h1 : ((n : Int) - p) % (G : Int) = 0 := by
        have h2 : ((s : Int)) % (G : Int) = (n : Int) % (G : Int) := by
          have := congrArg (fun x : Nat => (x : Int)) hs
          simpa using this
        rw [e, Int.sub_emod, Int.add_mul_emod_self_left, h2, Int.sub_self, Int.zero_emod]
      obtain ⟨y, hy⟩ := Int.dvd_of_emod_eq_zero h1
      exact ⟨y, hy⟩
    have hy0 : 0 ≤ y := by
      refine Int.not_lt.mp fun w => ?_
      have : (G : Int) * y ≤ G * (-1) := Int.mul_le_mul_of_nonneg_left (by omega) (by omega)
      omega
    obtain ⟨y', rfl⟩ : ∃ y' : Nat, y = y' := ⟨y.toNat, by omega⟩
    have q2 := mv_add (q.mono fun c hc => hc.1) (mv_times (S := (· ∈ cs)) hm y')
    have hyG : ((y' * G : Nat) : Int) = G * y' := by rw [Int.natCast_mul, Int.mul_comm]
    refine ⟨j + y', by rwa [show p + ((y' * G : Nat) : Int) = n by omega] at q2, ?_⟩
    have h3 : ((G * (j + y') : Nat) : Int) = G * j + G * y' := by rw [Int.natCast_mul, Int.natCast_add, Int.mul_add]
    omega
  constructor
  · rintro ⟨q, hq⟩
    obtain ⟨v, hv, h1⟩ := low q
    obtain ⟨k, hk, h2⟩ := high hv
    have h3 := Nat.mul_le_mul_left G (hq k hk)
    exact ⟨v, hv, by omega⟩
  · rintro ⟨v, hv, h1⟩
    obtain ⟨k, hk, h2⟩ := high hv
    have ek : k = m := Nat.eq_of_mul_eq_mul_left hG0 (by omega)
    subst ek
    refine ⟨hk, fun j q => ?_⟩
    obtain ⟨w, hw, h3⟩ := low q
    rw [hv] at hw
    have : v = w := by simpa using hw
    exact Nat.le_of_mul_le_mul_left (show G * k ≤ G * j by omega) hG0
/-- the places of a walk -/
theorem places {cs : List Nat} {G N b k : Nat} (q : Wk cs G N b k) : ∃ f : Nat → Nat, ∀ i, i ≤ k → Wk cs G N (f i) i ∧ Mv (· ∈ cs) ((b : Int) - f i) (k - i) := by
  induction q with
  | zero => exact ⟨fun _ => G, fun i hi => by
      have : i = 0 := by omega
      subst this
      exact ⟨.zero, by rw [Int.sub_self]; exact .zero⟩⟩
  | @up c b k h q hN ih =>
    obtain ⟨f, hf⟩ := ih
    refine ⟨fun i => if i = k + 1 then b + c else f i, fun i hi => ?_⟩
    dsimp only
    by_cases e : i = k + 1
    · subst e
      rw [if_pos rfl, Int.sub_self, Nat.sub_self]
      exact ⟨.up h q hN, .zero⟩
    · rw [if_neg e]
      obtain ⟨a, p⟩ := hf i (by omega)
      refine ⟨a, ?_⟩
      have := Mv.up (S := (· ∈ cs)) h p
      rwa [show (b : Int) - (f i : Int) + c = ((b + c : Nat) : Int) - (f i : Int) by omega, show k - i + 1 = k + 1 - i by omega] at this
  | @dn c b k h q hc ih =>
    obtain ⟨f, hf⟩ := ih
    refine ⟨fun i => if i = k + 1 then b - c else f i, fun i hi => ?_⟩
    dsimp only
    by_cases e : i = k + 1
    · subst e
      rw [if_pos rfl, Int.sub_self, Nat.sub_self]
      exact ⟨.dn h q hc, .zero⟩
    · rw [if_neg e]
      obtain ⟨a, p⟩ := hf i (by omega)
      refine ⟨a, ?_⟩
      have := Mv.dn (S := (· ∈ cs)) h p
      rwa [show (b : Int) - (f i : Int) - c = ((b - c : Nat) : Int) - (f i : Int) by omega, show k - i + 1 = k + 1 - i by omega] at this
/-- the least number is less than the window is wide -/
theorem dm_le {cs : List Nat} {G n m : Nat} (hG : ∀ c ∈ cs, 0 < c ∧ c ≤ G) (h : Dm cs (n : Int) m) : m ≤ n + 2 * G := by
  have q := mv_wk hG h.1
  obtain ⟨f, hf⟩ := places q
  have inj : ∀ i j, i < j → j ≤ m → f i ≠ f j := fun i j hij hj e => by
    obtain ⟨a, _⟩ := hf i (by omega)
    obtain ⟨_, p⟩ := hf j hj
    have := mv_add (wk_mv a) p
    rw [e, show ((f j : Nat) : Int) - (G : Int) + (((n + G : Nat) : Int) - ((f j : Nat) : Int)) = (n : Int) by omega] at this
    have := h.2 _ this
    omega
  have nd : ((List.range (m + 1)).map f).Nodup := by
    unfold List.Nodup
    rw [List.pairwise_map]
    refine List.Pairwise.imp_of_mem ?_ List.pairwise_lt_range
    intro i j hi hj hij
    exact inj i j hij (by have := List.mem_range.mp hj; omega)
  have := KF.nodup_le (m := List.range (n + 2 * G + 1)) nd fun x hx => by
    obtain ⟨i, hi, rfl⟩ := List.mem_map.mp hx
    have := List.mem_range.mp hi
    exact List.mem_range.mpr (wk_lt (by omega) (hf i (by omega)).1)
  rw [List.length_map, List.length_range, List.length_range] at this
  omega
end KZ

/-! d[k] as a target beside others -/
namespace MG
open PySem PySem.Spec PyProof.Rows L2
def rSetD : TSet := fun o i v H Q => ∃ a H', o = .ref a ∧ DPut H a i v H' ∧ Q H'
theorem set_dict {X : Cx} (hu : X.A.units + 1 < cLine) : PSet X rSetD := by
  intro pins s σ H o i v ov iv u Q I ro ri rv h
  obtain ⟨a, H', rfl, g, q⟩ := h
  cases ro
  exact d_setItem hu I g ri rv fun s' I' => ⟨H', I', q⟩
end MG

/-! least sums found round by round; the first and the last payment coin by coin -/
namespace Kx
open PySem L2 MG KM
/-- the least sums so far, in a dict -/
structure Rst (cs : List Int) (G : Nat) (kvs : List (L2.Key × V)) (F : KC.Tb) : Prop where
  val : ∀ r : Nat, valV kvs (.inl (r : Int)) = (F r).map fun (v : Nat) => V.int v
  keys : ∃ ks : List Nat, kvs.map (·.1) = ks.map (fun (k : Nat) => Sum.inl (k : Int)) ∧ ks.Nodup ∧ ∀ k, k ∈ ks ↔ F k ≠ none
  zero : F 0 = some 0
  sound : ∀ r v, F r = some v → r < G ∧ KL.Paid (natL cs) v ∧ v % G = r
  small : ∀ r v, F r = some v → v + 60 ≤ kvs.length * 60
theorem keys_putK {kvs : List (L2.Key × V)} {k : L2.Key} {y : V} (h : valV kvs k ≠ none) : (putK kvs k y).map (·.1) = kvs.map (·.1) ∧ (putK kvs k y).length = kvs.length := by
  have ha : (kvs.any fun kv => decide (kv.1 = k)) = true := by
    rw [valV_any]
    cases e : valV kvs k with
    | none => exact absurd e h
    | some v => rfl
  unfold putK
  rw [if_pos ha]
  refine ⟨?_, by simp⟩
  rw [List.map_map]
  refine List.map_congr_left fun x hx => ?_
  show (if x.1 = k then (x.1, y) else x).1 = x.1
  split <;> rfl
theorem Rst.len {cs : List Int} {G : Nat} {kvs : List (L2.Key × V)} {F : KC.Tb} (h : Rst cs G kvs F) : kvs.length ≤ G := by
  obtain ⟨ks, a, b, c⟩ := h.keys
  have e := congrArg List.length a
  rw [List.length_map, List.length_map] at e
  have := KF.nodup_le (m := List.range G) b fun k hk => by
    cases e2 : F k with
    | none => exact absurd e2 ((c k).mp hk)
    | some v => exact List.mem_range.mpr (h.sound k v e2).1
  rw [List.length_range] at this
  omega
/-- what is done with a lesser sum -/
def rput (F : KC.Tb) (r w : Nat) : KC.Tb := fun x => if x = r then some w else F x
theorem Rst.put {cs : List Int} {G : Nat} {kvs : List (L2.Key × V)} {F : KC.Tb} (h : Rst cs G kvs F) (hG : 0 < G) {r v d : Nat} (hr : F r = some v) (hd : d ∈ natL cs) (h60 : d ≤ 60) (hl : ∀ u, F ((v + d) % G) = some u → v + d < u) :
    Rst cs G (putK kvs (.inl (((v + d) % G : Nat) : Int)) (.int ((v + d : Nat) : Int))) (rput F ((v + d) % G) (v + d)) := by
  have hs := h.sound r v hr
  have hsm := h.small r v hr
  have hw0 : (v + d) % G ≠ 0 ∨ True := .inr trivial
  refine ⟨fun x => ?_, ?_, ?_, fun x u hx => ?_, fun x u hx => ?_⟩
  · rw [valV_put]
    unfold rput
    by_cases e : x = (v + d) % G
    · rw [if_pos (by rw [e]), if_pos e]
      rfl
    · rw [if_neg (fun z => e (by have := Sum.inl.inj z; omega)), if_neg e]
      exact h.val x
  · obtain ⟨ks, a, b, c⟩ := h.keys
    cases e : F ((v + d) % G) with
    | none =>
      have hn : valV kvs (.inl (((v + d) % G : Nat) : Int)) = none := by rw [h.val, e]; rfl
      refine ⟨ks ++ [(v + d) % G], by rw [putK_new _ hn]; simp [a], List.nodup_append.mpr ⟨b, by simp, fun x hx y hy ex => ?_⟩, fun k => ?_⟩
      · have ey : y = (v + d) % G := by simpa using hy
        subst ex
        rw [ey] at hx
        exact (c _).mp hx e
      · unfold rput
        by_cases ek : k = (v + d) % G
        · rw [if_pos ek]
          simp [ek]
        · rw [if_neg ek, ← c k]
          simp [ek]
    | some u =>
      have hn : valV kvs (.inl (((v + d) % G : Nat) : Int)) ≠ none := by rw [h.val, e]; nofun
      refine ⟨ks, by rw [(keys_putK hn).1, a], b, fun k => ?_⟩
      unfold rput
      by_cases ek : k = (v + d) % G
      · rw [if_pos ek, c k, ek, e]
        simp
      · rw [if_neg ek]
        exact c k
  · unfold rput
    by_cases e : 0 = (v + d) % G
    · exfalso
      have := hl 0 (by rw [← e]; exact h.zero)
      omega
    · rw [if_neg e]
      exact h.zero
  · unfold rput at hx
    split at hx
    · rename_i e
      have : v + d = u := by simpa using hx
      subst this
      subst e
      exact ⟨Nat.mod_lt _ hG, KL.Paid.add hd hs.2.1, rfl⟩
    · exact h.sound x u hx
  · have hlen : kvs.length ≤ (putK kvs (.inl (((v + d) % G : Nat) : Int)) (V.int ((v + d : Nat) : Int))).length := by
      cases e : F ((v + d) % G) with
      | none =>
        have hn : valV kvs (.inl (((v + d) % G : Nat) : Int)) = none := by rw [h.val, e]; rfl
        rw [putK_new _ hn, List.length_append]
        omega
      | some u0 =>
        have hn : valV kvs (.inl (((v + d) % G : Nat) : Int)) ≠ none := by rw [h.val, e]; nofun
        rw [(keys_putK hn).2]
        exact Nat.le_refl _
    have hmul := Nat.mul_le_mul_right 60 hlen
    unfold rput at hx
    split at hx
    · have hu : v + d = u := by simpa using hx
      cases e : F ((v + d) % G) with
      | none =>
        have hn : valV kvs (.inl (((v + d) % G : Nat) : Int)) = none := by rw [h.val, e]; rfl
        have : (putK kvs (.inl (((v + d) % G : Nat) : Int)) (V.int ((v + d : Nat) : Int))).length = kvs.length + 1 := by
          rw [putK_new _ hn, List.length_append]
          rfl
        omega
      | some u0 =>
        have h1 := hl u0 e
        have h2 := h.small _ _ e
        omega
    · have := h.small x u hx
      omega
/-- how great all is together -/
def wgt (F : KC.Tb) : Nat → Nat
  | 0 => 0
  | n + 1 => wgt F n + (F n).getD 4000
theorem wgt_put {F : KC.Tb} {r w : Nat} (hw : w < (F r).getD 4000) : ∀ n, wgt (rput F r w) n + (if r < n then (F r).getD 4000 - w else 0) = wgt F n
  | 0 => by simp [wgt]
  | n + 1 => by
    have ih := wgt_put hw n
    rw [wgt, wgt]
    by_cases e : n = r
    · subst e
      rw [if_neg (Nat.lt_irrefl _)] at ih
      rw [if_pos (Nat.lt_succ_self _), show rput F n w n = some w from if_pos rfl]
      show wgt (rput F n w) n + w + _ = _
      omega
    · rw [show rput F r w n = F n from if_neg e]
      by_cases h : r < n
      · rw [if_pos h] at ih
        rw [if_pos (by omega)]
        omega
      · rw [if_neg h] at ih
        rw [if_neg (by omega)]
        omega
/-- nothing lesser is found by these coins from this rest -/
def Cl (F : KC.Tb) (G r d : Nat) : Prop := ∀ v, F r = some v → ∃ u, F ((v + d) % G) = some u ∧ u ≤ v + d
theorem rst_ok {cs : List Int} {G : Nat} {kvs : List (L2.Key × V)} {F : KC.Tb} (h : Rst cs G kvs F) (hc : ∀ r d, d ∈ natL cs → Cl F G r d) : KC.Ok G (natL cs) F := by
  refine ⟨fun r v e => (h.sound r v e).1, h.zero, fun r v e => ⟨(h.sound r v e).2.1, (h.sound r v e).2.2⟩, fun d hd r hr => ?_⟩
  intro v hv
  obtain ⟨u, h1, h2⟩ := hc r d hd v hv
  have e := (h.sound r v hv).2.2
  refine ⟨u, ?_, h2⟩
  rw [← h1, ← e, Nat.mod_add_mod]
theorem ok_hits {cs : List Int} (hp : ∀ c ∈ natL cs, 0 < c) {G : Nat} {F : KC.Tb} (hG : 0 < G) (hm : G ∈ natL cs) (O : KC.Ok G (natL cs) F) (n : Nat) : (∃ u, F (n % G) = some u ∧ u ≤ n) ↔ pdR cs n := by
  have e : pdR cs n ↔ KL.Paid (natL cs) n := (KL.pd_paid hp n)
  rw [e]
  constructor
  · rintro ⟨u, h1, hu⟩
    obtain ⟨p, q⟩ := O.sound _ _ h1
    have h2 := Nat.div_add_mod u G
    have h3 := Nat.div_add_mod n G
    have h4 : u / G ≤ n / G := Nat.div_le_div_right hu
    have h5 : n = u + (n / G - u / G) * G := by
      rw [Nat.sub_mul, Nat.mul_comm (n / G), Nat.mul_comm (u / G)]
      have := Nat.mul_le_mul_left G h4
      omega
    rw [h5]
    exact KC.paid_many hm p _
  · intro p
    obtain ⟨u, h1, h2⟩ := KC.ok_least hG O p
    exact ⟨u, h1, h2⟩
/-- how the first and the last payment begin -/
theorem few_inv {c : Int} {r : List Int} {n : Nat} (hc : ∀ d ∈ c :: r, 1 ≤ d) (h : pdR (c :: r) n) : ∃ m, m * c.toNat ≤ n ∧ pdR r (n - m * c.toNat) ∧ Rfew c r n m := by
  obtain ⟨m, h1, h2⟩ := pd_split hc h
  obtain ⟨k, ⟨hk1, hk2⟩, hk3⟩ := KZ.least_ex (P := fun m => m * c.toNat ≤ n ∧ pdR r (n - m * c.toNat)) ⟨h1, h2⟩
  refine ⟨k, hk1, hk2, fun j hj hp => ?_⟩
  have := hk3 j ⟨Nat.le_trans (Nat.mul_le_mul_right _ (by omega)) hk1, hp⟩
  omega
theorem most_inv {c : Int} {r : List Int} {n : Nat} (hc : ∀ d ∈ c :: r, 1 ≤ d) (h : pdR (c :: r) n) : ∃ m, m * c.toNat ≤ n ∧ pdR r (n - m * c.toNat) ∧ Rmost c r n m := by
  obtain ⟨m, h1, h2⟩ := pd_split hc h
  have hc1 := hc c (by simp)
  have key : ∀ m, m * c.toNat ≤ n → m ≤ n := fun m hm => by
    have := Nat.mul_le_mul_left m (show 1 ≤ c.toNat by omega)
    omega
  obtain ⟨k, ⟨hk0, hk1, hk2⟩, hk3⟩ := KZ.least_ex (P := fun k => k ≤ n ∧ (n - k) * c.toNat ≤ n ∧ pdR r (n - (n - k) * c.toNat)) (m := n - m) (by
    have := key m h1
    rw [show n - (n - m) = m by omega]
    exact ⟨by omega, h1, h2⟩)
  refine ⟨n - k, hk1, hk2, fun j hj hjn hp => ?_⟩
  have hj2 := key j hjn
  have := hk3 (n - j) (by rw [show n - (n - j) = j by omega]; exact ⟨by omega, hjn, hp⟩)
  omega
/-- coins of one kind more -/
theorem pd_more {r : List Int} (hr : ∀ d ∈ r, 1 ≤ d) {d : Int} (hd : d ∈ r) {n : Nat} (h : pdR r n) (k : Nat) : pdR r (n + k * d.toNat) := by
  have hp : ∀ c ∈ natL r, 0 < c := fun c hc => by
    obtain ⟨x, hx, rfl⟩ := List.mem_map.mp hc
    have := hr x hx
    omega
  refine (KL.pd_paid hp _).mpr (KC.paid_many (List.mem_map.mpr ⟨d, hd, rfl⟩) ((KL.pd_paid hp n).mp h) k)
theorem first_small {c d : Int} {r : List Int} {n m : Nat} (hc : ∀ x ∈ c :: r, 1 ≤ x) (hd : d ∈ r) (h1 : m * c.toNat ≤ n) (h2 : pdR r (n - m * c.toNat)) (h3 : Rfew c r n m) : m < d.toNat := by
  refine Nat.lt_of_not_le fun hle => ?_
  have hd1 := hc d (by simp [hd])
  refine h3 (m - d.toNat) (by omega) ?_
  have := pd_more (fun x hx => hc x (by simp [hx])) hd h2 c.toNat
  have e : n - m * c.toNat + c.toNat * d.toNat = n - (m - d.toNat) * c.toNat := by
    rw [Nat.sub_mul, Nat.mul_comm c.toNat d.toNat]
    have := Nat.mul_le_mul_right c.toNat hle
    omega
  rwa [e] at this
theorem last_small {c : Int} {r : List Int} {n m : Nat} (hc : ∀ x ∈ c :: r, 1 ≤ x ∧ x ≤ 60) (h1 : m * c.toNat ≤ n) (h2 : pdR r (n - m * c.toNat)) (h3 : Rmost c r n m) : n - m * c.toNat ≤ 60 * c.toNat := by
  have hp : ∀ x ∈ natL (c :: r), 0 < x := fun x hx => by
    obtain ⟨y, hy, rfl⟩ := List.mem_map.mp hx
    have := hc y hy
    omega
  have hpr : ∀ x ∈ natL r, 0 < x := fun x hx => hp x (List.mem_cons_of_mem _ hx)
  have hcb := hc c (by simp)
  have O := KC.ok_tbl (n := c.toNat) (by omega) (natL (c :: r))
  have hup : KL.Paid (natL (c :: r)) (n - m * c.toNat) := ((KL.pd_paid hpr _).mp h2).mono fun x hx => List.mem_cons_of_mem _ hx
  obtain ⟨L, hL, hle⟩ := KC.ok_least (by omega) O hup
  have hb : L ≤ 60 * c.toNat := by
    have h1 := KC.ok_rank (n := c.toNat) (G := 60) (by omega) hp (fun x hx => by
      obtain ⟨y, hy, rfl⟩ := List.mem_map.mp hx
      have := hc y hy
      omega) O L _ hL
    have h2 := KC.rk_le (T := KC.tbl c.toNat (natL (c :: r))) L c.toNat
    have h3 := Nat.mul_le_mul_left 60 h2
    omega
  obtain ⟨hLp, hLr⟩ := O.sound _ _ hL
  obtain ⟨m1, hm1, hp1⟩ := pd_split (fun x hx => (hc x hx).1) ((KL.pd_paid hp L).mpr hLp)
  refine Nat.le_trans (Nat.le_of_not_lt fun hlt => ?_) hb
  -- so many coins more would do
  have hr1 : (L - m1 * c.toNat) % c.toNat = (n - m * c.toNat) % c.toNat := by
    rw [← hLr]
    have : L = (L - m1 * c.toNat) + m1 * c.toNat := by omega
    generalize L - m1 * c.toNat = y at *
    rw [this, Nat.add_mul_mod_self_right]
  obtain ⟨w, hw⟩ : ∃ w, n - m * c.toNat = (L - m1 * c.toNat) + w * c.toNat := by
    have e1 := Nat.div_add_mod (n - m * c.toNat) c.toNat
    have e2 := Nat.div_add_mod (L - m1 * c.toNat) c.toNat
    have e3 : (L - m1 * c.toNat) / c.toNat ≤ (n - m * c.toNat) / c.toNat := Nat.div_le_div_right (by omega)
    refine ⟨(n - m * c.toNat) / c.toNat - (L - m1 * c.toNat) / c.toNat, ?_⟩
    rw [Nat.sub_mul, Nat.mul_comm ((n - m * c.toNat) / c.toNat), Nat.mul_comm ((L - m1 * c.toNat) / c.toNat)]
    have := Nat.mul_le_mul_left c.toNat e3
    omega
  have hw0 : 0 < w := by
    refine Nat.pos_of_ne_zero fun z => ?_
    subst z
    omega
  refine h3 (m + w) (by omega) (by rw [Nat.add_mul]; omega) ?_
  rw [Nat.add_mul, show n - (m * c.toNat + w * c.toNat) = L - m1 * c.toNat by omega]
  exact hp1
def sp_l_rests : Sp := fun vs H Q _ => ∃ (t : Addr) (cs : List Int) (G : Nat), vs = [.ref t] ∧ H t = some (.tup (cs.map V.int)) ∧ Lotc cs ∧ cs[cs.length - 1]? = some (G : Int) ∧
  ∀ d kvs F H', H d = none → Same H H' → H' d = some (.dK kvs) → (∀ r : Nat, valV kvs (.inl (r : Int)) = (F r).map fun (v : Nat) => V.int v) → KC.Ok G (natL cs) F → Q (.ref d) H'
def sp_l_pays : Sp := fun vs H Q _ => ∃ (t d : Addr) (cs : List Int) (G : Nat) (kvs : List (L2.Key × V)) (F : KC.Tb) (z : Int), vs = [.ref t, .ref d, .int z] ∧ H t = some (.tup (cs.map V.int)) ∧ Lotc cs ∧ cs[cs.length - 1]? = some (G : Int) ∧
  H d = some (.dK kvs) ∧ (∀ r : Nat, valV kvs (.inl (r : Int)) = (F r).map fun (v : Nat) => V.int v) ∧ KC.Ok G (natL cs) F ∧ ∀ b : Bool, (b = true ↔ 0 ≤ z ∧ pdR cs z.toNat) → Q (.bl b) H
def sp_l_some_great : Sp := fun vs H Q _ => ∃ (b t : Addr) (cs : List Int), vs = [.ref b, .ref t] ∧ Bw H b ∧ H t = some (.tup (cs.map V.int)) ∧ Lotc cs ∧ ∀ (n : Nat) H', n ≤ 10 ^ 30 → pdR cs n → Bw H' b → But b H H' → Q (.int n) H'
def sp_l_small13 (C : Addr) : Sp := fun vs H Q _ => ∃ (b t : Addr) (cs : List Int), vs = [.ref b, .ref t] ∧ Bw H b ∧ H t = some (.tup (cs.map V.int)) ∧ Lotc cs ∧ cs.length ≤ 5 ∧ ∀ H', Bw H' b → But b H H' → Q (.bl true) H'
def sp_l_great13 : Sp := fun vs H Q _ => ∃ (t u : Addr) (cs x : List Int) (n : Nat) (fst : Bool), vs = [.ref t, .int n, .ref u, .bl fst] ∧ H t = some (.tup (cs.map V.int)) ∧ Lotc cs ∧ H u = some (.tup (x.map V.int)) ∧ n ≤ 10 ^ 30 ∧
  (if fst = true then (allP cs n).head? else (allP cs n).getLast?) = some x ∧ ∀ H', Same H H' → Q (.bl true) H'
end Kx
namespace Kx
open PySem L2 MG KM
/-- within a round -/
structure Rnd (cs : List Int) (G : Nat) (kvs : List (L2.Key × V)) (F : KC.Tb) (kvs2 : List (L2.Key × V)) (F2 : KC.Tb) (b : Bool) (P : Nat → Nat → Prop) : Prop where
  rst : Rst cs G kvs2 F2
  more : ∀ k, F k ≠ none → F2 k ≠ none
  how : (b = false ∧ kvs2 = kvs ∧ F2 = F ∧ ∀ r d, P r d → Cl F G r d) ∨ (b = true ∧ wgt F2 G < wgt F G)
theorem Rnd.cong {cs : List Int} {G : Nat} {kvs kvs2 : List (L2.Key × V)} {F F2 : KC.Tb} {b : Bool} {P P2 : Nat → Nat → Prop} (h : Rnd cs G kvs F kvs2 F2 b P) (e : ∀ r d, P2 r d → P r d) : Rnd cs G kvs F kvs2 F2 b P2 :=
  ⟨h.rst, h.more, h.how.imp (fun ⟨a, b, c, d⟩ => ⟨a, b, c, fun r x hx => d r x (e r x hx)⟩) id⟩
theorem Rnd.skip {cs : List Int} {G : Nat} {kvs kvs2 : List (L2.Key × V)} {F F2 : KC.Tb} {b : Bool} {P : Nat → Nat → Prop} (h : Rnd cs G kvs F kvs2 F2 b P) {r d : Nat} (hc : Cl F2 G r d) : Rnd cs G kvs F kvs2 F2 b (fun x y => P x y ∨ (x = r ∧ y = d)) := by
  refine ⟨h.rst, h.more, ?_⟩
  rcases h.how with ⟨a, b, c, e⟩ | h2
  · refine .inl ⟨a, b, c, fun x y hx => ?_⟩
    rcases hx with hx | ⟨rfl, rfl⟩
    · exact e x y hx
    · rw [← c]
      exact hc
  · exact .inr h2
theorem wgt_less {F : KC.Tb} {r w G : Nat} (hr : r < G) (hw : w < (F r).getD 4000) : wgt (rput F r w) G < wgt F G := by
  have := wgt_put hw G
  rw [if_pos hr] at this
  omega
theorem Rnd.put {cs : List Int} {G : Nat} {kvs kvs2 : List (L2.Key × V)} {F F2 : KC.Tb} {b : Bool} {P P2 : Nat → Nat → Prop} (h : Rnd cs G kvs F kvs2 F2 b P) (hG : 0 < G) (hG60 : G ≤ 60) {r v d : Nat} (hr : F2 r = some v) (hd : d ∈ natL cs) (h60 : d ≤ 60) (hl : ∀ u, F2 ((v + d) % G) = some u → v + d < u) :
    Rnd cs G kvs F (putK kvs2 (.inl (((v + d) % G : Nat) : Int)) (.int ((v + d : Nat) : Int))) (rput F2 ((v + d) % G) (v + d)) true P2 := by
  have hlen := h.rst.len
  have hsm := h.rst.small r v hr
  have hle : wgt F2 G ≤ wgt F G := by
    rcases h.how with ⟨_, _, c, _⟩ | ⟨_, c⟩
    · rw [c]
      exact Nat.le_refl _
    · omega
  have hw : v + d < (F2 ((v + d) % G)).getD 4000 := by
    cases e : F2 ((v + d) % G) with
    | none =>
      show v + d < 4000
      have := Nat.mul_le_mul_right 60 (Nat.le_trans hlen hG60)
      omega
    | some u => exact hl u e
  refine ⟨h.rst.put hG hr hd h60 hl, fun k hk => ?_, .inr ⟨rfl, Nat.lt_of_lt_of_le (wgt_less (Nat.mod_lt _ hG) hw) hle⟩⟩
  unfold rput
  split
  · nofun
  · exact h.more k hk
end Kx
namespace Kx
open PySem L2 MG KM
def gF (fst : Bool) (L : List (List Int)) : Option (List Int) := if fst = true then L.head? else L.getLast?
theorem gF_mem {fst : Bool} {L : List (List Int)} {x : List Int} (h : gF fst L = some x) : x ∈ L := by
  unfold gF at h
  split at h
  · exact List.mem_of_head? h
  · exact List.mem_of_getLast? h
def RF (fst : Bool) (c : Int) (r : List Int) (n m : Nat) : Prop := (fst = true → Rfew c r n m) ∧ (fst = false → Rmost c r n m)
theorem inv_step {fst : Bool} {c : Int} {r : List Int} {n : Nat} {x : List Int} (hc : ∀ d ∈ c :: r, 1 ≤ d) (h : gF fst (allP (c :: r) n) = some x) :
    ∃ (m : Nat) (x' : List Int), x = (m : Int) :: x' ∧ m * c.toNat ≤ n ∧ pdR r (n - m * c.toNat) ∧ RF fst c r n m ∧ gF fst (allP r (n - m * c.toNat)) = some x' := by
  have hpd : pdR (c :: r) n := (KG.all_pd hc n).mp (List.ne_nil_of_mem (gF_mem h))
  cases fst with
  | true =>
    obtain ⟨m, h1, h2, h3⟩ := few_inv hc hpd
    have e := pick_few.step hc h1 h2 h3
    have h' : (allP (c :: r) n).head? = some x := h
    rw [e] at h'
    obtain ⟨x', hx', rfl⟩ := Option.map_eq_some_iff.mp h'
    exact ⟨m, x', rfl, h1, h2, ⟨fun _ => h3, fun z => (nomatch z)⟩, hx'⟩
  | false =>
    obtain ⟨m, h1, h2, h3⟩ := most_inv hc hpd
    have e := pick_most.step hc h1 h2 h3
    have h' : (allP (c :: r) n).getLast? = some x := h
    rw [e] at h'
    obtain ⟨x', hx', rfl⟩ := Option.map_eq_some_iff.mp h'
    exact ⟨m, x', rfl, h1, h2, ⟨fun z => (nomatch z), fun _ => h3⟩, hx'⟩
end Kx
namespace Kx
open PySem L2 MG KM
def tD (x : List Int) : PyData := .tuple (x.map .int)
theorem shw_4 {x y : List Int} (hx : x.length ≤ 15 ∧ ∀ i ∈ x, i.natAbs < 2 ^ 1000) (hy : y.length ≤ 15 ∧ ∀ i ∈ y, i.natAbs < 2 ^ 1000) : Shw 16000000 90 (.list [tD x, tD x, tD y, tD y]) := by
  have hall : ∀ d ∈ [tD x, tD x, tD y, tD y], Shw (15 * 1003 + 3) 1 d := fun d hd => by
    simp only [List.mem_cons, List.not_mem_nil, or_false] at hd
    rcases hd with rfl | rfl | rfl | rfl
    · exact shw_intsT hx.2 hx.1
    · exact shw_intsT hx.2 hx.1
    · exact shw_intsT hy.2 hy.1
    · exact shw_intsT hy.2 hy.1
  exact (shw_list (m := 4) hall (by simp)).mono (by decide) (by decide)
end Kx
namespace Kx
open PySem L2 MG KM
theorem wrt_le {cs z : List Int} (hc : ∀ d ∈ cs, 1 ≤ d) (h1 : z.length = cs.length) (h2 : ∀ m ∈ z, 0 ≤ m) : ∀ i ∈ z, i ≤ wrt cs z := by
  intro i hi
  obtain ⟨j, hj, e⟩ := List.mem_iff_getElem.mp hi
  have hz : z[j]? = some i := by rw [List.getElem?_eq_getElem hj, e]
  have hcj : cs[j]? = some (cs[j]'(by omega)) := List.getElem?_eq_getElem (by omega)
  have h3 := KF.wrt_ge hc h2 hcj hz
  have h4 := hc _ (List.mem_of_getElem? hcj)
  have h5 := h2 i hi
  have h6 : 1 * i ≤ cs[j]'(by omega) * i := Int.mul_le_mul_of_nonneg_right h4 h5
  omega
end Kx
namespace Kx
open PySem L2 MG KM
theorem lot_times {cs : List Int} (h : Lotc cs) (hc : ∀ c ∈ cs, c ≤ 25) {w : Nat} (h1 : 1 ≤ w) (h2 : w ≤ 2) : Lotc (cs.map fun c => (w : Int) * c) := by
  obtain ⟨a, b, c⟩ := h
  have h60 := lot_pos (Int.le_refl 0) c
  have hw : (w : Int) = 1 ∨ (w : Int) = 2 := by omega
  refine ⟨by simpa using a, by simpa using b, asc_of ?_ fun d hd => ?_⟩
  · rw [List.pairwise_map]
    refine (asc_pw c).1.imp fun {x y} hxy => ?_
    rcases hw with e | e <;> rw [e] <;> omega
  · obtain ⟨x, hx, rfl⟩ := List.mem_map.mp hd
    have := hc x hx
    have := h60 x hx
    rcases hw with e | e <;> rw [e] <;> omega
end Kx

/-! [18]: purses that hold all sums up to their whole -/
namespace KU
/-- the sums of some of the pieces -/
inductive Hs : List Nat → Nat → Prop
  | nil : Hs [] 0
  | skip {a : Nat} {l : List Nat} {n : Nat} (h : Hs l n) : Hs (a :: l) n
  | take {a : Nat} {l : List Nat} {n : Nat} (h : Hs l n) : Hs (a :: l) (n + a)
theorem Hs.le {l : List Nat} {n : Nat} (h : Hs l n) : n ≤ l.sum := by
  induction h with
  | nil => simp
  | skip h ih => rw [List.sum_cons]; omega
  | take h ih => rw [List.sum_cons]; omega
theorem Hs.zero : ∀ l : List Nat, Hs l 0
  | [] => .nil
  | _ :: l => .skip (Hs.zero l)
theorem hs_snoc {l : List Nat} {a n : Nat} : Hs (l ++ [a]) n ↔ Hs l n ∨ (a ≤ n ∧ Hs l (n - a)) := by
  induction l generalizing n with
  | nil =>
    constructor
    · intro h
      cases h with
      | skip h => exact .inl h
      | take h =>
        cases h
        exact .inr ⟨by omega, by simpa using Hs.nil⟩
    · rintro (h | ⟨h1, h2⟩)
      · exact .skip h
      · have := Hs.take (a := a) h2
        rwa [Nat.sub_add_cancel h1] at this
  | cons b l ih =>
    constructor
    · intro h
      cases h with
      | skip h =>
        rcases ih.mp h with h | ⟨h1, h2⟩
        · exact .inl (.skip h)
        · exact .inr ⟨h1, .skip h2⟩
      | @take _ _ m h =>
        rcases ih.mp h with h | ⟨h1, h2⟩
        · exact .inl (.take h)
        · refine .inr ⟨by omega, ?_⟩
          rw [show m + b - a = m - a + b by omega]
          exact .take h2
    · rintro (h | ⟨h1, h2⟩)
      · cases h with
        | skip h => exact .skip (ih.mpr (.inl h))
        | take h => exact .take (ih.mpr (.inl h))
      · generalize hk : n - a = k at h2
        cases h2 with
        | skip h => exact .skip (ih.mpr (.inr ⟨h1, by rw [hk]; exact h⟩))
        | @take _ _ m h =>
          have e : n = (n - b) + b := by omega
          rw [e]
          exact .take (ih.mpr (.inr ⟨by omega, by rw [show n - b - a = m by omega]; exact h⟩))
/-- holds each sum up to its whole -/
def Whole (l : List Nat) : Prop := ∀ n, n ≤ l.sum → Hs l n
theorem whole_snoc {l : List Nat} {a : Nat} (h : Whole l) (ha : a ≤ 1 + l.sum) : Whole (l ++ [a]) := by
  intro n hn
  rw [List.sum_append] at hn
  have hn' : n ≤ l.sum + a := by simpa using hn
  rw [hs_snoc]
  by_cases c : n ≤ l.sum
  · exact .inl (h n c)
  · exact .inr ⟨by omega, h _ (by omega)⟩
/-- of an ascending purse each piece is at most 1 more than those ahead of it come to -/
theorem whole_of : ∀ (k : Nat) (l : List Nat), l.length = k → (∀ i a, l[i]? = some a → a ≤ 1 + (l.take i).sum) → Whole l := by
  intro k
  induction k with
  | zero =>
    intro l hl _ n hn
    have : l = [] := List.eq_nil_of_length_eq_zero hl
    subst this
    have : n = 0 := by simpa using hn
    subst this
    exact .nil
  | succ k ih =>
    intro l hl h
    have hne : l ≠ [] := by intro z; rw [z] at hl; simp at hl
    have e : l = l.dropLast ++ [l.getLast hne] := (List.dropLast_concat_getLast hne).symm
    have hd : l.dropLast.length = k := by rw [List.length_dropLast, hl]; rfl
    rw [e]
    refine whole_snoc (ih _ hd fun i a hi => ?_) ?_
    · have hik : i < k := by
        have := (List.getElem?_eq_some_iff.mp hi).1
        omega
      have h1 : l[i]? = some a := by rw [e, List.getElem?_append_left (by omega)]; exact hi
      have h2 := h i a h1
      have h3 : l.take i = l.dropLast.take i := by
        conv => lhs; rw [e]
        rw [List.take_append_of_le_length (by omega)]
      rwa [h3] at h2
    · have h1 : l[k]? = some (l.getLast hne) := by
        conv => lhs; rw [e]
        rw [List.getElem?_append_right (by omega), hd, Nat.sub_self]
        rfl
      have h2 := h k _ h1
      have h3 : l.take k = l.dropLast := by
        conv => lhs; rw [e]
        rw [List.take_append_of_le_length (by omega), ← hd, List.take_length]
      rwa [h3] at h2
theorem hs_split {p q : List Nat} {n : Nat} (h : Hs (p ++ q) n) : ∃ x y, Hs p x ∧ Hs q y ∧ n = x + y := by
  induction p generalizing n with
  | nil => exact ⟨0, n, .nil, h, by omega⟩
  | cons a p ih =>
    cases h with
    | skip h =>
      obtain ⟨x, y, h1, h2, h3⟩ := ih h
      exact ⟨x, y, .skip h1, h2, h3⟩
    | take h =>
      obtain ⟨x, y, h1, h2, h3⟩ := ih h
      exact ⟨x + a, y, .take h1, h2, by omega⟩
theorem hs_big {q : List Nat} {m y : Nat} (hm : ∀ a ∈ q, m ≤ a) (h : Hs q y) : y = 0 ∨ m ≤ y := by
  induction h with
  | nil => exact .inl rfl
  | @skip a l n h ih => exact ih fun b hb => hm b (List.mem_cons_of_mem _ hb)
  | @take a l n h ih =>
    have := hm a (by simp)
    exact .inr (by omega)
/-- a piece that is too great leaves a gap -/
theorem gap_at {l : List Nat} {i a : Nat} (hs : l.Pairwise (· ≤ ·)) (h : l[i]? = some a) (ha : 1 + (l.take i).sum < a) : 1 + (l.take i).sum ≤ l.sum ∧ ¬ Hs l (1 + (l.take i).sum) := by
  have hi := (List.getElem?_eq_some_iff.mp h).1
  have e : l = l.take i ++ l.drop i := (List.take_append_drop i l).symm
  have hd : l.drop i = a :: l.drop (i + 1) := by
    rw [List.drop_eq_getElem_cons hi]
    congr 1
    exact (List.getElem?_eq_some_iff.mp h).2
  have hge : ∀ b ∈ l.drop i, a ≤ b := by
    intro b hb
    rw [hd] at hb
    rcases List.mem_cons.mp hb with rfl | hb
    · exact Nat.le_refl _
    · have hp : (l.drop i).Pairwise (· ≤ ·) := hs.sublist (List.drop_sublist i l)
      rw [hd] at hp
      exact (List.pairwise_cons.mp hp).1 b hb
  have hsum : l.sum = (l.take i).sum + (l.drop i).sum := by rw [← List.sum_append, ← e]
  have hds : (l.drop i).sum = a + (l.drop (i + 1)).sum := by rw [hd, List.sum_cons]
  refine ⟨by omega, fun hh => ?_⟩
  have hh' : Hs (l.take i ++ l.drop i) (1 + (l.take i).sum) := by rw [← e]; exact hh
  obtain ⟨x, y, h1, h2, h3⟩ := hs_split hh'
  have hx := h1.le
  rcases hs_big hge h2 with z | z <;> omega
theorem whole_iff {l : List Nat} (hs : l.Pairwise (· ≤ ·)) : Whole l ↔ ∀ i a, l[i]? = some a → a ≤ 1 + (l.take i).sum := by
  constructor
  · intro h i a hi
    refine Classical.byContradiction fun z => ?_
    obtain ⟨h1, h2⟩ := gap_at hs hi (by omega)
    exact h2 (h _ h1)
  · exact whole_of _ l rfl
/-- of an ascending purse the first pieces come to least -/
theorem take_least {m l : List Nat} (h : m.Sublist l) (hs : l.Pairwise (· ≤ ·)) : (l.take m.length).sum ≤ m.sum := by
  induction h with
  | slnil => simp
  | @cons m l a h ih =>
    have hp := List.pairwise_cons.mp hs
    have := ih hp.2
    cases m with
    | nil => simp
    | cons b m =>
      rw [List.length_cons, List.take_succ_cons, List.sum_cons, List.sum_cons]
      have hb : a ≤ b := hp.1 b (h.subset (by simp))
      have h2 := ih hp.2
      rw [List.length_cons, List.sum_cons] at h2
      have h3 : (l.take m.length).sum ≤ m.sum := by
        have hsub : m.Sublist l := (List.sublist_cons_self b m).trans h
        clear ih this h2
        have key : ∀ {m l : List Nat}, m.Sublist l → l.Pairwise (· ≤ ·) → (l.take m.length).sum ≤ m.sum := by
          intro m l h
          induction l generalizing m with
          | nil => intro _; simp
          | cons a l ih =>
            intro hs
            have hp := List.pairwise_cons.mp hs
            cases m with
            | nil => simp
            | cons b m =>
              rw [List.length_cons, List.take_succ_cons, List.sum_cons, List.sum_cons]
              have hml : m.Sublist l := by
                cases h with
                | cons _ h => exact (List.sublist_cons_self b m).trans h
                | cons_cons _ h => exact h
              have hab : a ≤ b := by
                cases h with
                | cons _ h => exact hp.1 b (h.subset (by simp))
                | cons_cons _ h => exact Nat.le_refl _
              have := ih hml hp.2
              omega
        exact key hsub hp.2
      omega
  | @cons_cons m l a h ih =>
    rw [List.length_cons, List.take_succ_cons, List.sum_cons, List.sum_cons]
    have := ih (List.pairwise_cons.mp hs).2
    omega
/-- where a piece of what is left stands -/
theorem place_in {m l : List Nat} (h : m.Sublist l) : ∀ {j a : Nat}, m[j]? = some a → ∃ i, l[i]? = some a ∧ (m.take j).Sublist (l.take i) ∧ j ≤ i ∧ m.length + i ≤ l.length + j := by
  induction h with
  | slnil => intro j a e; simp at e
  | @cons m l b h ih =>
    intro j a e
    obtain ⟨i, h1, h2, h3, h4⟩ := ih e
    refine ⟨i + 1, by simpa using h1, ?_, by omega, by rw [List.length_cons]; omega⟩
    rw [List.take_succ_cons]
    exact .cons _ h2
  | @cons_cons m l b h ih =>
    intro j a e
    cases j with
    | zero =>
      have e' : b = a := by simpa using e
      subst e'
      have := h.length_le
      exact ⟨0, rfl, by simp, Nat.le_refl _, by simp; omega⟩
    | succ j =>
      obtain ⟨i, h1, h2, h3, h4⟩ := ih (by simpa using e)
      refine ⟨i + 1, by simpa using h1, ?_, by omega, by simp; omega⟩
      rw [List.take_succ_cons, List.take_succ_cons]
      exact .cons_cons _ h2
theorem take_mono {l : List Nat} {i j : Nat} (h : i ≤ j) : (l.take i).sum ≤ (l.take j).sum := by
  have e : l.take j = l.take i ++ (l.take j).drop i := by
    have : l.take i = (l.take j).take i := by rw [List.take_take, Nat.min_eq_left h]
    rw [this, List.take_append_drop]
  rw [e, List.sum_append]
  omega
/-- [18] -/
theorem full_iff {l : List Nat} {K : Nat} (hs : l.Pairwise (· ≤ ·)) (hK : K < l.length) :
    (∀ m, m.Sublist l → m.length + K = l.length → Whole m) ↔ ∀ i a, l[i]? = some a → a ≤ 1 + (l.take (i - K)).sum := by
  constructor
  · intro h i a hi
    refine Classical.byContradiction fun z => ?_
    have hil := (List.getElem?_eq_some_iff.mp hi).1
    have hd : l.drop i = a :: l.drop (i + 1) := by
      rw [List.drop_eq_getElem_cons hil]
      congr 1
      exact (List.getElem?_eq_some_iff.mp hi).2
    by_cases c : K ≤ i
    · have hsub : (l.take (i - K) ++ l.drop i).Sublist l := by
        have e : l = l.take (i - K) ++ l.drop (i - K) := (List.take_append_drop _ _).symm
        conv => rhs; rw [e]
        refine (List.Sublist.refl _).append ?_
        have : l.drop i = (l.drop (i - K)).drop K := by rw [List.drop_drop]; congr 1; omega
        rw [this]
        exact List.drop_sublist _ _
      have hw := h _ hsub (by rw [List.length_append, List.length_take, List.length_drop]; omega)
      have hw' := (whole_iff (hs.sublist hsub)).mp hw (i - K) a (by
        rw [List.getElem?_append_right (by rw [List.length_take]; omega), List.length_take, Nat.min_eq_left (by omega), Nat.sub_self, hd]
        rfl)
      rw [List.take_append_of_le_length (by rw [List.length_take]; omega), List.take_take, Nat.min_self] at hw'
      omega
    · have hsub : (a :: l.drop (K + 1)).Sublist l := by
        have e : l = l.take i ++ l.drop i := (List.take_append_drop _ _).symm
        conv => rhs; rw [e, hd]
        refine List.Sublist.trans ?_ (List.sublist_append_right _ _)
        refine .cons_cons _ ?_
        have : l.drop (K + 1) = (l.drop (i + 1)).drop (K - i) := by rw [List.drop_drop]; congr 1; omega
        rw [this]
        exact List.drop_sublist _ _
      have hw := h _ hsub (by rw [List.length_cons, List.length_drop]; omega)
      have hw' := (whole_iff (hs.sublist hsub)).mp hw 0 a rfl
      have e0 : i - K = 0 := by omega
      rw [e0] at z
      simp at hw' z
      omega
  · intro h m hsub hl
    refine (whole_iff (hs.sublist hsub)).mpr fun j a hj => ?_
    obtain ⟨i, h1, h2, h3, h4⟩ := place_in hsub hj
    have h5 := h i a h1
    have hjm := (List.getElem?_eq_some_iff.mp hj).1
    have h6 := take_least h2 (hs.sublist (List.take_sublist i l))
    rw [List.length_take, Nat.min_eq_left (by omega), List.take_take] at h6
    have h7 : (l.take (i - K)).sum ≤ (l.take (min j i)).sum := take_mono (by omega)
    omega
end KU

/-! [17]: the sums that a purse holds, and in how many ways -/
namespace KW
open KU
/-- how many of the first j steps of p from k come to x -/
def cj (k p : Nat) : Nat → Nat → Nat
  | 0, _ => 0
  | j + 1, x => cj k p j x + if k + j * p = x then 1 else 0
/-- the ways to come to x with fewer than j more of p -/
def pw (F : Nat → Nat) (p : Nat) : Nat → Nat → Nat
  | 0, _ => 0
  | j + 1, x => pw F p j x + if j * p ≤ x then F (x - j * p) else 0
/-- the same, asked from where one comes -/
def ow (F : Nat → Nat) (p j : Nat) : List Nat → Nat → Nat
  | [], _ => 0
  | k :: r, x => F k * cj k p j x + ow F p j r x
/-- of one step alone -/
def os (F : Nat → Nat) (y : Nat) : List Nat → Nat
  | [] => 0
  | k :: r => (if k = y then F k else 0) + os F y r
theorem os_no {F : Nat → Nat} {y : Nat} : ∀ {ks : List Nat}, y ∉ ks → os F y ks = 0
  | [], _ => rfl
  | k :: r, h => by
    have h1 : ¬ k = y := fun e => h (by simp [e])
    have h2 : y ∉ r := fun e => h (by simp [e])
    simp [os, h1, os_no h2]
theorem os_is {F : Nat → Nat} {y : Nat} : ∀ {ks : List Nat}, ks.Nodup → y ∈ ks → os F y ks = F y
  | k :: r, hn, h => by
    have hc := List.nodup_cons.mp hn
    by_cases e : k = y
    · subst e
      simp [os, os_no hc.1]
    · have : y ∈ r := by
        rcases List.mem_cons.mp h with rfl | h
        · exact absurd rfl e
        · exact h
      simp [os, e, os_is hc.2 this]
theorem ow_zero {F : Nat → Nat} {p x : Nat} : ∀ ks : List Nat, ow F p 0 ks x = 0
  | [] => rfl
  | k :: r => by simp [ow, cj, ow_zero r]
theorem ow_succ {F : Nat → Nat} {p j x : Nat} : ∀ ks : List Nat, ow F p (j + 1) ks x = ow F p j ks x + (if j * p ≤ x then os F (x - j * p) ks else 0)
  | [] => by simp [ow, os]
  | k :: r => by
    rw [ow, ow, cj, ow_succ r, os, Nat.mul_add]
    by_cases h : j * p ≤ x
    · rw [if_pos h, if_pos h]
      by_cases e : k + j * p = x
      · rw [if_pos e, if_pos (by omega)]
        omega
      · rw [if_neg e, if_neg (by omega)]
        omega
    · rw [if_neg h, if_neg h, if_neg (by omega)]
      omega
theorem ow_is {F : Nat → Nat} {p : Nat} {ks : List Nat} (hn : ks.Nodup) (hk : ∀ k, k ∈ ks ↔ F k ≠ 0) : ∀ j x, ow F p j ks x = pw F p j x
  | 0, x => ow_zero ks
  | j + 1, x => by
    rw [ow_succ, pw, ow_is hn hk j x]
    by_cases h : j * p ≤ x
    · rw [if_pos h, if_pos h]
      by_cases e : x - j * p ∈ ks
      · rw [os_is hn e]
      · rw [os_no e]
        have : F (x - j * p) = 0 := Decidable.byContradiction fun z => e ((hk _).mpr z)
        rw [this]
    · rw [if_neg h, if_neg h]
theorem ow_snoc {F : Nat → Nat} {p j k x : Nat} : ∀ ks : List Nat, ow F p j (ks ++ [k]) x = ow F p j ks x + F k * cj k p j x
  | [] => by simp [ow]
  | a :: r => by
    rw [List.cons_append, ow, ow, ow_snoc r]
    omega
theorem take_succ_of {l : List Nat} {i k : Nat} (h : l[i]? = some k) : l.take (i + 1) = l.take i ++ [k] := by
  rw [List.take_succ, h]
  rfl
theorem pw_some {F : Nat → Nat} {p x : Nat} : ∀ {j : Nat}, pw F p j x ≠ 0 ↔ ∃ i, i < j ∧ i * p ≤ x ∧ F (x - i * p) ≠ 0
  | 0 => by simp [pw]
  | j + 1 => by
    rw [pw]
    constructor
    · intro h
      by_cases e : pw F p j x = 0
      · by_cases c : j * p ≤ x
        · rw [if_pos c] at h
          exact ⟨j, by omega, c, by omega⟩
        · rw [if_neg c] at h
          omega
      · obtain ⟨i, a, b, c⟩ := pw_some.mp e
        exact ⟨i, by omega, b, c⟩
    · rintro ⟨i, a, b, c⟩
      by_cases e : i = j
      · subst e
        rw [if_pos b]
        omega
      · have := pw_some.mpr ⟨i, (by omega : i < j), b, c⟩
        omega
theorem hs_rep {l : List Nat} {p : Nat} : ∀ {m x : Nat}, Hs (l ++ List.replicate m p) x ↔ ∃ i, i < m + 1 ∧ i * p ≤ x ∧ Hs l (x - i * p)
  | 0, x => by
    simp only [List.replicate_zero, List.append_nil]
    constructor
    · intro h
      exact ⟨0, by omega, by omega, by simpa using h⟩
    · rintro ⟨i, a, b, c⟩
      have : i = 0 := by omega
      subst this
      simpa using c
  | m + 1, x => by
    rw [List.replicate_succ', ← List.append_assoc, hs_snoc, hs_rep, hs_rep]
    constructor
    · rintro (⟨i, a, b, c⟩ | ⟨h, i, a, b, c⟩)
      · exact ⟨i, by omega, b, c⟩
      · refine ⟨i + 1, by omega, ?_, ?_⟩
        · rw [Nat.succ_mul]; omega
        · rw [Nat.succ_mul, show x - (i * p + p) = x - p - i * p by omega]
          exact c
    · rintro ⟨i, a, b, c⟩
      cases i with
      | zero => exact .inl ⟨0, by omega, by omega, c⟩
      | succ i =>
        rw [Nat.succ_mul] at b c
        exact .inr ⟨by omega, i, by omega, by omega, by rw [show x - p - i * p = x - (i * p + p) by omega]; exact c⟩
/-- the ways of the pieces of ps, kind by kind -/
def wf (ps : List Nat) : List Nat → (Nat → Nat) → Nat → Nat
  | [], F => F
  | p :: r, F => wf ps r (pw F p (ps.count p + 1))
def w0 : Nat → Nat := fun x => if x = 0 then 1 else 0
/-- the pieces, kind by kind -/
def kinds (ps : List Nat) (ks : List Nat) : List Nat := ks.flatMap fun p => List.replicate (ps.count p) p
theorem wf_hs {ps : List Nat} : ∀ {ks l : List Nat} {F : Nat → Nat}, (∀ x, F x ≠ 0 ↔ Hs l x) → ∀ x, wf ps ks F x ≠ 0 ↔ Hs (l ++ kinds ps ks) x
  | [], l, F, h, x => by
    rw [kinds, List.flatMap_nil, List.append_nil]
    exact h x
  | p :: r, l, F, h, x => by
    rw [wf, kinds, List.flatMap_cons, ← List.append_assoc]
    refine wf_hs (fun y => ?_) x
    rw [pw_some, hs_rep]
    constructor
    · rintro ⟨i, a, b, c⟩
      exact ⟨i, a, b, (h _).mp c⟩
    · rintro ⟨i, a, b, c⟩
      exact ⟨i, a, b, (h _).mpr c⟩
theorem wf_snoc {ps : List Nat} {p : Nat} : ∀ {l : List Nat} {F : Nat → Nat} {x : Nat}, wf ps (l ++ [p]) F x = pw (wf ps l F) p (ps.count p + 1) x
  | [], _, _ => rfl
  | a :: r, F, x => by
    rw [List.cons_append, wf, wf_snoc, wf]
theorem kinds_snoc {ps l : List Nat} {p : Nat} : (kinds ps (l ++ [p])).sum = (kinds ps l).sum + ps.count p * p := by
  unfold kinds
  rw [List.flatMap_append, List.flatMap_cons, List.flatMap_nil, List.append_nil, List.sum_append]
  have key : ∀ m : Nat, (List.replicate m p).sum = m * p := by
    intro m
    induction m with
    | zero => simp
    | succ m ih => rw [List.replicate_succ, List.sum_cons, ih, Nat.succ_mul]; omega
  rw [key]
theorem kinds_le {ps l : List Nat} {i : Nat} : (kinds ps (l.take i)).sum ≤ (kinds ps l).sum := by
  have e : l = l.take i ++ l.drop i := (List.take_append_drop i l).symm
  have : kinds ps l = kinds ps (l.take i) ++ kinds ps (l.drop i) := by
    conv => lhs; rw [e]
    unfold kinds
    rw [List.flatMap_append]
  rw [this, List.sum_append]
  omega
theorem hs_perm {l l' : List Nat} (h : l.Perm l') : ∀ {x}, Hs l x → Hs l' x := by
  induction h with
  | nil => exact id
  | cons a _ ih =>
    intro x h
    cases h with
    | skip h => exact .skip (ih h)
    | take h => exact .take (ih h)
  | swap a b l =>
    intro x h
    cases h with
    | skip h =>
      cases h with
      | skip h => exact .skip (.skip h)
      | take h => exact .take (.skip h)
    | take h =>
      cases h with
      | skip h => exact .skip (.take h)
      | @take _ _ n h =>
        rw [Nat.add_right_comm]
        exact .take (.take h)
  | trans _ _ ih1 ih2 => exact fun h => ih2 (ih1 h)
theorem kinds_count {ps : List Nat} {a : Nat} : ∀ {ks : List Nat}, ks.Nodup → (kinds ps ks).count a = if a ∈ ks then ps.count a else 0
  | [], _ => by simp [kinds]
  | k :: r, hn => by
    have hc := List.nodup_cons.mp hn
    have e : kinds ps (k :: r) = List.replicate (ps.count k) k ++ kinds ps r := List.flatMap_cons ..
    rw [e, List.count_append, kinds_count hc.2, List.count_replicate]
    by_cases z : k = a
    · subst z
      simp [hc.1]
    · have z' : ¬ a = k := fun e => z e.symm
      simp [z, z']
theorem kinds_perm {ps ks : List Nat} (hn : ks.Nodup) (hm : ∀ a, a ∈ ks ↔ a ∈ ps) : (kinds ps ks).Perm ps := by
  rw [List.perm_iff_count]
  intro a
  rw [kinds_count hn]
  by_cases h : a ∈ ks
  · rw [if_pos h]
  · rw [if_neg h]
    exact (List.count_eq_zero.mpr fun z => h ((hm a).mpr z)).symm
theorem wf_is {ps ks : List Nat} (hn : ks.Nodup) (hm : ∀ a, a ∈ ks ↔ a ∈ ps) (x : Nat) : wf ps ks w0 x ≠ 0 ↔ Hs ps x := by
  have h0 : ∀ x, w0 x ≠ 0 ↔ Hs [] x := fun x => by
    unfold w0
    constructor
    · intro h
      have : x = 0 := Decidable.byContradiction fun z => h (if_neg z)
      subst this
      exact .nil
    · intro h
      cases h
      simp
  rw [wf_hs h0, List.nil_append]
  exact ⟨hs_perm (kinds_perm hn hm), hs_perm (kinds_perm hn hm).symm⟩
theorem kinds_sum {ps ks : List Nat} (hn : ks.Nodup) (hm : ∀ a, a ∈ ks ↔ a ∈ ps) : (kinds ps ks).sum = ps.sum := (kinds_perm hn hm).sum_nat
theorem nat_list {ns : List Int} (h : ∀ k ∈ ns, 0 ≤ k) : ns = (ns.map Int.toNat).map fun (p : Nat) => (p : Int) := by
  rw [List.map_map]
  conv => lhs; rw [← List.map_id ns]
  refine List.map_congr_left fun k hk => ?_
  have := h k hk
  show k = ((k.toNat : Nat) : Int)
  omega
theorem count_cast {ps : List Nat} {k : Nat} : (ps.map fun (p : Nat) => (p : Int)).count (k : Int) = ps.count k := by
  induction ps with
  | nil => rfl
  | cons a r ih =>
    rw [List.map_cons, List.count_cons, List.count_cons, ih]
    by_cases e : a = k
    · simp [e]
    · have : ¬ (a : Int) = k := by omega
      simp [e, this]
/-- what is left of a purse is held, too -/
theorem Hs.rest {l : List Nat} {x : Nat} (h : Hs l x) : Hs l (l.sum - x) := by
  induction h with
  | nil => exact .nil
  | @skip a l n h ih =>
    have := h.le
    have e := Hs.take (a := a) ih
    rw [List.sum_cons, show a + l.sum - n = l.sum - n + a by omega]
    exact e
  | @take a l n h ih =>
    rw [List.sum_cons, show a + l.sum - (n + a) = l.sum - n by omega]
    exact .skip ih
theorem hs_join {p q : List Nat} {x y : Nat} (hx : Hs p x) (hy : Hs q y) : Hs (p ++ q) (x + y) := by
  induction hx with
  | nil => simpa using hy
  | skip _ ih => exact .skip ih
  | @take a l n _ ih =>
    rw [Nat.add_right_comm]
    exact .take ih
end KW

/-! tuple.count of whole numbers; sorted of a dict of whole numbers, any number -/
namespace L2
open PySem PySem.Spec PyProof.Rows
section
variable {X : Cx}
def rCntT (K : PySem.W.Frag) : V → List V → Hp → VK → Prop := fun x xs H Q => ∃ (p : Addr) (ns : List Int) (k : Int), x = .ref p ∧ xs = [.int k] ∧ SqT K H p (ns.map V.int) ∧ Q (.int (ns.count k : Nat)) H
def isK (k : Int) : Value → Bool := fun y => match y with
  | .int m _ => m == k
  | _ => false
theorem isK_count (k : Int) : ∀ {ns : List Int} {its : List Value}, Vals (ns.map V.int) its → its.countP (isK k) = ns.count k
  | [], _, .nil => rfl
  | n :: ns, _, .cons ⟨t, e⟩ r => by
    subst e
    rw [List.countP_cons, isK_count k r, List.count_cons]
    rfl
theorem isK_eq {k : Int} {t : Tok} : ∀ {ns : List Int} {its : List Value}, Vals (ns.map V.int) its → ∀ y ∈ its, MeetsSeq.EqGives y (.int k t) (isK k y)
  | [], _, .nil => by simp
  | n :: ns, _, .cons ⟨t', e⟩ r => by
    subst e
    intro y hy
    rcases List.mem_cons.mp hy with rfl | hy
    · exact MeetsSeq.EqGives.int _ _ _ _
    · exact isK_eq r y hy
theorem mt_tcount : MtR X "tuple.count" (rCntT X.K) := by
  intro pins s σ H x xs v us Q I rx rxs h
  obtain ⟨p, ns, k, rfl, rfl, hs, q⟩ := h
  cases (show v = Value.ref p from rx)
  obtain ⟨u, rfl, t, rfl⟩ := Vals.one rxs
  obtain ⟨its, rv, ⟨o, ho, hc, n, hd⟩, hz⟩ := I.tuple hs
  obtain ⟨cls, dd, data, sl⟩ := o
  cases hc
  cases hd
  refine call_meets F.slot_tuple_count ⟨_, ho, rfl⟩ F.entry_tuple_count (F.args_tuple_count_2 _ _) (SeqAt.tuple_countAt p its.toArray n dd sl (.int k t) (isK k)) ⟨ho, fun y hy => ?_, ?_⟩
  · exact (isK_eq rv y (by simpa using hy)).at _ _
  · rw [List.toList_toArray, isK_count k rv]
    exact ⟨.int _, H, I.tok _, ⟨_, rfl⟩, q⟩
/-- sorted of a dict whose keys are whole numbers, any number of them -/
def rSortedDA : List V → Hp → VK → Prop := fun xs H Q => ∃ (a : Addr) (kvs : List (Key × V)) (ks : List Int), xs = [.ref a] ∧ H a = some (.dK kvs) ∧ kvs.map Prod.fst = ks.map Sum.inl ∧
  ∀ (ys : List Int) (p : Addr), ys.Perm ks → ys.Pairwise (· ≤ ·) → H p = none → Q (.ref p) (upd H p (.lst (ys.map V.int)))
theorem sortedDA (hcalm : X.calm = true) : CallR X (.builtin "sorted") rSortedDA := by
  intro pins s σ H xs us Q I r h
  obtain ⟨a, kvs, ks, rfl, hd, hks, q⟩ := h
  obtain ⟨u, rfl, rx⟩ := vals1 r
  cases (show u = Value.ref a from rx)
  obtain ⟨hz, lo, vs, rel, dd⟩ := dk_rd I.hok (.inl hd)
  obtain ⟨ep, hat⟩ := dd.dictAt
  have hkeys : vs.map Prod.fst = ks.map Sum.inl := (KV.keys rel).symm.trans hks
  have hl : vs.length = ks.length := by
    have := congrArg List.length hkeys
    simpa using this
  have hl2 : kvs.length = ks.length := by
    have := congrArg List.length hks
    simpa using this
  have h16 : vs.length ≤ sizeLine := by omega
  refine PySem.Calls.call_function_entry kind_sorted plain_sorted entry_sorted (args_sorted1 _) ?_
  unfold Builtin.sorted
  refine wpAny_bind (wpAny_pure ?_)
  refine wpAny_bind (W.kdu_collect (W.kdl_dict lo) (by have := I.ok.hd hcalm; simp [this]) hat h16 fun h' tk acc hk hacc => ?_)
  have hal : acc.toList.length = ks.length := by
    rw [Array.length_toList, hacc.1, hl]
  have hi : IntsAre acc.toList ks := by
    refine ints_each hal fun j v e => ?_
    have hj : j < acc.size := by
      have := (List.getElem?_eq_some_iff.mp e).1
      simpa using this
    obtain ⟨k, x, e1, e2⟩ := hacc.2 j v (by simpa using e)
    have e3 : (ks.map Sum.inl)[j]? = some k := by
      rw [← hkeys, List.getElem?_map, e1]
      rfl
    rw [List.getElem?_map] at e3
    cases e4 : ks[j]? with
    | none => rw [e4] at e3; cases e3
    | some z =>
      rw [e4] at e3
      have : k = Sum.inl z := by simpa using e3.symm
      subst this
      have e6 : keyIs (Sum.inl z) v = true := e2
      unfold keyIs at e6
      cases v with
      | int m t =>
        have : m = z := by simpa [Value.isInt] using e6
        exact ⟨z, t, rfl, by rw [this]⟩
      | _ => simp [Value.isInt] at e6
  have I1 : Inv X pins σ H { s with heap := h', toks := tk } := I.kept hk
  have hb : acc.toList.length ≤ sizeLine := by omega
  refine wpAny_bind (wpAny_newList ?_ hb)
  refine wpAny_bind (wpAny_holding (wpAny_call_entry slot_list_sort ⟨_, Heap.get?_push_size _ rfl, rfl⟩ entry_list_sort (list_sort_treeAny (n := 0) (vs := acc.toList) (Heap.get?_push_size _ rfl) hi hb fun out' ns' hi' hperm hord => ⟨_, rfl, ?_⟩) (args_list_sort _)))
  refine wpAny_pure ⟨_, rfl, ?_⟩
  have hsa : ((h'.push { cls := Value.type "list", data := Data.seq acc.toList.toArray }).get? h'.objs.size) = some (seqObj "list" acc.toList.toArray 0) := Heap.get?_push_size _ rfl
  obtain ⟨e, he⟩ := sortedHeap_at (out := out') hsa
  have kp : ∀ (b : Addr) (ob : Obj), h'.get? b = some ob → (sortedHeap (h'.push { cls := Value.type "list", data := Data.seq acc.toList.toArray }) h'.objs.size acc.toList out').get? b = some ob := fun b ob eb => by
    have lb : b < h'.objs.size := Heap.lt_size eb
    rw [sortedHeap_old (Nat.ne_of_lt lb) (by rw [size_push']; exact Nat.lt_succ_of_lt lb)]
    exact Heap.get?_push_of_some _ eb
  have np : H h'.objs.size = none := I1.hok.fresh (Nat.le_refl _)
  exact ⟨.ref h'.objs.size, _, I1.laid (o := .lst (ns'.map V.int)) kp (Nat.le_refl _) ⟨by rw [List.length_map, hperm.length_eq, ← hal]; exact hb, out'.toList, e, vals_of_ints hi', he⟩, rfl, q ns' _ hperm hord np⟩
end
end L2

/-! sum of a tuple -/
namespace MG
open PySem PySem.Spec PyProof.Rows L2
theorem sum_rawT {prog : Program} {w : World} {A : Around} {E : Value → Shared → Prop} {s : Shared} {l : Addr} {its : List Value} {ns : List Int} {Q : Value → Shared → Prop} (hh : A.handled = none) (hl : s.heap.IsTuple l its.toArray) (hi : IntsAre its ns)
    (h : ∀ h' tk t', (∀ b o, s.heap.get? b = some o → h'.get? b = some o) → Q (.int ns.sum t') { s with heap := h', toks := tk }) : wpAny (model prog w) A (call (.builtin "sum") [.ref l]) Q E s := by
  obtain ⟨xs, e⟩ := hi.allInts.items
  have hn : numsOf (intItems xs).toList = ns := by rw [← e]; exact hi.numsOf
  rw [nums_intItems] at hn
  rw [e] at hl
  refine PySem.W.ktm_sumG hh hl fun h' tk t' hk => ?_
  have := h h' tk t' hk
  rw [preSum_eq, List.take_of_length_le (by simp), hn]
  exact this
def rSumHT : List V → Hp → VK → Prop := fun vs H Q => ∃ (a : Addr) (ns : List Int), vs = [V.ref a] ∧ H a = some (.tup (ns.map V.int)) ∧ Q (.int ns.sum) H
theorem sum_HT {X : Cx} (hc : X.calm = true) : CallR X (.builtin "sum") rSumHT := by
  intro pins s σ H vs us Q I r h
  obtain ⟨a, ns, rfl, hs, q⟩ := h
  obtain ⟨its, rv, hl, _⟩ := I.tuple (sqT hs)
  rw [Vals.ref1 r]
  exact sum_rawT (I.ok.hd hc) hl rv.ints fun h' tk t' hk => ⟨.int _, H, I.kept hk, ⟨_, rfl⟩, q⟩
end MG

/-! tuples that are known to have no dict (frozen as they are made): methods of theirs -/
namespace L2
open PySem PySem.Spec PyProof.Rows
section
variable {X : Cx}
/-- a tuple that has no dict -/
def FT (H : Hp) (a : Addr) (xs : List V) : Prop := ∃ od : Obj, H a = some (.frz od (.tup xs)) ∧ od.dict = none
theorem FT.t {K : PySem.W.Frag} {H : Hp} {a : Addr} {xs : List V} (h : FT H a xs) : SqT K H a xs := by
  obtain ⟨od, e, _⟩ := h
  exact .inl (.inr ⟨od, e⟩)
theorem FT.new {H : Hp} {a : Addr} {od : Obj} {xs : List V} (h : od.dict = none) : FT (upd H a (.frz od (.tup xs))) a xs := ⟨od, upd_same, h⟩
theorem FT.same {H H' : Hp} {a : Addr} {xs : List V} (h : FT H a xs) (s : ∀ c o, H c = some o → H' c = some o) : FT H' a xs := by
  obtain ⟨od, e, n⟩ := h
  exact ⟨od, s _ _ e, n⟩
theorem FT.ty {K : PySem.W.Frag} {H : Hp} {a : Addr} {xs : List V} (h : FT H a xs) : TyX K H (.ref a) (.type "tuple") := by
  obtain ⟨od, e, _⟩ := h
  exact .fTuple e
/-- tuple of a tracked list: no dict -/
def rTupF : List V → Hp → VK → Prop := fun vs H Q => ∃ (p : Addr) (xs : List V), vs = [.ref p] ∧ H p = some (.lst xs) ∧ ∀ (q : Addr) (od : Obj), H q = none → od.dict = none → Q (.ref q) (upd H q (.frz od (.tup xs)))
theorem tuple_F : CallR X (.type "tuple") rTupF := by
  intro pins s σ H vs us Q I r h
  obtain ⟨p, ys, rfl, hp, q⟩ := h
  obtain ⟨u, rfl, rx⟩ := vals1 r
  cases (show u = Value.ref p from rx)
  obtain ⟨its, r', pl, hz⟩ := I.list (.inl (.inl hp))
  have hlen := r'.length
  refine call_tuple_list (PlainL.isList pl) (fun h' kp => ?_) (by rw [List.size_toArray]; omega)
  have I1 := I.kept (t' := s.toks) kp
  have hg : (h'.push { cls := Value.type "tuple", data := Data.seq its.toArray }).get? h'.objs.size = some { cls := Value.type "tuple", data := Data.seq its.toArray } := Heap.get?_push_size _ rfl
  have I2 := I1.laid (t' := s.toks) (a := h'.objs.size) (o := .frz { cls := Value.type "tuple", data := Data.seq its.toArray } (.tup ys)) (fun b o e => Heap.get?_push_of_some _ e) (Nat.le_refl _) ⟨hg, hz, its, r', _, hg, rfl, _, rfl⟩
  exact ⟨.ref h'.objs.size, _, I2, rfl, q _ _ (I1.hok.fresh (Nat.le_refl _)) rfl⟩
def tBMF (r : V → List V → Hp → VK → Prop) (to : TE) (t : TA) : TE := fun σ H Q => to σ H fun x H1 => (∃ a xs, x = .ref a ∧ FT H1 a xs) ∧ t σ H1 fun xs H2 => r x xs H2 Q
theorem pe_bmF {o e : PySem.Expr} {es : List PySem.Expr} {to : TE} {t : TA} {name : Str} {apos cpos : Pos} {id : String} {r : V → List V → Hp → VK → Prop} (pa : PlainAttrs "tuple") (slot : Slot "tuple" name id) (hty : typeOf (Value.builtin id) = pure (Value.type "method_descriptor")) (hm : MtR X id r) (ho : PE X o to) (ha : PA X (e :: es) t)
    (hbase : attributeBase o name X.env (eval o X.env) = eval o X.env := by rfl)
    (hfew : ((((backTo cpos (starEach (e :: es) X.env)).all fun x => !x.fst) && (backToKw cpos (keywordEach [] X.env)).all fun x => x.fst.isSome) && decide (((e :: es).length + ([] : List PySem.Keyword).length + if ([] : List PySem.Keyword).isEmpty = true then 0 else 1) < 30)) = true := by rfl)
    (hline : (apos.endLine == cpos.line) = true := by rfl) (hs : starEach (e :: es) X.env = (false, eval e X.env) :: starEach es X.env := by rfl) (hplain : ((backTo cpos (starEach es X.env)).any fun x => x.fst) = false := by rfl) :
    PE X ((o.Attribute name apos).Call (e :: es) [] cpos) (tBMF r to t) := by
  refine ⟨?_⟩
  intro pins s σ H Q I h
  refine wpAny_Call_method_late hbase hfew hline rfl (thn (ho.run pins s σ H (fun x H1 => (∃ a xs, x = .ref a ∧ FT H1 a xs) ∧ t σ H1 fun xs H2 => r x xs H2 Q) I h) ?_)
  rintro v s1 ⟨x, H1, I1, r1, ⟨a, xs, rfl, od, hf, hn⟩, q1⟩
  cases (show v = Value.ref a from r1)
  have hob := I1.hok _ _ hf
  have hg : s1.heap.get? a = some od := hob.1
  have hcl : od.cls = Value.type "tuple" := by
    obtain ⟨_, its, _, o', ho', hc', _⟩ := hob.2
    rw [hg] at ho'
    cases ho'
    exact hc'
  refine ⟨"tuple", id, pa, slot, hty, ⟨od, hg, hcl⟩, fun b e => ?_, ?_⟩
  · cases e
    exact ⟨od, hg, hn⟩
  · have hA := ha.run cpos pins s1 σ H1 (fun xs H2 => r (.ref a) xs H2 Q) I1 q1
    rw [hs] at hA ⊢
    refine Calls.callWith_builtin (by show (false || ((backTo cpos (starEach es X.env)).any fun x => x.fst)) = false; rw [hplain]; rfl) (Calls.evalArgs_plain (thn hA ?_))
    rintro us s2 ⟨vs, H2, I2, r2, q2⟩
    exact hm pins s2 σ H2 (.ref a) vs (.ref a) us Q I2 rfl r2 q2
/-- len, sum and set of such a tuple -/
def rLenF : List V → Hp → VK → Prop := fun vs H Q => ∃ (a : Addr) (xs : List V), vs = [.ref a] ∧ FT H a xs ∧ Q (.int (xs.length : Nat)) H
theorem len_F : CallR X (.builtin "len") rLenF := by
  intro pins s σ H vs us Q I r h
  obtain ⟨a, xs, h1, h2, q⟩ := h
  exact call_len_seq pins s σ H vs us Q I r ⟨a, xs, h1, .inr h2.t, q⟩
def rSumF : List V → Hp → VK → Prop := fun vs H Q => ∃ (a : Addr) (ns : List Int), vs = [V.ref a] ∧ FT H a (ns.map V.int) ∧ Q (.int ns.sum) H
theorem sum_F (hc : X.calm = true) : CallR X (.builtin "sum") rSumF := by
  intro pins s σ H vs us Q I r h
  obtain ⟨a, ns, rfl, hs, q⟩ := h
  obtain ⟨its, rv, hl, _⟩ := I.tuple hs.t
  rw [Vals.ref1 r]
  exact MG.sum_rawT (I.ok.hd hc) hl rv.ints fun h' tk t' hk => ⟨.int _, H, I.kept hk, ⟨_, rfl⟩, q⟩
def rSetF (w : World) : List V → Hp → VK → Prop := fun vs H Q => ∃ (a : Addr) (ns : List Int), vs = [.ref a] ∧ FT H a (ns.map V.int) ∧ ns.length < 1000 ∧
  ∀ p c, H p = none → c ≤ ns.length → Q (.ref p) (upd H p (SetO w p (fun j => decide (j ∈ ns)) c))
theorem set_F (hc : X.calm = true) : CallR X (.type "set") (rSetF X.w) := by
  intro pins s σ H vs us Q I r h
  obtain ⟨a, ns, rfl, ha, hl, q⟩ := h
  obtain ⟨u, rfl, rx⟩ := vals1 r
  cases (show u = Value.ref a from rx)
  obtain ⟨its, rv, p, hz⟩ := I.tuple (a := a) (xs := ns.map V.int) ha.t
  refine MG.set_of_tuple ns (I.ok.hd hc) p (by simpa using intsAre_of rv) (Nat.lt_of_le_of_lt (show ns.length + 1 ≤ 1000 by omega) (by decide)) ?_
  intro h' tk c hS hc' hk
  exact ⟨.ref _, _, I.laid (t' := tk) hk (Nat.le_refl _) (setO_new hS), rfl, q _ c (I.hok.fresh (Nat.le_refl _)) hc'⟩
/-- sorted of a tuple of whole numbers -/
def rSortTI (K : PySem.W.Frag) : List V → Hp → VK → Prop := fun vs H Q => ∃ (a : Addr) (ns : List Int), vs = [.ref a] ∧ SqT K H a (ns.map V.int) ∧
  ∀ (ns' : List Int) (p : Addr), ns'.Perm ns → ns'.Pairwise (· ≤ ·) → H p = none → Q (.ref p) (upd H p (.lst (ns'.map V.int)))
theorem sorted_TI : CallR X (.builtin "sorted") (rSortTI X.K) := by
  intro pins s σ H xs us Q I r h
  obtain ⟨a, ks, rfl, hd, q⟩ := h
  obtain ⟨u, rfl, rx⟩ := vals1 r
  cases (show u = Value.ref a from rx)
  obtain ⟨its, rv, ⟨o, ho, hc, n, hdt⟩, hz⟩ := I.tuple hd
  have hi : IntsAre its ks := rv.ints
  have hal : its.length = ks.length := by
    have := rv.length
    simpa using this.symm
  have hb : its.length ≤ sizeLine := by
    rw [List.length_map] at hz
    omega
  refine PySem.Calls.call_function_entry kind_sorted plain_sorted entry_sorted (args_sorted1 _) ?_
  unfold Builtin.sorted
  refine wpAny_bind (wpAny_pure ?_)
  refine wpAny_bind (wpAny_collect_seq a (.inr rfl) ho hc hdt (fun h' hk => ?_) (by rw [List.size_toArray]; exact hb))
  have I1 : Inv X pins σ H { s with heap := h' } := I.kept (t' := s.toks) hk
  rw [List.toList_toArray]
  refine wpAny_bind (wpAny_newList ?_ hb)
  refine wpAny_bind (wpAny_holding (wpAny_call_entry slot_list_sort ⟨_, Heap.get?_push_size _ rfl, rfl⟩ entry_list_sort (list_sort_treeAny (n := 0) (vs := its) (Heap.get?_push_size _ rfl) hi hb fun out' ns' hi' hperm hord => ⟨_, rfl, ?_⟩) (args_list_sort _)))
  refine wpAny_pure ⟨_, rfl, ?_⟩
  have hsa : ((h'.push { cls := Value.type "list", data := Data.seq its.toArray }).get? h'.objs.size) = some (seqObj "list" its.toArray 0) := Heap.get?_push_size _ rfl
  obtain ⟨e, he⟩ := sortedHeap_at (out := out') hsa
  have kp : ∀ (b : Addr) (ob : Obj), h'.get? b = some ob → (sortedHeap (h'.push { cls := Value.type "list", data := Data.seq its.toArray }) h'.objs.size its out').get? b = some ob := fun b ob eb => by
    have lb : b < h'.objs.size := Heap.lt_size eb
    rw [sortedHeap_old (Nat.ne_of_lt lb) (by rw [size_push']; exact Nat.lt_succ_of_lt lb)]
    exact Heap.get?_push_of_some _ eb
  have np : H h'.objs.size = none := I1.hok.fresh (Nat.le_refl _)
  exact ⟨.ref h'.objs.size, _, I1.laid (o := .lst (ns'.map V.int)) kp (Nat.le_refl _) ⟨by rw [List.length_map, hperm.length_eq, ← hal]; exact hb, out'.toList, e, vals_of_ints hi', he⟩, rfl, q ns' _ hperm hord np⟩
end
end L2

/-! zip of a tuple and a list -/
namespace MG
open PySem PySem.Spec PyProof.Rows L2
def Itm (K : PySem.W.Frag) (a b : Addr) (xs ys : List V) : It where
  go := fun i H => SqT K H a xs ∧ SqL K H b ys ∧ i < xs.length ∧ i < ys.length
  yld := fun i H v H' => ∃ T x y, v = .ref T ∧ H T = none ∧ H' = upd H T (.tup [x, y]) ∧ xs[i]? = some x ∧ ys[i]? = some y
  stop := fun i H => SqT K H a xs ∧ SqL K H b ys ∧ i ≤ xs.length ∧ i ≤ ys.length ∧ (i = xs.length ∨ i = ys.length)
theorem turn_zipM {P : Program} {w : World} {K : PySem.W.Frag} {elts : List Expr} {kk : Nat} {tpos : Pos} {a b z TI TO i1 i2 : Addr} {xs ys : List V} (sep : ZipSep2 z TI TO i1 i2 [i1, a] [i2, b]) :
    Turn P w K (.Tuple elts kk tpos) (Itm K a b xs ys) [z, TI, TO, i1, i2] z (fun i h => IsZip h z TI TO .none ∧ IsTupOf2 h TI (.ref i1) (.ref i2) ∧ (∃ x y, IsTupOf2 h TO x y) ∧ h.IsTupleIter i1 a i ∧ h.IsListIter i2 b i) where
  mem := by simp
  obj := by
    rintro i h ⟨hz, hTI, ⟨x, y, hTO⟩, ⟨o1, h1, c1, d1⟩, ⟨o2, h2, c2, d2⟩⟩ c hc
    rcases (show c = z ∨ c = TI ∨ c = TO ∨ c = i1 ∨ c = i2 by simpa using hc) with e | e | e | e | e <;> subst e
    · exact ⟨_, hz, fun v q => nomatch q⟩
    · exact ⟨_, hTI, fun v q => nomatch q⟩
    · exact ⟨_, hTO, fun v q => nomatch q⟩
    · exact ⟨o1, h1, fun v q => by rw [d1] at q; cases q⟩
    · exact ⟨o2, h2, fun v q => by rw [d2] at q; cases q⟩
  keep := by
    rintro i h h' ⟨hz, hTI, ⟨x, y, hTO⟩, h1, h2⟩ k
    exact ⟨k z (by simp) _ hz, k TI (by simp) _ hTI, ⟨x, y, k TO (by simp) _ hTO⟩, h1.at fun o q => k i1 (by simp) o q, h2.at fun o q => k i2 (by simp) o q⟩
  item := by
    intro X hP hw hK hc i pins s σ H E I hf st hgo
    subst hP hw hK
    obtain ⟨hz, hTI, ⟨x0, y0, hTO⟩, h1, h2⟩ := st
    obtain ⟨qx, qy, lx, ly⟩ := hgo
    obtain ⟨its, rv, p, hzx⟩ := I.tuple qx
    obtain ⟨jts, rw', pl, hzy⟩ := I.list qy
    have hl1 := rv.length
    have hl2 := rw'.length
    have na1 : a ≠ i1 := by
      intro e
      obtain ⟨o1, q1, c1, _⟩ := h1
      obtain ⟨o2, q2, c2, _⟩ := p
      rw [e, q1] at q2
      cases q2
      rw [c1] at c2
      exact absurd c2 (by decide)
    have nb2 : b ≠ i2 := by
      intro e
      obtain ⟨o1, q1, c1, _⟩ := h2
      obtain ⟨o2, q2, c2, _⟩ := pl.isList
      rw [e, q1] at q2
      cases q2
      rw [c1] at c2
      exact absurd c2 (by decide)
    have hh : X.A.in1.handled = none := by have q := I.ok.hd hc; exact q
    refine wpAny_pyNext_zipD2_item sep (Draws.tuple hh i1 a na1 its.toArray) (Draws.list hh i2 b nb2 jts.toArray) hz hTI hTO ⟨h1, p⟩ ⟨h2, pl.isList⟩ (show i < its.toArray.size by simp; omega) (show i < jts.toArray.size by simp; omega) ?_
    intro u1 u2 h' tk hu1 hu2 hz' hTO' st1 st2 hT hsz hk
    obtain ⟨x, hx⟩ : ∃ x, xs[i]? = some x := ⟨xs[i], List.getElem?_eq_getElem lx⟩
    obtain ⟨y, hy⟩ : ∃ y, ys[i]? = some y := ⟨ys[i], List.getElem?_eq_getElem ly⟩
    obtain ⟨v1, hv1, r1⟩ := rv.get hx
    obtain ⟨v2, hv2, r2⟩ := rw'.get hy
    have e1 : its[i]? = some u1 := by simpa using hu1
    have e2 : jts[i]? = some u2 := by simpa using hu2
    rw [e1] at hv1
    rw [e2] at hv2
    cases hv1
    cases hv2
    refine ⟨_, rfl, wpAny_letOwnedTupleGo_zip (s := { s with heap := h', toks := tk }) hz' ?_⟩
    intro h'' hz'' sb
    have lz : z < s.heap.objs.size := Heap.lt_size hz
    have lT : TI < s.heap.objs.size := Heap.lt_size hTI
    have lO : TO < s.heap.objs.size := Heap.lt_size hTO
    have l1 : i1 < s.heap.objs.size := by obtain ⟨_, q, _⟩ := h1; exact Heap.lt_size q
    have l2 : i2 < s.heap.objs.size := by obtain ⟨_, q, _⟩ := h2; exact Heap.lt_size q
    have hT2 : h''.get? s.heap.objs.size = some { cls := .type "tuple", data := .seq #[u1, u2] } := (sb.2 _ (Nat.ne_of_gt lz)).trans hT
    have new : ObjOk X.prog X.w (upd H s.heap.objs.size (.tup [x, y])) h'' s.heap.objs.size (.tup [x, y]) :=
      ⟨by show 2 ≤ sizeLine; decide, [u1, u2], .cons r1 (.cons r2 .nil), ⟨_, hT2, rfl, _, rfl⟩⟩
    have kp : ∀ c o, c ∉ [z, TI, TO, i1, i2] → s.heap.get? c = some o → h''.get? c = some o := fun c o hb q =>
      (sb.2 c (fun e => hb (by simp [e]))).trans (hk c o (fun e => hb (by simp [e])) (fun e => hb (by simp [e])) (fun e => hb (by simp [e])) (fun e => hb (by simp [e])) q)
    have I1 := I.turnedNew (t' := tk) (ch := [z, TI, TO, i1, i2]) kp hf (Nat.le_refl _) new
    have nz1 : i1 ≠ z := fun e => sep.zf1 (by simp [e])
    have nz2 : i2 ≠ z := fun e => sep.zf2 (by simp [e])
    have hTI' : h'.get? TI = _ := hk TI _ sep.TIz sep.TITO sep.TIi1 sep.TIi2 hTI
    refine ⟨.ref s.heap.objs.size, _, I1, rfl, ⟨_, x, y, rfl, I.hok.fresh (Nat.le_refl _), rfl, hx, hy⟩, ⟨hz'', (sb.2 TI sep.TIz).trans hTI', ⟨u1, u2, (sb.2 TO sep.TOz).trans hTO'⟩, st1.1.at fun o q => (sb.2 i1 nz1).trans q, st2.1.at fun o q => (sb.2 i2 nz2).trans q⟩, ?_⟩
    intro c hc'
    have hlt : c < s.heap.objs.size := by
      rcases (show c = z ∨ c = TI ∨ c = TO ∨ c = i1 ∨ c = i2 by simpa using hc') with e | e | e | e | e <;> rw [e] <;> assumption
    rw [upd_ne (Nat.ne_of_lt hlt)]
    exact (hf c hc').1
  done := by
    intro X hP hw hK hc i pins s σ H E I hf st hs
    subst hP hw hK
    obtain ⟨hz, hTI, ⟨x0, y0, hTO⟩, h1, h2⟩ := st
    obtain ⟨qx, qy, lx, ly, lxy⟩ := hs
    obtain ⟨its, rv, p, hzx⟩ := I.tuple qx
    obtain ⟨jts, rw', pl, hzy⟩ := I.list qy
    have hl1 := rv.length
    have hl2 := rw'.length
    have na1 : a ≠ i1 := by
      intro e
      obtain ⟨o1, q1, c1, _⟩ := h1
      obtain ⟨o2, q2, c2, _⟩ := p
      rw [e, q1] at q2
      cases q2
      rw [c1] at c2
      exact absurd c2 (by decide)
    have nb2 : b ≠ i2 := by
      intro e
      obtain ⟨o1, q1, c1, _⟩ := h2
      obtain ⟨o2, q2, c2, _⟩ := pl.isList
      rw [e, q1] at q2
      cases q2
      rw [c1] at c2
      exact absurd c2 (by decide)
    have hh : X.A.in1.handled = none := by have q := I.ok.hd hc; exact q
    refine wpAny_pyNext_zipD2_end sep (Draws.tuple hh i1 a na1 its.toArray) (Draws.list hh i2 b nb2 jts.toArray) hz hTI hTO ⟨h1, p⟩ ⟨h2, pl.isList⟩ (show i ≤ its.toArray.size by simp; omega) (show i ≤ jts.toArray.size by simp; omega) (show i = its.toArray.size ∨ i = jts.toArray.size by simp; omega) ?_
    intro h' tk hk
    exact ⟨rfl, I.turnedL (t' := tk) (ch := [z, TI, TO, i1, i2]) (fun c o hb q => hk c o (fun e => hb (by simp [e])) (fun e => hb (by simp [e])) (fun e => hb (by simp [e])) (fun e => hb (by simp [e])) q) hf⟩
  self := by
    rintro A i s Q E ⟨hz, _⟩ h
    exact wpAny_pyIter_zip hz h
def iZipM (K : PySem.W.Frag) (ta : TA) : TI := fun σ H R => ta σ H fun vs H1 => ∃ a b xs ys, vs = [.ref a, .ref b] ∧ SqT K H1 a xs ∧ SqL K H1 b ys ∧ R (Itm K a b xs ys) H1
theorem pi_zipM {X : Cx} {e e2 : Expr} {ta : TA} {p pos tpos : Pos} {elts : List Expr} {kk : Nat} (hg : Gl X "zip") (hm : X.mg "zip" = none) (ha : PA X [e, e2] ta)
    (hs : starEach [e, e2] X.env = (false, eval e X.env) :: starEach [e2] X.env := by rfl) (hpl : ((backTo pos (starEach [e2] X.env)).any fun x => x.fst) = false := by rfl) :
    PI X (.Tuple elts kk tpos) (.Call (.Name "zip" p) [e, e2] [] pos) (iZipM X.K ta) := by
  refine ⟨?_⟩
  intro pins s σ H R I h
  refine Call_ (ld_blt I hg hm boot_zip (PyProof.Rows.callWith_type1 (thn (ha.run pos pins s σ H _ I h) ?_) hs hpl))
  rintro us s1 ⟨vs, H1, I1, r1, a, b, xs, ys, rfl, qx, qy, q⟩
  obtain ⟨u, us, rfl, rx, rr⟩ : ∃ u us', us = u :: us' ∧ RelV (.ref a) u ∧ Vals [.ref b] us' := by
    cases r1 with
    | cons h1 h2 => exact ⟨_, _, rfl, h1, h2⟩
  obtain ⟨v, rfl, ry⟩ := vals1 rr
  cases (show u = Value.ref a from rx)
  cases (show v = Value.ref b from ry)
  obtain ⟨its, rv, pt, hzx⟩ := I1.tuple qx
  obtain ⟨jts, rw', pl, hzy⟩ := I1.list qy
  refine zip_begins2 (PySem.begins_tuple a its.toArray) (PySem.begins_list b jts.toArray) pt pl.isList ?_
  intro h' hz hTI hTO g1 g2 hsz hk
  refine wpAny_pyIter_zip hz ?_
  have I2 : Inv X pins σ H1 { s1 with heap := h' } := I1.kept (t' := s1.toks) hk
  have la : a < s1.heap.objs.size := by obtain ⟨_, q1, _⟩ := pt; exact Heap.lt_size q1
  have lb : b < s1.heap.objs.size := by obtain ⟨_, q1, _⟩ := pl.isList; exact Heap.lt_size q1
  refine ⟨s1.heap.objs.size + 4, [s1.heap.objs.size + 4, s1.heap.objs.size + 2, s1.heap.objs.size + 3, s1.heap.objs.size, s1.heap.objs.size + 1], _, _, H1, rfl, I2, turn_zipM (zip_sep2 (N := s1.heap.objs.size) (fp1 := [a]) (fp2 := [b]) (by simp; exact la) (by simp; exact lb)), ⟨hz, hTI, ⟨_, _, hTO⟩, ⟨_, g1, rfl, rfl⟩, ⟨_, g2, rfl, rfl⟩⟩, ?_, q⟩
  intro c hc
  have hle : s1.heap.objs.size ≤ c := by
    rcases (show c = _ ∨ c = _ ∨ c = _ ∨ c = _ ∨ c = _ by simpa using hc) with e | e | e | e | e <;> rw [e] <;> omega
  exact I1.fpOk hle (I1.hok.fresh hle)
/-- what a walk over such a zip does -/
theorem walk_zipM {K : PySem.W.Frag} {a b : Addr} {xs ys : List V} {n : Nat} (hn : n = min xs.length ys.length) : Walk (Itm K a b xs ys) n (fun H => SqT K H a xs ∧ SqL K H b ys) (YPair (fun i => xs[i]?) (fun i => ys[i]?)) := by
  exact ⟨fun i H hi ⟨q1, q2⟩ => ⟨q1, q2, by omega, by omega⟩, fun H ⟨q1, q2⟩ => ⟨q1, q2, by omega, by omega, by omega⟩, fun i H x H' hi _ h => h⟩
end MG

/-! purses: what a purse is, the ways of its sums in a dict, the sums held -/
namespace Kx
open PySem L2 MG KM
structure PurseL (ps : List Nat) : Prop where
  few : ps.length ≤ 12
  up : ps.Pairwise (· ≤ ·)
  mem : ∀ p ∈ ps, 1 ≤ p ∧ p ≤ 1000
def intsN (ps : List Nat) : List V := ps.map fun (p : Nat) => V.int (p : Int)
theorem intsN_ints (ps : List Nat) : intsN ps = (ps.map fun (p : Nat) => (p : Int)).map V.int := by
  unfold intsN
  rw [List.map_map]
  rfl
theorem intsN_at {ps : List Nat} {i : Nat} {x : V} (h : (intsN ps)[i]? = some x) : ∃ p, ps[i]? = some p ∧ x = .int (p : Nat) := by
  unfold intsN at h
  rw [List.getElem?_map] at h
  cases e : ps[i]? with
  | none => rw [e] at h; cases h
  | some p =>
    rw [e] at h
    exact ⟨p, rfl, by simpa using h.symm⟩
theorem PurseL.whole {ps : List Nat} (h : PurseL ps) : ps.sum ≤ 12000 := by
  have key : ∀ l : List Nat, (∀ p ∈ l, p ≤ 1000) → l.sum ≤ l.length * 1000 := by
    intro l
    induction l with
    | nil => simp
    | cons a r ih =>
      intro hm
      have h1 := hm a (by simp)
      have h2 := ih fun p hp => hm p (by simp [hp])
      rw [List.sum_cons, List.length_cons, Nat.succ_mul]
      omega
  have := key ps fun p hp => (h.mem p hp).2
  have := h.few
  omega
/-- a dict of ways: what F tells, all at most B -/
structure Wy (kvs : List (L2.Key × V)) (F : Nat → Nat) (B : Nat) (ks : List Nat) : Prop where
  val : ∀ r : Nat, valV kvs (.inl (r : Int)) = if F r = 0 then none else some (V.int (F r : Nat))
  is : kvs = ks.map fun (k : Nat) => ((Sum.inl (k : Int) : L2.Key), V.int (F k : Nat))
  nd : ks.Nodup
  mem : ∀ k, k ∈ ks ↔ F k ≠ 0
  top : ∀ r, F r ≠ 0 → r ≤ B
theorem Wy.len {kvs F B ks} (h : Wy kvs F B ks) : kvs.length ≤ B + 1 := by
  have := KF.nodup_le (m := List.range (B + 1)) h.nd fun k hk => List.mem_range.mpr (by have := h.top k ((h.mem k).mp hk); omega)
  rw [List.length_range] at this
  rw [h.is, List.length_map]
  exact this
def bump (F : Nat → Nat) (t n : Nat) : Nat → Nat := fun x => if x = t then F t + n else F x
theorem Wy.put {kvs F B ks} (h : Wy kvs F B ks) {t n : Nat} (ht : t ≤ B) (hn : 0 < n) :
    ∃ ks', Wy (putK kvs (.inl (t : Int)) (.int ((F t + n : Nat) : Int))) (bump F t n) B ks' := by
  have key : ∃ ks' : List Nat, (putK kvs (.inl (t : Int)) (.int ((F t + n : Nat) : Int))) = (ks'.map fun (k : Nat) => ((Sum.inl (k : Int) : L2.Key), V.int (bump F t n k : Nat))) ∧ ks'.Nodup ∧ ∀ k, k ∈ ks' ↔ bump F t n k ≠ 0 := by
    by_cases e : F t = 0
    · have hv : valV kvs (.inl (t : Int)) = none := by rw [h.val, if_pos e]
      have hk : t ∉ ks := fun z => (h.mem t).mp z e
      refine ⟨ks ++ [t], ?_, List.nodup_append.mpr ⟨h.nd, by simp, fun x hx y hy ex => ?_⟩, fun k => ?_⟩
      · rw [putK_new _ hv, List.map_append, List.map_cons, List.map_nil]
        congr 1
        · conv => lhs; rw [h.is]
          refine List.map_congr_left fun k hk2 => ?_
          have : ¬ k = t := fun z => hk (z ▸ hk2)
          simp [bump, this]
        · simp [bump]
      · have : y = t := by simpa using hy
        subst ex
        exact hk (this ▸ hx)
      · unfold bump
        by_cases ek : k = t
        · subst ek
          simp
          omega
        · rw [if_neg ek, ← h.mem k]
          simp [ek]
    · refine ⟨ks, ?_, h.nd, fun k => ?_⟩
      · have ha : (kvs.any fun kv => decide (kv.1 = (Sum.inl (t : Int) : L2.Key))) = true := by
          rw [valV_any, h.val, if_neg e]
          rfl
        unfold putK
        rw [if_pos ha]
        conv => lhs; rw [h.is]
        rw [List.map_map]
        refine List.map_congr_left fun k hk2 => ?_
        show (if (Sum.inl (k : Int) : L2.Key) = Sum.inl (t : Int) then (Sum.inl (k : Int), V.int ((F t + n : Nat) : Int)) else (Sum.inl (k : Int), V.int (F k : Nat))) = _
        by_cases ek : k = t
        · subst ek
          simp [bump]
        · rw [if_neg (fun z => ek (by have := Sum.inl.inj z; omega))]
          simp [bump, ek]
      · unfold bump
        by_cases ek : k = t
        · subst ek
          rw [if_pos rfl, h.mem k]
          omega
        · rw [if_neg ek]
          exact h.mem k
  obtain ⟨ks', a, b, c⟩ := key
  refine ⟨ks', fun x => ?_, a, b, c, fun x hx => ?_⟩
  · rw [valV_put]
    unfold bump
    by_cases e : x = t
    · subst e
      rw [if_pos rfl, if_pos rfl, if_neg (by omega)]
    · rw [if_neg (fun z => e (by have := Sum.inl.inj z; omega)), if_neg e]
      exact h.val x
  · unfold bump at hx
    by_cases e : x = t
    · omega
    · rw [if_neg e] at hx
      exact h.top x hx
theorem Wy.cong {kvs F G B ks} (h : Wy kvs F B ks) (e : ∀ x, F x = G x) : Wy kvs G B ks := by
  have : F = G := funext e
  exact this ▸ h
theorem Wy.up {kvs F B B' ks} (h : Wy kvs F B ks) (e : B ≤ B') : Wy kvs F B' ks := ⟨h.val, h.is, h.nd, h.mem, fun r hr => Nat.le_trans (h.top r hr) e⟩
theorem wy_nil {B : Nat} : Wy [] (fun _ => 0) B [] := ⟨fun _ => rfl, rfl, by simp, by simp, by simp⟩
theorem wy_one {B : Nat} : Wy [(.inl 0, .int 1)] KW.w0 B [0] := by
  refine ⟨fun r => ?_, rfl, by simp, fun k => ?_, fun r hr => ?_⟩
  · unfold KW.w0
    by_cases e : r = 0
    · subst e; rfl
    · rw [if_neg e, if_pos rfl, valV_neg (fun z => e (by have := Sum.inl.inj z; omega)), valV_nil]
  · unfold KW.w0
    by_cases e : k = 0 <;> simp [e]
  · unfold KW.w0 at hr
    by_cases e : r = 0
    · omega
    · rw [if_neg e] at hr
      exact absurd rfl hr
/-- the ways of a purse -/
def wy (ps ks : List Nat) : Nat → Nat := KW.wf ps ks KW.w0
def sp_is_purse : Sp := fun vs H Q _ => ∃ (t : Addr) (ps : List Nat), vs = [.ref t] ∧ FT H t (intsN ps) ∧ PurseL ps ∧ Q (.bl true) H
def sp_check_purse : Sp := fun vs H Q _ => ∃ (t : Addr) (ps : List Nat), vs = [.ref t] ∧ FT H t (intsN ps) ∧ PurseL ps ∧ Q .non H
def sp_put_pieces : Sp := fun vs H Q _ => ∃ (d : Addr) (p m B : Nat) (kvs : List (L2.Key × V)) (F : Nat → Nat) (ks : List Nat), vs = [.ref d, .int (p : Nat), .int (m : Nat)] ∧ H d = some (.dK kvs) ∧ Wy kvs F B ks ∧ 1 ≤ p ∧ B + m * p ≤ 100000 ∧
  ∀ q kvs' ks' H', H q = none → Same H H' → H' q = some (.dK kvs') → Wy kvs' (KW.pw F p (m + 1)) (B + m * p) ks' → Q (.ref q) H'
def sp_ways_by_sum : Sp := fun vs H Q _ => ∃ (t : Addr) (ps : List Nat), vs = [.ref t] ∧ FT H t (intsN ps) ∧ PurseL ps ∧
  ∀ q kvs F ks H', H q = none → Same H H' → H' q = some (.dK kvs) → Wy kvs F 12000 ks → (∃ ns : List Nat, ns.Pairwise (· < ·) ∧ (∀ a, a ∈ ns ↔ a ∈ ps) ∧ ∀ x, F x = wy ps ns x) → Q (.ref q) H'
def sp_held : Sp := fun vs H Q _ => ∃ (t : Addr) (ps : List Nat), vs = [.ref t] ∧ FT H t (intsN ps) ∧ PurseL ps ∧
  ∀ q (ys : List Nat) H', H q = none → Same H H' → FT H' q (intsN ys) → ys.Pairwise (· < ·) → (∀ y, y ∈ ys ↔ KU.Hs ps y) → Q (.ref q) H'
def sp_check_lost : Sp := fun vs H Q _ => ∃ n : Nat, vs = [.int (n : Nat)] ∧ n ≤ 11 ∧ Q .non H
def sp_without_last : Sp := fun vs H Q _ => ∃ (t : Addr) (ps : List Nat) (k : Nat), vs = [.ref t, .int (k : Nat)] ∧ H t = some (.tup (intsN ps)) ∧ ps.length ≤ 12 ∧ k ≤ 11 ∧ ∀ H', Same H H' → Q (.int ((ps.take (ps.length - k)).sum : Nat)) H'
/-- full, though K pieces are lost -/
def Full (ps : List Nat) (k : Nat) : Prop := ∀ i a, ps[i]? = some a → a ≤ 1 + (ps.take (i - k)).sum
def sp_first_too_great : Sp := fun vs H Q _ => ∃ (t : Addr) (ps : List Nat) (k : Nat), vs = [.ref t, .int (k : Nat)] ∧ FT H t (intsN ps) ∧ PurseL ps ∧ k ≤ 11 ∧ ∀ v H', Same H H' → (v = V.non ∧ Full ps k ∨ (∃ i : Nat, v = .int (i : Nat)) ∧ ¬ Full ps k) → Q v H'
def sp_is_full : Sp := fun vs H Q _ => ∃ (t : Addr) (ps : List Nat) (k : Nat), vs = [.ref t, .int (k : Nat)] ∧ FT H t (intsN ps) ∧ PurseL ps ∧ k ≤ 11 ∧ ∀ b H', Same H H' → (b = true ↔ k < ps.length ∧ Full ps k) → Q (.bl b) H'
def Two (H : Hp) (a b : Addr) (ps qs : List Nat) : Prop := FT H a (intsN ps) ∧ FT H b (intsN qs) ∧ PurseL ps ∧ PurseL qs
theorem Two.same {H H' : Hp} {a b : Addr} {ps qs : List Nat} (h : Two H a b ps qs) (s : Same H H') : Two H' a b ps qs := ⟨h.1.same s, h.2.1.same s, h.2.2⟩
def sp_check_both : Sp := fun vs H Q _ => ∃ (a b : Addr) (ps qs : List Nat), vs = [.ref a, .ref b] ∧ Two H a b ps qs ∧ Q .non H
def sp_check_together : Sp := fun vs H Q _ => ∃ (a b : Addr) (ps qs : List Nat), vs = [.ref a, .ref b] ∧ Two H a b ps qs ∧ ps.length + qs.length ≤ 12 ∧ Q .non H
def sp_pot : Sp := fun vs H Q _ => ∃ (a b : Addr) (ps qs : List Nat), vs = [.ref a, .ref b] ∧ Two H a b ps qs ∧ ps.length + qs.length ≤ 12 ∧
  ∀ q rs H', H q = none → Same H H' → FT H' q (intsN rs) → PurseL rs → rs.Perm (ps ++ qs) → Q (.ref q) H'
/-- a price that can be settled -/
def Price (ps qs : List Nat) (z : Int) : Prop := ∃ x y : Nat, KU.Hs ps x ∧ KU.Hs qs y ∧ z = (x : Int) - y
def sp_prices : Sp := fun vs H Q _ => ∃ (a b : Addr) (ps qs : List Nat), vs = [.ref a, .ref b] ∧ Two H a b ps qs ∧ ps.length + qs.length ≤ 12 ∧
  ∀ q (zs : List Int) H', H q = none → Same H H' → FT H' q (zs.map V.int) → zs.Pairwise (· < ·) → (∀ z, z ∈ zs ↔ Price ps qs z) → zs.length ≤ 12001 → Q (.ref q) H'
def sp_settles_all : Sp := fun vs H Q _ => ∃ (a b : Addr) (ps qs : List Nat) (k : Nat), vs = [.ref a, .ref b, .int (k : Nat)] ∧ Two H a b ps qs ∧ ps.length + qs.length ≤ 12 ∧ k ≤ 11 ∧
  ∀ v rs H', Same H H' → PurseL rs → rs.Perm (ps ++ qs) → (v = true ↔ k < rs.length ∧ Full rs k) → Q (.bl v) H'
def Reach (ps qs : List Nat) (r : Nat) : Prop := (∀ k : Nat, 1 ≤ k → k ≤ r → Price ps qs k) ∧ ¬ Price ps qs ((r : Int) + 1)
def sp_reach : Sp := fun vs H Q _ => ∃ (a b : Addr) (ps qs : List Nat), vs = [.ref a, .ref b] ∧ Two H a b ps qs ∧ ps.length + qs.length ≤ 12 ∧
  ∀ (r : Nat) H', Same H H' → Reach ps qs r → Q (.int (r : Nat)) H'
/-- a drawn purse -/
def sp_l_purse : Sp := fun vs H Q _ => ∃ (b : Addr) (m : Nat), vs = [.ref b, .int (m : Nat)] ∧ Bw H b ∧ m ≤ 12 ∧
  ∀ q ps H', H q = none → q ≠ b → Bw H' b → But b H H' → FT H' q (intsN ps) → PurseL ps → ps.length ≤ m → Q (.ref q) H'
/-- two drawn purses -/
def sp_l_both : Sp := fun vs H Q _ => ∃ (b : Addr) (m : Nat), vs = [.ref b, .int (m : Nat)] ∧ Bw H b ∧ m ≤ 12 ∧
  ∀ l pa pb ps qs H', H l = none → l ≠ b → pa ≠ b → pb ≠ b → Bw H' b → But b H H' → H' l = some (.lst [.ref pa, .ref pb]) → Two H' pa pb ps qs → ps.length + qs.length ≤ m → Q (.ref l) H'
theorem _root_.L2.FT.but {H H' : Hp} {a b : Addr} {xs : List V} (h : FT H a xs) (n : a ≠ b) (bt : But b H H') : FT H' a xs := by
  obtain ⟨od, e, z⟩ := h
  exact ⟨od, bt _ _ n e, z⟩
theorem PurseL.sub {ps qs : List Nat} (h : PurseL qs) (s : ps.Sublist qs) : PurseL ps :=
  ⟨Nat.le_trans s.length_le h.few, h.up.sublist s, fun p hp => h.mem p (s.subset hp)⟩
/-- the pieces with a side -/
def side (c : Int) (L : List (Nat × Int)) : List Nat := (L.filter fun x => x.2 == c).map Prod.fst
theorem side_sub (c : Int) (L : List (Nat × Int)) : (side c L).Sublist (L.map Prod.fst) := List.filter_sublist.map _
theorem side_len (L : List (Nat × Int)) : (side 0 L).length + (side 1 L).length ≤ L.length := by
  unfold side
  induction L with
  | nil => simp
  | cons x r ih =>
    simp only [List.length_map] at ih ⊢
    by_cases h0 : x.2 = 0
    · have h1 : ¬ x.2 = 1 := by omega
      simp [h0]
      omega
    · by_cases h1 : x.2 = 1
      · simp [h1]
        omega
      · simp [h0, h1]
        omega
theorem side_snoc {c : Int} {L : List (Nat × Int)} {i : Nat} {p : Nat} {z : Int} (h : L[i]? = some (p, z)) : side c (L.take (i + 1)) = if z = c then side c (L.take i) ++ [p] else side c (L.take i) := by
  unfold side
  rw [List.take_add_one, h]
  by_cases e : z = c <;> simp [List.filter_append, e]
/-- all prices that can be settled, in order -/
def sp_l_settled : Sp := fun vs H Q _ => ∃ (a b : Addr) (ps qs : List Nat), vs = [.ref a, .ref b] ∧ Two H a b ps qs ∧ ps.length + qs.length ≤ 11 ∧
  ∀ q (zs : List Int) H', H q = none → Same H H' → H' q = some (.lst (zs.map V.int)) → zs.Pairwise (· < ·) → (∀ z, z ∈ zs ↔ Price ps qs z) → zs.length ≤ 4000 → Q (.ref q) H'
theorem price_buy {ps qs : List Nat} {i p : Nat} (h : ps[i]? = some p) (z : Int) : Price (ps.take (i + 1)) qs z ↔ Price (ps.take i) qs z ∨ Price (ps.take i) qs (z - p) := by
  rw [KW.take_succ_of h]
  constructor
  · rintro ⟨x, y, hx, hy, rfl⟩
    rcases KU.hs_snoc.mp hx with h | ⟨h1, h⟩
    · exact .inl ⟨x, y, h, hy, rfl⟩
    · exact .inr ⟨x - p, y, h, hy, by omega⟩
  · rintro (⟨x, y, hx, hy, e⟩ | ⟨x, y, hx, hy, e⟩)
    · exact ⟨x, y, KU.hs_snoc.mpr (.inl hx), hy, e⟩
    · exact ⟨x + p, y, KU.hs_snoc.mpr (.inr ⟨by omega, by rw [Nat.add_sub_cancel]; exact hx⟩), hy, by omega⟩
theorem price_sell {ps qs : List Nat} {i p : Nat} (h : qs[i]? = some p) (z : Int) : Price ps (qs.take (i + 1)) z ↔ Price ps (qs.take i) z ∨ Price ps (qs.take i) (z + p) := by
  rw [KW.take_succ_of h]
  constructor
  · rintro ⟨x, y, hx, hy, rfl⟩
    rcases KU.hs_snoc.mp hy with h | ⟨h1, h⟩
    · exact .inl ⟨x, y, hx, h, rfl⟩
    · exact .inr ⟨x, y - p, hx, h, by omega⟩
  · rintro (⟨x, y, hx, hy, e⟩ | ⟨x, y, hx, hy, e⟩)
    · exact ⟨x, y, hx, KU.hs_snoc.mpr (.inl hy), e⟩
    · exact ⟨x, y + p, hx, KU.hs_snoc.mpr (.inr ⟨by omega, by rw [Nat.add_sub_cancel]; exact hy⟩), by omega⟩
theorem _root_.KW.take_succ_of' {α : Type} {l : List α} {i : Nat} {k : α} (h : l[i]? = some k) : l.take (i + 1) = l.take i ++ [k] := by
  rw [List.take_succ, h]
  rfl
theorem intsN_append (a b : List Nat) : intsN (a ++ b) = intsN a ++ intsN b := List.map_append
theorem intsN_take (a : List Nat) (n : Nat) : (intsN a).take n = intsN (a.take n) := List.map_take.symm
theorem intsN_len (a : List Nat) : (intsN a).length = a.length := by unfold intsN; simp
theorem sum_castN (a : List Nat) : (a.map fun (p : Nat) => (p : Int)).sum = (a.sum : Nat) := by
  induction a with
  | nil => rfl
  | cons x r ih => rw [List.map_cons, List.sum_cons, List.sum_cons, ih, Int.natCast_add]
/-- sorted natural numbers, read off sorted integers -/
theorem nat_sorted {ys : List Int} {ps : List Nat} (hp : ys.Perm (ps.map fun (p : Nat) => (p : Int))) (hs : ys.Pairwise (· ≤ ·)) : ∃ rs : List Nat, ys = (rs.map fun (p : Nat) => (p : Int)) ∧ rs.Perm ps ∧ rs.Pairwise (· ≤ ·) := by
  have h0 : ∀ y ∈ ys, 0 ≤ y := fun y hy => by
    obtain ⟨k, _, e⟩ := List.mem_map.mp (hp.mem_iff.mp hy)
    omega
  obtain ⟨rs, e⟩ : ∃ rs : List Nat, ys = rs.map fun (k : Nat) => (k : Int) := ⟨_, KW.nat_list h0⟩
  subst e
  refine ⟨rs, rfl, ?_, (List.pairwise_map.mp hs).imp fun h => by omega⟩
  rw [List.perm_iff_count]
  intro a
  have := List.perm_iff_count.mp hp (a : Int)
  rwa [KW.count_cast, KW.count_cast] at this
theorem purse_of {ps qs rs : List Nat} (hp : PurseL ps) (hq : PurseL qs) (hl : ps.length + qs.length ≤ 12) (h : rs.Perm (ps ++ qs)) (hs : rs.Pairwise (· ≤ ·)) : PurseL rs := by
  refine ⟨?_, hs, fun p hp' => ?_⟩
  · rw [h.length_eq, List.length_append]
    exact hl
  · rcases List.mem_append.mp (h.mem_iff.mp hp') with z | z
    · exact hp.mem p z
    · exact hq.mem p z
theorem price_pot {ps qs rs : List Nat} (h : rs.Perm (ps ++ qs)) (z : Int) : Price ps qs z ↔ ∃ n, KU.Hs rs n ∧ z = (n : Int) - (qs.sum : Nat) := by
  constructor
  · rintro ⟨x, y, hx, hy, rfl⟩
    have := hy.le
    refine ⟨x + (qs.sum - y), KW.hs_perm h.symm (KW.hs_join hx (KW.Hs.rest hy)), by omega⟩
  · rintro ⟨n, hn, rfl⟩
    obtain ⟨x, y, hx, hy, rfl⟩ := KU.hs_split (KW.hs_perm h hn)
    have := hy.le
    exact ⟨x, qs.sum - y, hx, KW.Hs.rest hy, by omega⟩
end Kx

/-! how far two purses reach -/
namespace Kx
open PySem L2 MG KM
theorem price_le {ps qs : List Nat} {z : Int} (h : Price ps qs z) : z ≤ (ps.sum : Nat) ∧ -((qs.sum : Nat) : Int) ≤ z := by
  obtain ⟨x, y, hx, hy, rfl⟩ := h
  have := hx.le
  have := hy.le
  omega
theorem price_neg {ps qs : List Nat} {z : Int} : Price qs ps z ↔ Price ps qs (-z) := by
  constructor
  · rintro ⟨x, y, hx, hy, rfl⟩
    exact ⟨y, x, hy, hx, by omega⟩
  · rintro ⟨x, y, hx, hy, e⟩
    exact ⟨y, x, hy, hx, by omega⟩
theorem reach_mono {ps qs ps' qs' : List Nat} {r r' : Nat} (h : Reach ps qs r) (h' : Reach ps' qs' r') (hm : ∀ z, Price ps qs z → Price ps' qs' z) : r ≤ r' := by
  rcases Nat.lt_or_ge r' r with e | e
  · exact absurd (hm _ (h.1 (r' + 1) (by omega) e)) (by rw [Int.natCast_add]; exact h'.2)
  · exact e
theorem Reach.uniq {ps qs : List Nat} {r r' : Nat} (h : Reach ps qs r) (h' : Reach ps qs r') : r = r' :=
  Nat.le_antisymm (reach_mono h h' fun _ => id) (reach_mono h' h fun _ => id)
theorem Reach.le {ps qs : List Nat} {r : Nat} (h : Reach ps qs r) : r ≤ ps.sum := by
  by_cases e : r = 0
  · omega
  · have := (price_le (h.1 r (by omega) (Nat.le_refl r))).1
    omega
theorem reach_all {ps qs rs : List Nat} {r : Nat} (hp : rs.Perm (ps ++ qs)) (hw : KU.Whole rs) (h : Reach ps qs r) : r = ps.sum := by
  refine h.uniq ⟨fun k h1 h2 => (price_pot hp k).mpr ⟨k + qs.sum, hw _ ?_, by omega⟩, fun h3 => ?_⟩
  · rw [hp.sum_nat, List.sum_append]
    omega
  · have := (price_le h3).1
    omega
theorem full_whole {rs : List Nat} (hs : rs.Pairwise (· ≤ ·)) (h : Full rs 0) : KU.Whole rs :=
  (KU.whole_iff hs).mpr fun i a e => by simpa using h i a e
theorem price_more {ps qs ps' : List Nat} {p : Nat} (h : ps'.Perm (ps ++ [p])) (z : Int) (hz : Price ps qs z) : Price ps' qs z := by
  obtain ⟨x, y, hx, hy, e⟩ := hz
  exact ⟨x, y, KW.hs_perm h.symm (KU.hs_snoc.mpr (.inl hx)), hy, e⟩
theorem price_more' {ps qs qs' : List Nat} {p : Nat} (h : qs'.Perm (qs ++ [p])) (z : Int) (hz : Price ps qs z) : Price ps qs' z := by
  obtain ⟨x, y, hx, hy, e⟩ := hz
  exact ⟨x, y, hx, KW.hs_perm h.symm (KU.hs_snoc.mpr (.inl hy)), e⟩
/-- all sums of a purse, written out -/
def sums : List Nat → List Nat
  | [] => [0]
  | a :: r => sums r ++ (sums r).map (· + a)
theorem sums_hs : ∀ {l : List Nat} {n : Nat}, n ∈ sums l ↔ KU.Hs l n
  | [], n => by
    simp only [sums, List.mem_cons, List.not_mem_nil, or_false]
    constructor
    · rintro rfl
      exact .nil
    · intro h
      cases h
      rfl
  | a :: r, n => by
    simp only [sums, List.mem_append, List.mem_map]
    have key : KU.Hs (a :: r) n ↔ KU.Hs r n ∨ (a ≤ n ∧ KU.Hs r (n - a)) := by
      have h1 : (a :: r).Perm (r ++ [a]) := by
        have := (List.perm_append_comm (l₁ := [a]) (l₂ := r))
        simpa using this
      rw [← KU.hs_snoc]
      exact ⟨KW.hs_perm h1, KW.hs_perm h1.symm⟩
    rw [key, sums_hs]
    constructor
    · rintro (h | ⟨m, hm, rfl⟩)
      · exact .inl h
      · exact .inr ⟨by omega, by rw [Nat.add_sub_cancel]; exact sums_hs.mp hm⟩
    · rintro (h | ⟨h1, h2⟩)
      · exact .inl h
      · exact .inr ⟨n - a, sums_hs.mpr h2, by omega⟩
def priceB (ps qs : List Nat) (k : Nat) : Bool := (sums ps).any fun x => (sums qs).any fun y => x == k + y
theorem priceB_is {ps qs : List Nat} {k : Nat} : priceB ps qs k = true ↔ Price ps qs k := by
  unfold priceB
  rw [List.any_eq_true]
  constructor
  · rintro ⟨x, hx, h⟩
    obtain ⟨y, hy, e⟩ := List.any_eq_true.mp h
    have : x = k + y := by simpa using e
    exact ⟨x, y, sums_hs.mp hx, sums_hs.mp hy, by omega⟩
  · rintro ⟨x, y, hx, hy, e⟩
    exact ⟨x, sums_hs.mpr hx, List.any_eq_true.mpr ⟨y, sums_hs.mpr hy, by simp; omega⟩⟩
def reachB (ps qs : List Nat) (r : Nat) : Bool := ((List.range r).all fun k => priceB ps qs (k + 1)) && !(priceB ps qs (r + 1))
theorem reachB_is {ps qs : List Nat} {r : Nat} (h : reachB ps qs r = true) : Reach ps qs r := by
  unfold reachB at h
  rw [Bool.and_eq_true, List.all_eq_true] at h
  refine ⟨fun k h1 h2 => ?_, fun hz => ?_⟩
  · have := priceB_is.mp (h.1 (k - 1) (List.mem_range.mpr (by omega)))
    rwa [show k - 1 + 1 = k by omega] at this
  · have h3 := h.2
    rw [priceB_is.mpr (by rw [Int.natCast_add]; exact hz)] at h3
    cases h3
theorem valV_true : ∀ (zs : List Int) (kvs : List (L2.Key × V)) (k : Int), valV (mergeK kvs (zs.map fun z => (Sum.inl z, V.bl true))) (.inl k) = if k ∈ zs then some (.bl true) else valV kvs (.inl k)
  | [], kvs, k => by simp [mergeK]
  | z :: r, kvs, k => by
    rw [List.map_cons, show mergeK kvs ((Sum.inl z, V.bl true) :: r.map fun z => (Sum.inl z, V.bl true)) = mergeK (putK kvs (.inl z) (.bl true)) (r.map fun z => (Sum.inl z, V.bl true)) from rfl, valV_true r, valV_put]
    by_cases e : k ∈ r
    · rw [if_pos e, if_pos (List.mem_cons_of_mem _ e)]
    · rw [if_neg e]
      by_cases e2 : k = z
      · subst e2
        rw [if_pos rfl, if_pos List.mem_cons_self]
      · rw [if_neg (fun z' => e2 (Sum.inl.inj z')), if_neg (fun h => (List.mem_cons.mp h).elim e2 e)]
/-- the run from 1 on -/
def sp_l_run : Sp := fun vs H Q _ => ∃ (l : Addr) (zs : List Int), vs = [.ref l] ∧ H l = some (.lst (zs.map V.int)) ∧ zs.length ≤ 4000 ∧ (∀ z ∈ zs, z ≤ 12000) ∧
  ∀ (r : Nat) H', Same H H' → (∀ k : Nat, 1 ≤ k → k ≤ r → (k : Int) ∈ zs) → ((r : Int) + 1 ∉ zs) → Q (.int (r : Nat)) H'
def sp_l_two46 : Sp := fun vs H Q _ => ∃ (a b : Addr) (ps qs : List Nat), vs = [.ref a, .ref b] ∧ Two H a b ps qs ∧ ps.length + qs.length ≤ 11 ∧ ∀ H', Same H H' → Q (.bl true) H'
def sp_l_more46 : Sp := fun vs H Q _ => ∃ (g a b : Addr) (ps qs : List Nat), vs = [.ref g, .ref a, .ref b] ∧ Bw H g ∧ Two H a b ps qs ∧ ps.length + qs.length ≤ 10 ∧ ∀ H', Bw H' g → But g H H' → Q (.bl true) H'
end Kx
namespace Kx
theorem paired_of {α β : Type} {F : α → β → Prop} : ∀ {xs : List α} {ys : List β}, xs.length = ys.length → (∀ (j : Nat) (x : α) (y : β), xs[j]? = some x → ys[j]? = some y → F x y) → PySem.Paired F xs ys
  | [], [], _, _ => .nil
  | [], _ :: _, h, _ => by cases h
  | _ :: _, [], h, _ => by cases h
  | x :: xs, y :: ys, h, g => .cons (g 0 x y rfl rfl) (paired_of (by simpa using h) fun j a b ha hb => g (j + 1) a b (by simpa using ha) (by simpa using hb))
end Kx

/-! tuple displays that are known to have no dict; a dict display with one key that is a tuple -/
namespace L2
open PySem PySem.Spec PyProof.Rows
section
variable {X : Cx} {pos : Pos} {es : List PySem.Expr} {t : TA}
def tTupF (t : TA) : TE := fun σ H Q => t σ H fun xs H1 => xs.length ≤ sizeLine ∧ ∀ (p : Addr) (od : Obj), H1 p = none → od.dict = none → Q (.ref p) (upd H1 p (.frz od (.tup xs)))
theorem pe_tupF {c : Nat} (h : PA X es t) : PE X (.Tuple es c pos) (tTupF t) := by
  refine ⟨?_⟩
  intro pins s σ H Q I hq
  refine wpAny_Tuple_spliced (thn (h.run pos pins s σ H _ I hq) ?_)
  rintro us s1 ⟨xs, H1, I1, r, z, q⟩
  refine ⟨by rw [← r.length]; exact z, ?_⟩
  have hg : (s1.heap.push { cls := Value.type "tuple", data := Data.seq us.toArray }).get? s1.heap.objs.size = some { cls := Value.type "tuple", data := Data.seq us.toArray } := Heap.get?_push_size _ rfl
  have I2 := I1.laid (t' := s1.toks) (a := s1.heap.objs.size) (o := .frz { cls := Value.type "tuple", data := Data.seq us.toArray } (.tup xs)) (fun b o e => Heap.get?_push_of_some _ e) (Nat.le_refl _) ⟨hg, z, us, r, _, hg, rfl, _, rfl⟩
  exact ⟨.ref s1.heap.objs.size, _, I2, rfl, q _ _ (I1.hok.fresh (Nat.le_refl _)) rfl⟩
def tDisp1T (tk tv : TE) : TE := fun σ H Q => ∀ p, H p = none → tk σ (upd H p (.dT [])) fun x H1 => tv σ H1 fun y H2 => H2 p = some (.dT []) ∧ ∃ (b : Addr) (ks : List Key), x = .ref b ∧ H2 b = some (.tup (ks.map kV)) ∧ Q (.ref p) (upd H2 p (.dT [(ks, y)]))
theorem pe_disp1T {k v : PySem.Expr} {tk tv : TE} (hu : X.A.units + 1 < cLine) (hk : PE X k tk) (hv : PE X v tv) : PE X (.Dict [some k] [v] pos) (tDisp1T tk tv) := by
  refine ⟨?_⟩
  intro pins s σ H Q I h
  have np := I.hok.fresh (Nat.le_refl s.heap.objs.size)
  have I1 := I.laid (a := s.heap.objs.size) (o := .dT []) (h' := s.heap.push { cls := .type "dict", data := .dict #[] }) (t' := s.toks) (fun _ _ q => Heap.get?_push_of_some _ q) (Nat.le_refl _) (dt_empty s.heap I.big)
  rw [arm_eval_Dict, zip_pairTrees [some k] [v] X.env pos rfl rfl, dictDisplay_pairs _ (by simp [pairTrees]) (by simp [pairTrees])]
  refine wpAny_bind (wpAny_standAt (wpAny_bind (wpAny_subDictH (knd := tupleKind (mixKind X.prog X.w)) (show X.A.units < cLine by omega) (by simp [pairTrees]) ?_)))
  refine pairTrees_cons_walk (thn (hk.run pins _ σ _ _ I1 (h _ np)) ?_)
  rintro u s1 ⟨x, H1, I2, rx, q1⟩
  refine thn (hv.run pins s1 σ H1 _ I2 q1) ?_
  rintro u2 s2 ⟨y, H2, I3, ry, hp, b, ks, rfl, hb, q2⟩
  cases (show u = Value.ref b from rx)
  refine pairTrees_nil_walk ?_
  obtain ⟨z, hd, xs, rel, dd⟩ := dt_of I3.hok hp
  cases rel
  refine ⟨[(ks, b, u2)], ⟨rfl, rfl, key_of I3.hok hb, trivial⟩, dd, fun h' tk dd' hs => wpAny_pure ?_⟩
  refine ⟨.ref s.heap.objs.size, _, ?_, rfl, q2⟩
  have dd2 : h'.DictOfH (tupleKind (mixKind X.prog X.w)) s.heap.objs.size [(ks, b, u2)] := dd'
  obtain ⟨o, es, ep, h1, h2, h3, h4, h5, h6⟩ := dd2
  refine d_write I3 (by rw [hp]; exact True.intro) hs ⟨o, h1⟩ ⟨by show 1 ≤ sizeLine; decide, hd, [(ks, b, u2)], ?_, o, es, ep, h1, h2, h3, h4, h6⟩
  refine .cons ⟨rfl, ?_, ry⟩ .nil
  rw [upd_ne (ne_of hb hp (fun z => nomatch z))]
  exact hb
end
end L2

/-! written tuples and rows of two purses and a number -/
namespace Kx
open PySem L2 MG KM
def litA : List Nat → TA
  | [] => tNil
  | a :: r => tCons (tC (.int (a : Nat))) (litA r)
theorem lit_run : ∀ {ps : List Nat} {σ : L2.St} {H : Hp} {Q : List V → Hp → Prop}, Q (intsN ps) H → litA ps σ H Q
  | [], _, _, _, h => h
  | a :: r, σ, H, Q, h => by
    show litA r σ H fun xs H2 => Q (V.int (a : Nat) :: xs) H2
    exact lit_run h
theorem tup_run {ps : List Nat} {σ : L2.St} {H : Hp} {Q : VK} (hl : ps.length ≤ 12) (k : ∀ q H', H q = none → Same H H' → FT H' q (intsN ps) → Q (.ref q) H') : tTupF (litA ps) σ H Q :=
  lit_run (Q := fun xs H1 => xs.length ≤ sizeLine ∧ ∀ (p : Addr) (od : Obj), H1 p = none → od.dict = none → Q (.ref p) (upd H1 p (.frz od (.tup xs)))) ⟨by rw [intsN_len]; exact Nat.le_trans hl (by decide), fun p od np hod => k p _ np (same_new np) (FT.new hod)⟩
/-- a row: two purses and a number -/
def RowAt (H : Hp) (l : Addr) (r : List Nat × List Nat × Nat) : Prop := ∃ a b : Addr, H l = some (.lst [.ref a, .ref b, .int (r.2.2 : Nat)]) ∧ FT H a (intsN r.1) ∧ FT H b (intsN r.2.1)
theorem RowAt.same {H H' : Hp} {l : Addr} {r} (h : RowAt H l r) (s : Same H H') : RowAt H' l r := let ⟨a, b, e, f, g⟩ := h; ⟨a, b, s _ _ e, f.same s, g.same s⟩
def rowT (r : List Nat × List Nat × Nat) : TE := tLst (tCons (tTupF (litA r.1)) (tCons (tTupF (litA r.2.1)) (tCons (tC (.int (r.2.2 : Nat))) tNil)))
theorem row_run {r : List Nat × List Nat × Nat} {σ : L2.St} {H : Hp} {Q : VK} (h1 : r.1.length ≤ 12) (h2 : r.2.1.length ≤ 12) (k : ∀ l H', Same H H' → RowAt H' l r → Q (.ref l) H') : rowT r σ H Q := by
  unfold rowT tLst tCons
  refine tup_run h1 fun a H1 na s1 fa => ?_
  refine tup_run h2 fun b H2 nb s2 fb => ?_
  refine ⟨by show 3 ≤ sizeLine; decide, fun l nl => ?_⟩
  have sl := same_new (o := .lst [V.ref a, V.ref b, V.int (r.2.2 : Nat)]) nl
  exact k l _ (s1.trans (s2.trans sl)) ⟨a, b, upd_same, fa.same (s2.trans sl), fb.same sl⟩
def rowsA : List (List Nat × List Nat × Nat) → TA
  | [] => tNil
  | r :: R => tCons (rowT r) (rowsA R)
def RowsAt (H : Hp) : List Addr → List (List Nat × List Nat × Nat) → Prop
  | [], [] => True
  | l :: ls, r :: R => RowAt H l r ∧ RowsAt H ls R
  | _, _ => False
theorem RowsAt.same {H H' : Hp} (s : Same H H') : ∀ {ls R}, RowsAt H ls R → RowsAt H' ls R
  | [], [], _ => trivial
  | _ :: _, _ :: _, h => ⟨h.1.same s, h.2.same s⟩
  | [], _ :: _, h => h.elim
  | _ :: _, [], h => h.elim
theorem RowsAt.len {H : Hp} : ∀ {ls R}, RowsAt H ls R → ls.length = R.length
  | [], [], _ => rfl
  | _ :: _, _ :: _, h => by simp [h.2.len]
  | [], _ :: _, h => h.elim
  | _ :: _, [], h => h.elim
theorem RowsAt.append {H : Hp} : ∀ {ls R ms S}, RowsAt H ls R → RowsAt H ms S → RowsAt H (ls ++ ms) (R ++ S)
  | [], [], _, _, _, g => g
  | _ :: _, _ :: _, _, _, h, g => ⟨h.1, h.2.append g⟩
  | [], _ :: _, _, _, h, _ => h.elim
  | _ :: _, [], _, _, h, _ => h.elim
theorem RowsAt.at {H : Hp} : ∀ {ls R} {i : Nat} {x : V}, RowsAt H ls R → (ls.map V.ref)[i]? = some x → ∃ l r, x = .ref l ∧ R[i]? = some r ∧ RowAt H l r
  | [], [], i, x, _, e => by simp at e
  | l :: _, r :: _, 0, x, h, e => ⟨l, r, by simpa using e.symm, rfl, h.1⟩
  | _ :: _, _ :: _, i + 1, x, h, e => by
    obtain ⟨l, r, a, b, c⟩ := RowsAt.at (i := i) h.2 (by simpa using e)
    exact ⟨l, r, a, by simpa using b, c⟩
  | [], _ :: _, _, _, h, _ => h.elim
  | _ :: _, [], _, _, h, _ => h.elim
theorem rows_run : ∀ {R : List (List Nat × List Nat × Nat)} {σ : L2.St} {H : Hp} {Q : List V → Hp → Prop}, (∀ r ∈ R, r.1.length ≤ 12 ∧ r.2.1.length ≤ 12) → (∀ ls H', Same H H' → RowsAt H' ls R → Q (ls.map V.ref) H') → rowsA R σ H Q
  | [], σ, H, Q, _, k => k [] H (Same.refl _) trivial
  | r :: R, σ, H, Q, h, k => by
    have hr := h r (by simp)
    unfold rowsA tCons
    refine row_run hr.1 hr.2 fun l H1 s1 h1 => ?_
    refine rows_run (fun r' hr' => h r' (by simp [hr'])) fun ls H2 s2 h2 => ?_
    exact k (l :: ls) H2 (s1.trans s2) ⟨h1.same s2, h2⟩
/-- a list of rows is made -/
theorem rows_made {R : List (List Nat × List Nat × Nat)} {σ : L2.St} {H : Hp} {Q : VK} (h : ∀ r ∈ R, r.1.length ≤ 12 ∧ r.2.1.length ≤ 12) (hl : R.length ≤ 100) (k : ∀ p ls H', H p = none → Same H H' → H' p = some (.lst (ls.map V.ref)) → RowsAt H' ls R → Q (.ref p) H') : tLst (rowsA R) σ H Q := by
  refine rows_run (Q := fun xs H1 => xs.length ≤ sizeLine ∧ ∀ p, H1 p = none → Q (.ref p) (upd H1 p (.lst xs))) h fun ls H1 s1 h1 => ⟨?_, fun p np => ?_⟩
  · rw [List.length_map, h1.len]
    exact Nat.le_trans hl (by decide)
  · exact k p ls _ (s1.free np) (s1.trans (same_new np)) upd_same (h1.same (same_new np))
theorem reach_of {ps qs rs : List Nat} (hp : rs.Perm (ps ++ qs)) (hw : KU.Whole rs) : Reach ps qs ps.sum := by
  refine ⟨fun k h1 h2 => (price_pot hp k).mpr ⟨k + qs.sum, hw _ ?_, by omega⟩, fun h3 => ?_⟩
  · rw [hp.sum_nat, List.sum_append]
    omega
  · have := (price_le h3).1
    omega
def purseB (ps : List Nat) : Bool := decide (ps.length ≤ 12) && decide (ps.Pairwise (· ≤ ·)) && ps.all fun p => decide (1 ≤ p) && decide (p ≤ 1000)
theorem purseB_is {ps : List Nat} (h : purseB ps = true) : PurseL ps := by
  unfold purseB at h
  rw [Bool.and_eq_true, Bool.and_eq_true, decide_eq_true_iff, decide_eq_true_iff, List.all_eq_true] at h
  refine ⟨h.1.1, h.1.2, fun p hp => ?_⟩
  have := h.2 p hp
  rw [Bool.and_eq_true, decide_eq_true_iff, decide_eq_true_iff] at this
  exact this
end Kx

/-! set of a list of ints, up to what the model's sets hold at once -/
namespace MG
open PySem PySem.Spec PyProof.Rows L2
section
variable {X : Cx}
def rSetLw (w : World) : List V → Hp → VK → Prop := fun vs H Q => ∃ (a : Addr) (ns : List Int), vs = [.ref a] ∧ H a = some (.lst (ns.map V.int)) ∧ ns.length + 1 < 4096 ∧
  ∀ p c, H p = none → c ≤ ns.length → Q (.ref p) (upd H p (SetO w p (fun j => decide (j ∈ ns)) c))
theorem set_Lw (hc : X.calm = true) : CallR X (.type "set") (rSetLw X.w) := by
  intro pins s σ H vs us Q I r h
  obtain ⟨a, ns, rfl, ha, hl, q⟩ := h
  obtain ⟨u, rfl, rx⟩ := vals1 r
  cases (show u = Value.ref a from rx)
  obtain ⟨its, rv, p, hz⟩ := I.list (a := a) (xs := ns.map V.int) (.inl (.inl ha))
  refine set_of_list ns (I.ok.hd hc) p.isList (by simpa using intsAre_of rv) hl ?_
  intro h' tk c hS hc' hk
  exact ⟨.ref _, _, I.laid (t' := tk) hk (Nat.le_refl _) (setO_new hS), rfl, q _ c (I.hok.fresh (Nat.le_refl _)) hc'⟩
end
end MG

/-! tuples that may be frozen or not: len, sum -/
namespace L2
open PySem PySem.Spec PyProof.Rows
section
variable {X : Cx}
/-- a tuple, frozen or not -/
def TqA (H : Hp) (a : Addr) (xs : List V) : Prop := H a = some (.tup xs) ∨ FT H a xs
theorem TqA.t {K : PySem.W.Frag} {H : Hp} {a : Addr} {xs : List V} (h : TqA H a xs) : SqT K H a xs := h.elim (fun e => .inl (.inl e)) FT.t
theorem TqA.same {H H' : Hp} {a : Addr} {xs : List V} (h : TqA H a xs) (s : ∀ c o, H c = some o → H' c = some o) : TqA H' a xs := h.elim (fun e => .inl (s _ _ e)) fun e => .inr (e.same s)
def rLenA : List V → Hp → VK → Prop := fun vs H Q => ∃ (a : Addr) (xs : List V), vs = [.ref a] ∧ TqA H a xs ∧ Q (.int (xs.length : Nat)) H
theorem len_A : CallR X (.builtin "len") rLenA := by
  intro pins s σ H vs us Q I r h
  obtain ⟨a, xs, h1, h2, q⟩ := h
  exact call_len_seq pins s σ H vs us Q I r ⟨a, xs, h1, .inr h2.t, q⟩
def rSumA : List V → Hp → VK → Prop := fun vs H Q => ∃ (a : Addr) (ns : List Int), vs = [V.ref a] ∧ TqA H a (ns.map V.int) ∧ Q (.int ns.sum) H
theorem sum_A (hc : X.calm = true) : CallR X (.builtin "sum") rSumA := by
  intro pins s σ H vs us Q I r h
  obtain ⟨a, ns, rfl, hs, q⟩ := h
  obtain ⟨its, rv, hl, _⟩ := I.tuple hs.t
  rw [Vals.ref1 r]
  exact MG.sum_rawT (I.ok.hd hc) hl rv.ints fun h' tk t' hk => ⟨.int _, H, I.kept hk, ⟨_, rfl⟩, q⟩
end
end L2

/-! missed sums: what the program's defs promise -/
namespace Kx
open PySem L2 MG KM
/-- the missed sums, ascending -/
def missL (cs : List Int) : List Nat := (List.range 3601).filter fun n => !(KL.pd (natL cs) n)
theorem missL_asc (cs : List Int) : (missL cs).Pairwise (· < ·) := List.Pairwise.filter _ List.pairwise_lt_range
theorem miss_iff {cs : List Int} {g : Nat} (hc : ∀ c ∈ cs, 1 ≤ c ∧ c ≤ 60) (hg : (g : Int) ∈ cs) {n v : Nat} (hv : KC.tbl g (natL cs) (n % g) = some v) : KL.pd (natL cs) n = true ↔ v ≤ n := by
  rw [← KC.hits_pd (natL_pos hc) (natL_mem hg)]
  unfold KC.hits
  rw [hv]
  simp
/-- what is reached by the rests -/
def Pr (g : Nat) (T : KC.Tb) (r : Nat) : Prop := ∃ v, T (r % g) = some v
def Clo (g : Nat) (T : KC.Tb) (d : Nat) : Prop := ∀ r, Pr g T r → Pr g T (r + d)
theorem clo_times {g d : Nat} {T : KC.Tb} (h : Clo g T d) : ∀ k r, Pr g T r → Pr g T (r + k * d)
  | 0, r, p => by simpa using p
  | k + 1, r, p => by
    have := h _ (clo_times h k r p)
    rw [Nat.add_mul, Nat.one_mul, ← Nat.add_assoc]
    exact this
theorem pr_mod {g r s : Nat} {T : KC.Tb} (h : r % g = s % g) (p : Pr g T r) : Pr g T s := by
  unfold Pr at p ⊢
  rw [← h]
  exact p
theorem clo_gcd {g a b : Nat} {T : KC.Tb} (hg : 0 < g) (ha : Clo g T a) (hb : Clo g T b) : Clo g T (Nat.gcd a b) := by
  intro r p
  obtain ⟨x, y, e⟩ := KC.bez a b
  have hx0 : 0 ≤ x % (g : Int) := Int.emod_nonneg _ (by omega)
  have hy0 : 0 ≤ y % (g : Int) := Int.emod_nonneg _ (by omega)
  obtain ⟨x', ex⟩ : ∃ x' : Nat, x % (g : Int) = x' := ⟨(x % (g : Int)).toNat, by omega⟩
  obtain ⟨y', ey⟩ : ∃ y' : Nat, y % (g : Int) = y' := ⟨(y % (g : Int)).toNat, by omega⟩
  have p1 := clo_times hb y' _ (clo_times ha x' r p)
  refine pr_mod ?_ p1
  have key : (((r + x' * a + y' * b : Nat) : Int)) % (g : Int) = (((r + Nat.gcd a b : Nat) : Int)) % (g : Int) := by
    have h1 : ((x' : Int) * a) % g = (a * x) % g := by
      rw [← ex, Int.mul_comm, Int.mul_emod, Int.emod_emod_of_dvd _ (Int.dvd_refl _), ← Int.mul_emod]
    have h2 : ((y' : Int) * b) % g = (b * y) % g := by
      rw [← ey, Int.mul_comm, Int.mul_emod, Int.emod_emod_of_dvd _ (Int.dvd_refl _), ← Int.mul_emod]
    rw [Int.natCast_add, Int.natCast_add, Int.natCast_mul, Int.natCast_mul, Int.natCast_add, ← e]
    rw [Int.add_emod, Int.add_emod (r : Int), h1, h2, ← Int.add_emod (r : Int), ← Int.add_emod, Int.add_assoc]
  have := key
  omega
theorem clo_fold {g : Nat} {T : KC.Tb} (hg : 0 < g) : ∀ (ks : List Nat) (d : Nat), Clo g T d → (∀ k ∈ ks, Clo g T k) → Clo g T (ks.foldl Nat.gcd d)
  | [], _, h, _ => h
  | k :: ks, d, h, hk => clo_fold hg ks _ (clo_gcd hg h (hk k (by simp))) fun x hx => hk x (by simp [hx])
/-- a lot without a common divisor: its least sums are all there -/
theorem all_some {cs : List Int} {g : Nat} (hc : ∀ c ∈ cs, 1 ≤ c ∧ c ≤ 60) (hg : (g : Int) ∈ cs) (h1 : gcdI cs = 1) : ∀ r, r < g → ∃ v, KC.tbl g (natL cs) r = some v ∧ v ≤ 3600 ∧ v % g = r := by
  have g1 := hc _ hg
  have hgm : g ∈ natL cs := natL_mem hg
  have ok := KC.ok_tbl (n := g) (by omega) (natL cs)
  have hp := natL_pos hc
  have hb : ∀ c ∈ natL cs, c ≤ 60 := fun c h => by
    obtain ⟨d, hd, rfl⟩ := List.mem_map.mp h
    have := hc d hd
    omega
  have hgcd : (natL cs).foldl Nat.gcd 0 = 1 := by
    unfold gcdI KL.gcdL at h1
    omega
  have h0 : Clo g (KC.tbl g (natL cs)) 0 := fun r p => p
  have hk : ∀ k ∈ natL cs, Clo g (KC.tbl g (natL cs)) k := fun k hk r ⟨v, hv⟩ => by
    obtain ⟨u, hu, _⟩ := ok.closed k hk (r % g) (Nat.mod_lt _ (by omega)) v hv
    refine ⟨u, ?_⟩
    rw [Nat.mod_add_mod] at hu
    exact hu
  have hcl := clo_fold (show 0 < g by omega) (natL cs) 0 h0 hk
  rw [hgcd] at hcl
  intro r hr
  have p0 : Pr g (KC.tbl g (natL cs)) 0 := ⟨0, by rw [Nat.zero_mod]; exact ok.zero⟩
  obtain ⟨v, hv⟩ := clo_times hcl r 0 p0
  rw [Nat.zero_add, Nat.mul_one, Nat.mod_eq_of_lt hr] at hv
  exact ⟨v, hv, KC.ok_bound (G := 60) (by omega) hp hb (by omega) ok hv, (ok.sound _ _ hv).2⟩
theorem miss_small {cs : List Int} {g : Nat} (hc : ∀ c ∈ cs, 1 ≤ c ∧ c ≤ 60) (hg : (g : Int) ∈ cs) (h1 : gcdI cs = 1) {n : Nat} (h : KL.pd (natL cs) n = false) : n < 3600 := by
  have g1 := hc _ hg
  obtain ⟨v, hv, hv2, _⟩ := all_some hc hg h1 (n % g) (Nat.mod_lt _ (by omega))
  have : ¬ v ≤ n := fun z => by
    have := (miss_iff hc hg hv (n := n)).mpr z
    rw [h] at this
    cases this
  omega
theorem missL_mem {cs : List Int} {g : Nat} (hc : ∀ c ∈ cs, 1 ≤ c ∧ c ≤ 60) (hg : (g : Int) ∈ cs) (h1 : gcdI cs = 1) {n : Nat} : n ∈ missL cs ↔ KL.pd (natL cs) n = false := by
  unfold missL
  rw [List.mem_filter, List.mem_range]
  constructor
  · rintro ⟨_, h⟩
    simpa using h
  · intro h
    have := miss_small hc hg h1 h
    exact ⟨by omega, by simp [h]⟩
theorem first_ex {cs : List Int} (hc : Lotc cs) : ∃ g : Nat, cs[0]? = some (g : Int) := by
  have h60 := lot_pos (Int.le_refl 0) hc.up
  have hl := List.length_pos_iff.mpr hc.ne
  have e : cs[0]? = some cs[0] := List.getElem?_eq_getElem (by omega)
  have := h60 _ (List.mem_of_getElem? e)
  exact ⟨cs[0].toNat, by rw [e]; congr 1; omega⟩
/-- how many sums with a rest are missed -/
def missAt (cs : List Int) (g r : Nat) : Nat := ((KC.tbl g (natL cs) r).getD 0) / g
def missRow (cs : List Int) (g r : Nat) : List Nat := (List.range (missAt cs g r)).map fun k => r + k * g
def missTo (cs : List Int) (g i : Nat) : List Nat := (List.range i).flatMap (missRow cs g)
theorem missTo_succ (cs : List Int) (g i : Nat) : missTo cs g (i + 1) = missTo cs g i ++ missRow cs g i := by
  unfold missTo
  rw [List.range_succ, List.flatMap_append]
  simp
theorem missAt_eq {cs : List Int} {g r v : Nat} (hv : KC.tbl g (natL cs) r = some v) : missAt cs g r = v / g := by
  unfold missAt
  rw [hv]
  rfl
theorem row_mem {cs : List Int} {g : Nat} (hc : ∀ c ∈ cs, 1 ≤ c ∧ c ≤ 60) (hg : (g : Int) ∈ cs) (h1 : gcdI cs = 1) {r n : Nat} (hr : r < g) : n ∈ missRow cs g r ↔ n % g = r ∧ KL.pd (natL cs) n = false := by
  obtain ⟨v, hv, _, hvg⟩ := all_some hc hg h1 r hr
  have hv2 : v = r + v / g * g := by
    have := Nat.div_add_mod v g
    rw [Nat.mul_comm] at this
    omega
  have hm : ∀ n, n % g = r → (KL.pd (natL cs) n = false ↔ n < v) := fun n hn => by
    have := miss_iff hc hg (v := v) (n := n) (by rw [hn]; exact hv)
    cases e : KL.pd (natL cs) n with
    | true =>
      have := this.mp e
      simp
      omega
    | false =>
      have : ¬ v ≤ n := fun z => by
        have := this.mpr z
        rw [e] at this
        cases this
      simp
      omega
  unfold missRow
  rw [List.mem_map, missAt_eq hv]
  constructor
  · rintro ⟨k, hk, rfl⟩
    have hk' := List.mem_range.mp hk
    have hn : (r + k * g) % g = r := by rw [Nat.add_mul_mod_self_right, Nat.mod_eq_of_lt hr]
    refine ⟨hn, (hm _ hn).mpr ?_⟩
    have := Nat.mul_le_mul_right g (show k + 1 ≤ v / g from hk')
    rw [Nat.add_mul] at this
    omega
  · rintro ⟨hn, hp⟩
    have hlt := (hm n hn).mp hp
    have e := Nat.div_add_mod n g
    rw [Nat.mul_comm, hn] at e
    refine ⟨n / g, List.mem_range.mpr ?_, by omega⟩
    refine Nat.lt_of_not_le fun z => ?_
    have := Nat.mul_le_mul_right g z
    omega
theorem to_mem {cs : List Int} {g : Nat} (hc : ∀ c ∈ cs, 1 ≤ c ∧ c ≤ 60) (hg : (g : Int) ∈ cs) (h1 : gcdI cs = 1) {i n : Nat} (hi : i ≤ g) : n ∈ missTo cs g i ↔ n % g < i ∧ KL.pd (natL cs) n = false := by
  unfold missTo
  rw [List.mem_flatMap]
  constructor
  · rintro ⟨r, hr, hn⟩
    have hr' := List.mem_range.mp hr
    obtain ⟨a, b⟩ := (row_mem hc hg h1 (by omega)).mp hn
    exact ⟨by omega, b⟩
  · rintro ⟨a, b⟩
    exact ⟨n % g, List.mem_range.mpr a, (row_mem hc hg h1 (by omega)).mpr ⟨rfl, b⟩⟩
theorem row_nodup (cs : List Int) {g : Nat} (hg : 0 < g) (r : Nat) : (missRow cs g r).Nodup := by
  unfold missRow List.Nodup
  rw [List.pairwise_map]
  refine List.nodup_range.imp fun {a b} h e => h ?_
  exact Nat.eq_of_mul_eq_mul_right hg (show a * g = b * g by omega)
theorem to_nodup {cs : List Int} {g : Nat} (hc : ∀ c ∈ cs, 1 ≤ c ∧ c ≤ 60) (hg : (g : Int) ∈ cs) (h1 : gcdI cs = 1) : ∀ i, i ≤ g → (missTo cs g i).Nodup
  | 0, _ => by simp [missTo]
  | i + 1, hi => by
    have g1 := hc _ hg
    rw [missTo_succ]
    refine List.nodup_append.mpr ⟨to_nodup hc hg h1 i (by omega), row_nodup cs (by omega) i, fun n hn m hm e => ?_⟩
    subst e
    have := ((to_mem hc hg h1 (by omega)).mp hn).1
    have := ((row_mem hc hg h1 (by omega)).mp hm).1
    omega
theorem to_len (cs : List Int) (g : Nat) : ∀ i, ((missTo cs g i).length : Int) = ((List.range i).map fun r => ((missAt cs g r : Nat) : Int)).sum
  | 0 => by simp [missTo]
  | i + 1 => by
    rw [missTo_succ, List.length_append, List.range_succ, List.map_append, List.sum_append, Int.natCast_add, to_len cs g i]
    simp [missRow]
theorem to_all {cs : List Int} {g : Nat} (hc : ∀ c ∈ cs, 1 ≤ c ∧ c ≤ 60) (hg : (g : Int) ∈ cs) (h1 : gcdI cs = 1) {n : Nat} : n ∈ missL cs ↔ n ∈ missTo cs g g := by
  have g1 := hc _ hg
  rw [missL_mem hc hg h1, to_mem hc hg h1 (Nat.le_refl _)]
  exact ⟨fun h => ⟨Nat.mod_lt _ (by omega), h⟩, fun h => h.2⟩
theorem missL_nodup (cs : List Int) : (missL cs).Nodup := (missL_asc cs).imp fun h => by omega
theorem miss_sum {cs : List Int} {g : Nat} (hc : ∀ c ∈ cs, 1 ≤ c ∧ c ≤ 60) (hg : (g : Int) ∈ cs) (h1 : gcdI cs = 1) : ((List.range g).map fun r => ((missAt cs g r : Nat) : Int)).sum = ((missL cs).length : Int) := by
  rw [← to_len]
  have a := KF.nodup_le (missL_nodup cs) fun n hn => (to_all hc hg h1).mp hn
  have b := KF.nodup_le (to_nodup hc hg h1 g (Nat.le_refl _)) fun n hn => (to_all hc hg h1).mpr hn
  omega
theorem missL_len (cs : List Int) : (missL cs).length ≤ 3601 := by
  have := List.length_filter_le (fun n => !(KL.pd (natL cs) n)) (List.range 3601)
  simpa [missL] using this
theorem to_small {cs : List Int} {g : Nat} (hc : ∀ c ∈ cs, 1 ≤ c ∧ c ≤ 60) (hg : (g : Int) ∈ cs) (h1 : gcdI cs = 1) {i : Nat} (hi : i ≤ g) : (missTo cs g i).length ≤ 3601 :=
  Nat.le_trans (KF.nodup_le (to_nodup hc hg h1 i hi) fun n hn => (missL_mem hc hg h1).mpr ((to_mem hc hg h1 hi).mp hn).2) (missL_len cs)
theorem rgM {r m g : Nat} (hg : 0 < g) (hg2 : g < 2 ^ 29) (hr : r < 2 ^ 39) (h : r + m * g < 2 ^ 40) : RgC (r : Int) ((r + m * g : Nat) : Int) (g : Int) m := by
  by_cases z : m = 0
  · subst z
    exact rgC0 hg (by omega) h hg2 (by omega)
  · obtain ⟨k, rfl⟩ : ∃ k, m = k + 1 := ⟨m - 1, by omega⟩
    have hlt : r < r + (k + 1) * g := by
      have := Nat.mul_pos (show 0 < k + 1 by omega) hg
      omega
    have := rgC hg (show r < 2 ^ 40 by omega) h hg2 hlt
    have e : (r + (k + 1) * g - r - 1) / g + 1 = k + 1 := by
      rw [Nat.add_sub_cancel_left, Nat.add_mul, Nat.one_mul]
      congr 1
      have h2 : k * g + g - 1 = (g - 1) + k * g := by omega
      rw [h2, Nat.add_mul_div_right _ _ hg, Nat.div_eq_of_lt (by omega)]
      omega
    rw [e] at this
    exact this
def sp_ending_table (C : Addr) : Sp := fun vs H Q _ => ∃ (p : Addr) (cs : List Int) (g : Nat), vs = [.ref p] ∧ LotAt C H p cs ∧ gcdI cs = 1 ∧ cs[0]? = some (g : Int) ∧
  ∀ q H', H q = none → Same H H' → H' q = some (.tup (tabO g (KC.tbl g (natL cs)))) → Q (.ref q) H'
def sp_missed (C : Addr) : Sp := fun vs H Q _ => ∃ (p : Addr) (cs : List Int), vs = [.ref p] ∧ LotAt C H p cs ∧ gcdI cs = 1 ∧ ∀ q H', H q = none → Same H H' → H' q = some (.tup ((missL cs).map fun (n : Nat) => V.int n)) → Q (.ref q) H'
def sp_count_missed (C : Addr) : Sp := fun vs H Q _ => ∃ (p : Addr) (cs : List Int), vs = [.ref p] ∧ LotAt C H p cs ∧ gcdI cs = 1 ∧ ∀ H', Same H H' → Q (.int (missL cs).length) H'
def sp_last_missed (C : Addr) : Sp := fun vs H Q _ => ∃ (p : Addr) (cs : List Int), vs = [.ref p] ∧ LotAt C H p cs ∧ gcdI cs = 1 ∧ ∀ H', Same H H' → Q (optV (missL cs).getLast?) H'
theorem atI_negF {α : Type} {xs : List α} {v : α} {c : Nat} (h1 : 1 ≤ c) (h : c ≤ xs.length) (e : xs[xs.length - c]? = some v) : atI xs (-(c : Int)) = some v := by
  have e2 : ixN xs.length (-(c : Int)) = some (xs.length - c) := by
    unfold ixN
    rw [if_neg (by omega), if_pos (by omega)]
    congr 1
    omega
  unfold atI
  rw [e2]
  exact e
/-- the missed sums below n -/
def missB (cs : List Int) (n : Nat) : List Nat := (List.range n).filter fun k => !(KL.pd (natL cs) k)
theorem missB_succ (cs : List Int) (n : Nat) : missB cs (n + 1) = missB cs n ++ (if KL.pd (natL cs) n then [] else [n]) := by
  unfold missB
  rw [List.range_succ, List.filter_append]
  cases h : KL.pd (natL cs) n <;> simp [h]
theorem missB_all {cs : List Int} {n : Nat} (h : ∀ k, n ≤ k → KL.pd (natL cs) k = true) (h36 : n ≤ 3601) : missB cs n = missL cs := by
  obtain ⟨d, hd⟩ : ∃ d, 3601 = n + d := ⟨3601 - n, by omega⟩
  unfold missL
  rw [hd]
  clear hd h36
  induction d with
  | zero => rfl
  | succ d ih =>
    rw [ih]
    have := missB_succ cs (n + d)
    rw [h (n + d) (by omega), if_pos rfl, List.append_nil] at this
    exact this.symm
theorem missB_more {cs : List Int} {n : Nat} (h : ∀ k, KL.pd (natL cs) k = false → k < 3600) (hn : 3601 ≤ n) : missB cs n = missL cs := by
  obtain ⟨d, rfl⟩ : ∃ d, n = 3601 + d := ⟨n - 3601, by omega⟩
  clear hn
  induction d with
  | zero => rfl
  | succ d ih =>
    rw [show 3601 + (d + 1) = 3601 + d + 1 by omega, missB_succ, ih]
    cases e : KL.pd (natL cs) (3601 + d) with
    | true => simp
    | false =>
      have := h _ e
      omega
/-- so many behind one another are paid, as the least coin tells: all from there on are -/
theorem run_all {cs : List Int} {g n : Nat} (hc : ∀ c ∈ cs, 1 ≤ c ∧ c ≤ 60) (hg : (g : Int) ∈ cs) (h : ∀ k, k < g → k ≤ n → KL.pd (natL cs) (n - k) = true) (hgn : g ≤ n + 1) : ∀ k, n + 1 ≤ k + g → KL.pd (natL cs) k = true := by
  have g1 := hc _ hg
  intro k
  induction k using Nat.strongRecOn with
  | ind k ih =>
    intro hk
    by_cases q : k ≤ n
    · have := h (n - k) (by omega) (by omega)
      rw [show n - (n - k) = k by omega] at this
      exact this
    · refine (KL.pd_iff k).mpr (.inr ⟨g, natL_mem hg, by omega, by omega, ih (k - g) (by omega) (by omega)⟩)
theorem gcd_next {cs : List Int} {a : Int} (hp : ∀ c ∈ cs, 1 ≤ c) (h1 : a ∈ cs) (h2 : a + 1 ∈ cs) : gcdI cs = 1 := by
  have a1 := hp a h1
  have d1 : KL.gcdL (natL cs) ∣ a.toNat := (KL.gcdL_iff.mp (Nat.dvd_refl _)) _ (List.mem_map.mpr ⟨a, h1, rfl⟩)
  have d2 : KL.gcdL (natL cs) ∣ (a + 1).toNat := (KL.gcdL_iff.mp (Nat.dvd_refl _)) _ (List.mem_map.mpr ⟨a + 1, h2, rfl⟩)
  have e : (a + 1).toNat = a.toNat + 1 := by omega
  rw [e] at d2
  have := Nat.dvd_one.mp ((Nat.dvd_add_right d1).mp d2)
  unfold gcdI
  omega
theorem gcd_pos {cs : List Int} (h : Lotc cs) : 1 ≤ gcdI cs := by
  have h60 := lot_pos (Int.le_refl 0) h.up
  have hl := List.length_pos_iff.mpr h.ne
  have hm : cs[0] ∈ cs := List.getElem_mem _
  have d1 : KL.gcdL (natL cs) ∣ (cs[0]).toNat := (KL.gcdL_iff.mp (Nat.dvd_refl _)) _ (List.mem_map.mpr ⟨_, hm, rfl⟩)
  have := h60 _ hm
  have := Nat.pos_of_dvd_of_pos d1 (by omega)
  unfold gcdI
  omega
/-- a lot with the coin next to its least one -/
theorem lot_more {cs ds : List Int} {a : Int} (h : Lotc cs) (hl : cs.length ≤ 14) (ha : a ∈ cs) (h59 : a ≤ 59) (ho : ds.Pairwise (· < ·)) (hm : ∀ k, k ∈ ds ↔ decide (k ∈ cs ++ [a + 1]) = true) : Lotc ds ∧ gcdI ds = 1 := by
  have h60 := lot_pos (Int.le_refl 0) h.up
  have hm' : ∀ k, k ∈ ds ↔ k ∈ cs ∨ k = a + 1 := fun k => by
    rw [hm k, decide_eq_true_iff, List.mem_append]
    simp
  have hb : ∀ d ∈ ds, 0 < d ∧ d ≤ 60 := fun d hd => by
    rcases (hm' d).mp hd with z | z
    · have := h60 d z
      omega
    · have := h60 a ha
      omega
  have hnd : ds.Nodup := ho.imp fun h => by omega
  have hlen := KF.nodup_le (l := ds) (m := cs ++ [a + 1]) hnd (fun x hx => by
    rcases (hm' x).mp hx with z | z
    · exact List.mem_append_left _ z
    · simp [z])
  refine ⟨⟨List.ne_nil_of_mem ((hm' a).mpr (.inl ha)), by simp at hlen; omega, asc_of ho hb⟩, gcd_next (fun c hc => by have := hb c hc; omega) ((hm' a).mpr (.inl ha)) ((hm' _).mpr (.inr rfl))⟩
def sp_l_even : Sp := fun vs H Q _ => ∃ b : Addr, vs = [.ref b] ∧ Bw H b ∧ ∀ q (cs : List Int) H', H q = none → Lotc cs → gcdI cs = 1 → H' q = some (.tup (cs.map V.int)) → Bw H' b → But b H H' → Q (.ref q) H'
def sp_l_missed : Sp := fun vs H Q _ => ∃ (t : Addr) (cs : List Int), vs = [.ref t] ∧ H t = some (.tup (cs.map V.int)) ∧ Lotc cs ∧ gcdI cs = 1 ∧ ∀ q H', H q = none → Same H H' → H' q = some (.tup ((missL cs).map fun (n : Nat) => V.int n)) → Q (.ref q) H'
end Kx

/-! lots of a purse, each once, counted by their sums -/
namespace KW
/-- each part of a purse once -/
structure Lots (ps : List Nat) (L : List (List Nat)) : Prop where
  nd : L.Nodup
  mem : ∀ s, s ∈ L ↔ s.Sublist ps
theorem Lots.perm {ps : List Nat} {L M : List (List Nat)} (h : Lots ps L) (g : Lots ps M) : L.Perm M :=
  (List.perm_ext_iff_of_nodup h.nd g.nd).mpr fun s => by rw [h.mem, g.mem]
def bySum (L : List (List Nat)) (x : Nat) : Nat := L.countP fun s => s.sum == x
theorem bySum_perm {L M : List (List Nat)} (h : L.Perm M) (x : Nat) : bySum L x = bySum M x := h.countP_eq _
theorem bySum_append (L M : List (List Nat)) (x : Nat) : bySum (L ++ M) x = bySum L x + bySum M x := List.countP_append
theorem sum_rep (n p : Nat) : (List.replicate n p).sum = n * p := by
  induction n with
  | zero => simp
  | succ n ih => rw [List.replicate_succ, List.sum_cons, ih, Nat.succ_mul]; omega
theorem bySum_map {L : List (List Nat)} {i p x : Nat} : bySum (L.map (· ++ List.replicate i p)) x = if i * p ≤ x then bySum L (x - i * p) else 0 := by
  unfold bySum
  rw [List.countP_map]
  split
  · rename_i h
    refine List.countP_congr fun s _ => ?_
    simp only [Function.comp, List.sum_append, sum_rep, beq_iff_eq]
    omega
  · rename_i h
    rw [List.countP_eq_zero]
    intro s _
    simp only [Function.comp, List.sum_append, sum_rep, beq_iff_eq]
    omega
theorem sub_rep {l : List Nat} {p m : Nat} {s : List Nat} : s.Sublist (l ++ List.replicate m p) ↔ ∃ t i, i ≤ m ∧ t.Sublist l ∧ s = t ++ List.replicate i p := by
  rw [List.sublist_append_iff]
  constructor
  · rintro ⟨t, u, rfl, ht, hu⟩
    obtain ⟨i, hi, rfl⟩ := List.sublist_replicate_iff.mp hu
    exact ⟨t, i, hi, ht, rfl⟩
  · rintro ⟨t, i, hi, ht, rfl⟩
    exact ⟨t, _, rfl, ht, List.sublist_replicate_iff.mpr ⟨i, hi, rfl⟩⟩
theorem lots_rep {l : List Nat} {L : List (List Nat)} {p : Nat} (h : Lots l L) (hp : p ∉ l) : ∀ m, ∃ M, Lots (l ++ List.replicate m p) M ∧ ∀ x, bySum M x = pw (bySum L) p (m + 1) x
  | 0 => ⟨L, by simpa using h, fun x => by
      show _ = pw (bySum L) p 0 x + (if 0 * p ≤ x then bySum L (x - 0 * p) else 0)
      simp [pw]⟩
  | m + 1 => by
    obtain ⟨M, hM, e⟩ := lots_rep h hp m
    have hc : ∀ t : List Nat, t.Sublist l → t.count p = 0 := fun t ht => List.count_eq_zero.mpr fun z => hp (ht.subset z)
    refine ⟨M ++ L.map (· ++ List.replicate (m + 1) p), ⟨List.nodup_append.mpr ⟨hM.nd, ?_, ?_⟩, fun s => ?_⟩, fun x => ?_⟩
    · refine List.Pairwise.map _ (fun a b hab => ?_) h.nd
      exact fun z => hab (List.append_cancel_right z)
    · intro s hs s' hs' e
      subst e
      obtain ⟨t, i, hi, ht, rfl⟩ := sub_rep.mp ((hM.mem _).mp hs)
      obtain ⟨t', ht', e⟩ := List.mem_map.mp hs'
      have := congrArg (List.count p) e
      rw [List.count_append, List.count_append, List.count_replicate_self, List.count_replicate_self, hc t ht, hc t' ((h.mem _).mp ht')] at this
      omega
    · rw [List.mem_append, hM.mem, List.mem_map, sub_rep, sub_rep]
      constructor
      · rintro (⟨t, i, hi, ht, rfl⟩ | ⟨t, ht, rfl⟩)
        · exact ⟨t, i, by omega, ht, rfl⟩
        · exact ⟨t, m + 1, Nat.le_refl _, (h.mem t).mp ht, rfl⟩
      · rintro ⟨t, i, hi, ht, rfl⟩
        by_cases e : i = m + 1
        · subst e
          exact .inr ⟨t, (h.mem t).mpr ht, rfl⟩
        · exact .inl ⟨t, i, by omega, ht, rfl⟩
    · rw [bySum_append, e, bySum_map]
      rfl
theorem lots_nil : Lots [] [[]] := ⟨by simp, fun s => by simp⟩
theorem kinds_snoc' {ps l : List Nat} {p : Nat} : kinds ps (l ++ [p]) = kinds ps l ++ List.replicate (ps.count p) p := by
  unfold kinds
  rw [List.flatMap_append]
  simp
theorem lots_kinds {ps : List Nat} : ∀ {ns : List Nat}, ns.Nodup → ∃ M, Lots (kinds ps ns) M ∧ ∀ x, bySum M x = wf ps ns w0 x := by
  intro ns hn
  have key : ∀ k (ns : List Nat), ns.length = k → ns.Nodup → ∃ M, Lots (kinds ps ns) M ∧ ∀ x, bySum M x = wf ps ns w0 x := by
    intro k
    induction k with
    | zero =>
      intro ns h _
      have : ns = [] := List.eq_nil_of_length_eq_zero h
      subst this
      refine ⟨[[]], lots_nil, fun x => ?_⟩
      show _ = w0 x
      unfold bySum w0
      by_cases e : x = 0
      · subst e; rfl
      · rw [if_neg e, List.countP_eq_zero]
        simp
        omega
    | succ k ih =>
      intro ns h hn
      obtain ⟨l, p, rfl⟩ : ∃ l p, ns = l ++ [p] := ⟨ns.dropLast, ns.getLast (by intro z; rw [z] at h; cases h), (List.dropLast_concat_getLast (by intro z; rw [z] at h; cases h)).symm⟩
      obtain ⟨h1, h2, h3⟩ := List.nodup_append.mp hn
      obtain ⟨L, hL, e⟩ := ih l (by simpa using h) h1
      have hp : p ∉ kinds ps l := fun z => by
        unfold kinds at z
        obtain ⟨q, hq, hz⟩ := List.mem_flatMap.mp z
        have := (List.mem_replicate.mp hz).2
        exact h3 q hq p (by simp) this.symm
      obtain ⟨M, hM, e2⟩ := lots_rep hL hp (ps.count p)
      refine ⟨M, by rw [kinds_snoc']; exact hM, fun x => ?_⟩
      rw [e2, wf_snoc]
      congr 1
      exact funext e
  exact key _ ns rfl hn
theorem kinds_asc {ps : List Nat} : ∀ {ns : List Nat}, ns.Pairwise (· < ·) → (kinds ps ns).Pairwise (· ≤ ·)
  | [], _ => .nil
  | n :: r, h => by
    obtain ⟨h1, h2⟩ := List.pairwise_cons.mp h
    show (List.replicate (ps.count n) n ++ kinds ps r).Pairwise (· ≤ ·)
    refine List.pairwise_append.mpr ⟨?_, kinds_asc h2, fun a ha b hb => ?_⟩
    · exact List.pairwise_replicate.mpr (.inr (Nat.le_refl n))
    · rw [(List.mem_replicate.mp ha).2]
      unfold kinds at hb
      obtain ⟨q, hq, hz⟩ := List.mem_flatMap.mp hb
      rw [(List.mem_replicate.mp hz).2]
      exact Nat.le_of_lt (h1 q hq)
/-- the ways of a sum are the parts of it -/
theorem wf_lots {ps ns : List Nat} {L : List (List Nat)} (hs : ps.Pairwise (· ≤ ·)) (hn : ns.Pairwise (· < ·)) (hm : ∀ a, a ∈ ns ↔ a ∈ ps) (h : Lots ps L) (x : Nat) : wf ps ns w0 x = bySum L x := by
  have hnd : ns.Nodup := hn.imp fun h => Nat.ne_of_lt h
  have e : kinds ps ns = ps := (kinds_perm hnd hm).eq_of_pairwise (le := (· ≤ ·)) (fun a b _ _ h1 h2 => Nat.le_antisymm h1 h2) (kinds_asc hn) hs
  obtain ⟨M, hM, e2⟩ := lots_kinds (ps := ps) hnd
  rw [← e2 x]
  rw [e] at hM
  exact bySum_perm (hM.perm h) x
end KW
namespace KW
/-- as many from below as from above -/
def Sym (F : Nat → Nat) (T : Nat) : Prop := (∀ x, x ≤ T → F (T - x) = F x) ∧ ∀ x, T < x → F x = 0
def upTo (f : Nat → Nat) : Nat → Nat
  | 0 => 0
  | n + 1 => upTo f n + f n
theorem upTo_front (f : Nat → Nat) : ∀ n, upTo f (n + 1) = f 0 + upTo (fun i => f (i + 1)) n
  | 0 => by simp [upTo]
  | n + 1 => by
    rw [upTo, upTo_front f n, upTo]
    omega
theorem upTo_rev (f : Nat → Nat) : ∀ n, upTo f n = upTo (fun i => f (n - 1 - i)) n
  | 0 => rfl
  | n + 1 => by
    rw [upTo_front (fun i => f (n + 1 - 1 - i)) n, upTo, upTo_rev f n]
    rw [show (fun i => f (n + 1 - 1 - (i + 1))) = fun i => f (n - 1 - i) from funext fun i => by congr 1; omega]
    simp only [Nat.add_sub_cancel, Nat.sub_zero]
    omega
theorem upTo_congr {f g : Nat → Nat} : ∀ {n}, (∀ i, i < n → f i = g i) → upTo f n = upTo g n
  | 0, _ => rfl
  | n + 1, h => by rw [upTo, upTo, h n (Nat.lt_succ_self n), upTo_congr fun i hi => h i (Nat.lt_succ_of_lt hi)]
theorem pw_upTo (F : Nat → Nat) (p x : Nat) : ∀ j, pw F p j x = upTo (fun i => if i * p ≤ x then F (x - i * p) else 0) j
  | 0 => rfl
  | j + 1 => by rw [pw, upTo, pw_upTo F p x j]
theorem sym_pw {F : Nat → Nat} {T p : Nat} (h : Sym F T) (m : Nat) : Sym (pw F p (m + 1)) (T + m * p) := by
  refine ⟨fun x hx => ?_, fun x hx => ?_⟩
  · rw [pw_upTo, pw_upTo, upTo_rev]
    refine upTo_congr fun i hi => ?_
    have e : m * p = (m - i) * p + i * p := by rw [← Nat.add_mul]; congr 1; omega
    rw [show m + 1 - 1 - i = m - i by omega]
    generalize (m - i) * p = u at e ⊢
    generalize i * p = v at e ⊢
    rw [e] at hx ⊢
    clear e
    by_cases h1 : v ≤ x
    · by_cases h2 : x - v ≤ T
      · rw [if_pos (by omega), if_pos h1, ← h.1 _ h2]
        congr 1
        omega
      · rw [if_neg (by omega), if_pos h1, h.2 _ (by omega)]
    · rw [if_neg h1]
      split
      · exact h.2 _ (by omega)
      · rfl
  · have : ∀ j, j ≤ m + 1 → pw F p j x = 0 := by
      intro j
      induction j with
      | zero => intro _; rfl
      | succ j ih =>
        intro hj
        rw [pw, ih (by omega)]
        have : j * p ≤ m * p := Nat.mul_le_mul_right _ (by omega)
        split
        · rw [h.2 _ (by omega)]
        · rfl
    exact this _ (Nat.le_refl _)
theorem sym_w0 : Sym w0 0 := ⟨fun x hx => by rw [show x = 0 by omega], fun x hx => by unfold w0; rw [if_neg (by omega)]⟩
theorem sym_wf {ps : List Nat} : ∀ {ns : List Nat} {F : Nat → Nat} {T : Nat}, Sym F T → Sym (wf ps ns F) (T + (kinds ps ns).sum)
  | [], F, T, h => by simpa [wf, kinds] using h
  | n :: r, F, T, h => by
    have h1 := sym_wf (ps := ps) (ns := r) (sym_pw h (p := n) (ps.count n))
    have e : (kinds ps (n :: r)).sum = ps.count n * n + (kinds ps r).sum := by
      show (List.replicate (ps.count n) n ++ kinds ps r).sum = _
      rw [List.sum_append, sum_rep]
    rw [wf, e, ← Nat.add_assoc]
    exact h1
/-- as many ways for what is left -/
theorem wf_sym {ps ns : List Nat} (hn : ns.Nodup) (hm : ∀ a, a ∈ ns ↔ a ∈ ps) {x : Nat} (hx : x ≤ ps.sum) : wf ps ns w0 (ps.sum - x) = wf ps ns w0 x := by
  have := (sym_wf (ps := ps) (ns := ns) sym_w0).1 x (by rw [kinds_sum hn hm]; omega)
  rwa [kinds_sum hn hm, Nat.zero_add] at this
end KW

/-! all parts of a purse, as keys of a dict -/
namespace Kx
open PySem L2 MG KM
def kN (s : List Nat) : List L2.Key := s.map fun (n : Nat) => Sum.inl (n : Int)
theorem kN_V (s : List Nat) : (kN s).map kV = intsN s := by
  unfold kN intsN
  rw [List.map_map]
  rfl
theorem kN_inj {s t : List Nat} (h : kN s = kN t) : s = t := by
  have := congrArg (List.map fun k : L2.Key => match k with | .inl z => z.toNat | .inr _ => 0) h
  unfold kN at this
  rw [List.map_map, List.map_map] at this
  simpa [Function.comp_def] using this
def dotT (L : List (List Nat)) : List (List L2.Key × V) := L.map fun s => (kN s, V.bl true)
theorem dot_put {L : List (List Nat)} (s : List Nat) : putK (dotT L) (kN s) (.bl true) = dotT (if s ∈ L then L else L ++ [s]) := by
  unfold putK dotT
  by_cases e : s ∈ L
  · have ha : ((L.map fun s => (kN s, V.bl true)).any fun kv => decide (kv.1 = kN s)) = true := by
      rw [List.any_eq_true]
      exact ⟨_, List.mem_map.mpr ⟨s, e, rfl⟩, by simp⟩
    rw [if_pos ha, if_pos e, List.map_map]
    refine List.map_congr_left fun t _ => ?_
    show (if kN t = kN s then (kN t, V.bl true) else (kN t, V.bl true)) = _
    split <;> rfl
  · have ha : ¬ ((L.map fun s => (kN s, V.bl true)).any fun kv => decide (kv.1 = kN s)) = true := by
      rw [List.any_eq_true]
      rintro ⟨x, hx, h⟩
      obtain ⟨t, ht, rfl⟩ := List.mem_map.mp hx
      have : kN t = kN s := by simpa using h
      exact e (kN_inj this ▸ ht)
    rw [if_neg ha, if_neg e, List.map_append]
    rfl
/-- parts at addresses -/
def PartsAt (H : Hp) (bs : List Addr) (L : List (List Nat)) : Prop := bs.length = L.length ∧ ∀ (i : Nat) (b : Addr) (s : List Nat), bs[i]? = some b → L[i]? = some s → H b = some (.tup (intsN s))
theorem PartsAt.same {H H' : Hp} {bs : List Addr} {L : List (List Nat)} (h : PartsAt H bs L) (s : Same H H') : PartsAt H' bs L := ⟨h.1, fun i b t h1 h2 => s _ _ (h.2 i b t h1 h2)⟩
theorem paired_at {α β : Type} {F : α → β → Prop} : ∀ {xs : List α} {ys : List β}, PySem.Paired F xs ys → xs.length = ys.length ∧ ∀ (j : Nat) (x : α) (y : β), xs[j]? = some x → ys[j]? = some y → F x y
  | _, _, .nil => ⟨rfl, fun j x y h _ => by simp at h⟩
  | _, _, .cons h t => by
    obtain ⟨a, b⟩ := paired_at t
    refine ⟨by simp [a], fun j x y hx hy => ?_⟩
    cases j with
    | zero =>
      cases (show _ = x from by simpa using hx)
      cases (show _ = y from by simpa using hy)
      exact h
    | succ j => exact b j x y (by simpa using hx) (by simpa using hy)
theorem parts_of {H : Hp} {L : List (List Nat)} {bs : List Addr} (h : IsKeys H (dotT L) bs) : PartsAt H bs L := by
  obtain ⟨a, b⟩ := paired_at h
  refine ⟨by rw [← a]; unfold dotT; simp, fun i c s h1 h2 => ?_⟩
  have := b i (kN s, .bl true) c (by unfold dotT; rw [List.getElem?_map, h2]; rfl) h1
  rwa [kN_V] at this
/-- the parts with one piece more, so far -/
structure Grown (L : List (List Nat)) (p j : Nat) (M : List (List Nat)) : Prop where
  nd : M.Nodup
  mem : ∀ s, s ∈ M ↔ s ∈ L ∨ ∃ t ∈ L.take j, s = t ++ [p]
  len : M.length ≤ L.length + j
theorem grown_zero {ps : List Nat} {L : List (List Nat)} (h : KW.Lots ps L) (p : Nat) : Grown L p 0 L := ⟨h.nd, fun s => by simp, by omega⟩
theorem Grown.next {L M : List (List Nat)} {p j : Nat} {t : List Nat} (h : Grown L p j M) (ht : L[j]? = some t) : Grown L p (j + 1) (if t ++ [p] ∈ M then M else M ++ [t ++ [p]]) := by
  have e : L.take (j + 1) = L.take j ++ [t] := by rw [List.take_add_one, ht]; rfl
  have hm : ∀ s, s ∈ (if t ++ [p] ∈ M then M else M ++ [t ++ [p]]) ↔ s ∈ M ∨ s = t ++ [p] := fun s => by
    split
    · rename_i hin
      constructor
      · exact .inl
      · rintro (h | rfl)
        · exact h
        · exact hin
    · simp
  refine ⟨?_, fun s => ?_, ?_⟩
  · split
    · exact h.nd
    · rename_i hn
      exact List.nodup_append.mpr ⟨h.nd, by simp, fun a ha b hb z => by
        have : b = t ++ [p] := by simpa using hb
        exact hn (this ▸ z ▸ ha)⟩
  · rw [hm, h.mem, e]
    constructor
    · rintro ((h | ⟨u, hu, rfl⟩) | rfl)
      · exact .inl h
      · exact .inr ⟨u, by simp [hu], rfl⟩
      · exact .inr ⟨t, by simp, rfl⟩
    · rintro (h | ⟨u, hu, rfl⟩)
      · exact .inl (.inl h)
      · rcases List.mem_append.mp hu with h | h
        · exact .inl (.inr ⟨u, h, rfl⟩)
        · cases (show u = t from by simpa using h)
          exact .inr rfl
  · have := h.len
    split
    · omega
    · rw [List.length_append, List.length_singleton]
      omega
theorem Grown.lots {ps : List Nat} {L M : List (List Nat)} {p : Nat} (hL : KW.Lots ps L) (h : Grown L p L.length M) : KW.Lots (ps ++ [p]) M := by
  refine ⟨h.nd, fun s => ?_⟩
  rw [h.mem, List.take_length, hL.mem, List.sublist_append_iff]
  constructor
  · rintro (h | ⟨t, ht, rfl⟩)
    · exact ⟨s, [], by simp, h, by simp⟩
    · exact ⟨t, [p], rfl, (hL.mem t).mp ht, by simp⟩
  · rintro ⟨t, u, rfl, ht, hu⟩
    rcases List.sublist_cons_iff.mp hu with h | ⟨r, rfl, hr⟩
    · rw [List.sublist_nil.mp h, List.append_nil]
      exact .inl ht
    · rw [List.sublist_nil.mp hr]
      exact .inr ⟨t, (hL.mem t).mpr ht, rfl⟩
theorem bySum_snoc {L : List (List Nat)} {i : Nat} {s : List Nat} (h : L[i]? = some s) (x : Nat) : KW.bySum (L.take (i + 1)) x = bump (KW.bySum (L.take i)) s.sum 1 x := by
  rw [List.take_add_one, h]
  show KW.bySum (L.take i ++ [s]) x = _
  rw [KW.bySum_append]
  unfold bump KW.bySum
  by_cases e : x = s.sum
  · subst e
    simp
  · have e2 : ¬ s.sum = x := fun z => e z.symm
    simp [e, e2]
theorem keys_sorted {ks : List Nat} {ys : List Int} (hn : ks.Nodup) (hperm : ys.Perm (ks.map fun (k : Nat) => (k : Int))) (hs : ys.Pairwise (· ≤ ·)) : ∃ yN : List Nat, ys = (yN.map fun (k : Nat) => (k : Int)) ∧ yN.Pairwise (· < ·) ∧ ∀ a, a ∈ yN ↔ a ∈ ks := by
  have h0 : ∀ y ∈ ys, 0 ≤ y := fun y hy => by
    obtain ⟨k, _, e⟩ := List.mem_map.mp (hperm.mem_iff.mp hy)
    omega
  obtain ⟨yN, hyN⟩ : ∃ yN : List Nat, ys = yN.map fun (k : Nat) => (k : Int) := ⟨_, KW.nat_list h0⟩
  subst hyN
  have hndk : (ks.map fun (k : Nat) => (k : Int)).Nodup := List.pairwise_map.mpr (hn.imp fun h z => h (by omega))
  have hndy : yN.Nodup := (List.pairwise_map.mp (hperm.nodup_iff.mpr hndk)).imp fun h z => h (by rw [z])
  have hle : yN.Pairwise (· ≤ ·) := (List.pairwise_map.mp hs).imp fun h => by omega
  refine ⟨yN, rfl, (hle.and hndy).imp fun h => by have := h.1; have := h.2; omega, fun a => ?_⟩
  have := hperm.mem_iff (a := (a : Int))
  constructor
  · intro h
    obtain ⟨b, hb, e⟩ := List.mem_map.mp (this.mp (List.mem_map.mpr ⟨a, h, rfl⟩))
    cases (show b = a by omega)
    exact hb
  · intro h
    obtain ⟨b, hb, e⟩ := List.mem_map.mp (this.mpr (List.mem_map.mpr ⟨a, h, rfl⟩))
    cases (show b = a by omega)
    exact hb
theorem hs_sub {l : List Nat} {n : Nat} : KU.Hs l n ↔ ∃ s : List Nat, s.Sublist l ∧ s.sum = n := by
  constructor
  · intro h
    induction h with
    | nil => exact ⟨[], .slnil, rfl⟩
    | skip _ ih =>
      obtain ⟨s, a, b⟩ := ih
      exact ⟨s, a.cons _, b⟩
    | @take a l n _ ih =>
      obtain ⟨s, x, y⟩ := ih
      exact ⟨a :: s, x.cons_cons _, by rw [List.sum_cons]; omega⟩
  · rintro ⟨s, hs, rfl⟩
    induction hs with
    | slnil => exact .nil
    | cons _ _ ih => exact .skip ih
    | cons_cons a _ ih =>
      rw [List.sum_cons, Nat.add_comm]
      exact .take ih
theorem bySum_hs {ps : List Nat} {L : List (List Nat)} (h : KW.Lots ps L) {x : Nat} : KW.bySum L x ≠ 0 ↔ KU.Hs ps x := by
  unfold KW.bySum
  rw [← Nat.pos_iff_ne_zero, List.countP_pos_iff, hs_sub]
  constructor
  · rintro ⟨s, hs, e⟩
    exact ⟨s, (h.mem s).mp hs, by simpa using e⟩
  · rintro ⟨s, hs, e⟩
    exact ⟨s, (h.mem s).mpr hs, by simpa using e⟩
theorem bySum_le {L : List (List Nat)} {x : Nat} : KW.bySum L x ≤ L.length := List.countP_le_length
theorem dpF {K : PySem.W.Frag} {H : Hp} {a : Addr} {ps : List Nat} (h : FT H a (intsN ps)) : Dp K H (.ref a) (.tuple ((ps.map fun (p : Nat) => (p : Int)).map .int)) := by
  rw [intsN_ints] at h
  exact .tup h.t (dpI _)
theorem dpNt {K : PySem.W.Frag} {H : Hp} {a : Addr} {ps : List Nat} (h : H a = some (.tup (intsN ps))) : Dp K H (.ref a) (.tuple ((ps.map fun (p : Nat) => (p : Int)).map .int)) := by
  rw [intsN_ints] at h
  exact dpT h
theorem nat_small {n : Nat} (h : n ≤ 1000000000) : (n : Int).natAbs < 2 ^ 1000 := by
  have h30 : (2 : Nat) ^ 30 ≤ 2 ^ 1000 := Nat.pow_le_pow_right (by decide) (by decide)
  have h31 : (2 : Nat) ^ 30 = 1073741824 := rfl
  omega
theorem shw_natsT {ps : List Nat} {m : Nat} (h : ∀ p ∈ ps, p ≤ 1000000000) (hm : ps.length ≤ m) : Shw (m * 1003 + 3) 1 (.tuple ((ps.map fun (p : Nat) => (p : Int)).map .int)) :=
  shw_intsT (fun i hi => by obtain ⟨p, hp, rfl⟩ := List.mem_map.mp hi; exact nat_small (h p hp)) (by simpa using hm)
theorem shw_nats {ps : List Nat} {m : Nat} (h : ∀ p ∈ ps, p ≤ 1000000000) (hm : ps.length ≤ m) : Shw (m * 1003 + 3) 1 (.list ((ps.map fun (p : Nat) => (p : Int)).map .int)) :=
  shw_ints (fun i hi => by obtain ⟨p, hp, rfl⟩ := List.mem_map.mp hi; exact nat_small (h p hp)) (by simpa using hm)
def sp_ways_held : Sp := fun vs H Q _ => ∃ (t : Addr) (ps : List Nat) (n : Nat), vs = [.ref t, .int (n : Nat)] ∧ FT H t (intsN ps) ∧ PurseL ps ∧ n ≤ 1000000000000000000000000000000 ∧
  ∀ H' ns, Same H H' → ns.Pairwise (· < ·) → (∀ a, a ∈ ns ↔ a ∈ ps) → Q (.int (wy ps ns n : Nat)) H'
def sp_l_purse37 : Sp := fun vs H Q _ => ∃ (b : Addr) (m t : Nat), vs = [.ref b, .int (m : Nat), .int (t : Nat)] ∧ Bw H b ∧ m ≤ 12 ∧ 1 ≤ t ∧ t ≤ 1000 ∧
  ∀ q ps H', H q = none → q ≠ b → Bw H' b → But b H H' → FT H' q (intsN ps) → PurseL ps → Q (.ref q) H'
def sp_l_lots : Sp := fun vs H Q _ => ∃ (t : Addr) (ps : List Nat), vs = [.ref t] ∧ FT H t (intsN ps) ∧ ps.length ≤ 12 ∧
  ∀ l bs L H', H l = none → Same H H' → H' l = some (.lst (bs.map V.ref)) → PartsAt H' bs L → KW.Lots ps L → L.length ≤ 4096 → Q (.ref l) H'
def sp_l_ways37 : Sp := fun vs H Q _ => ∃ (t : Addr) (ps : List Nat), vs = [.ref t] ∧ FT H t (intsN ps) ∧ PurseL ps ∧
  ∀ d kvs L ks H', H d = none → Same H H' → H' d = some (.dK kvs) → Wy kvs (KW.bySum L) 12000 ks → KW.Lots ps L → L.length ≤ 4096 → Q (.ref d) H'
end Kx

/-! stands: what is not paid, where few sums are missed; the coins that lesser ones do not come to -/
namespace KJ
open KL
/-- what is not paid below m -/
def openN (ks : List Nat) (m : Nat) : List Nat := (List.range m).filter fun n => !(pd ks n)
theorem open_mem {ks : List Nat} {m n : Nat} : n ∈ openN ks m ↔ n < m ∧ pd ks n = false := by
  unfold openN
  rw [List.mem_filter, List.mem_range]
  simp
theorem open_asc (ks : List Nat) (m : Nat) : (openN ks m).Pairwise (· < ·) := List.Pairwise.filter _ List.pairwise_lt_range
theorem open_nodup (ks : List Nat) (m : Nat) : (openN ks m).Nodup := (open_asc ks m).imp fun h => Nat.ne_of_lt h
theorem open_succ (ks : List Nat) (m : Nat) : openN ks (m + 1) = openN ks m ++ (if pd ks m = true then [] else [m]) := by
  unfold openN
  rw [List.range_succ, List.filter_append]
  cases h : pd ks m <;> simp [h]
theorem pd_zero (ks : List Nat) : pd ks 0 = true := (pd_iff 0).mpr (.inl rfl)
theorem open_pos {ks : List Nat} {m : Nat} : ∀ n ∈ openN ks m, 0 < n := fun n hn => by
  rcases Nat.eq_zero_or_pos n with z | z
  · have := (open_mem.1 hn).2
    rw [z, pd_zero] at this
    cases this
  · exact z
theorem open_len (ks : List Nat) (m : Nat) : (openN ks m).length ≤ m := by
  have := List.length_filter_le (fun n => !(pd ks n)) (List.range m)
  rwa [List.length_range] at this
theorem pd_add {ks : List Nat} (hp : ∀ c ∈ ks, 0 < c) {a b : Nat} (ha : pd ks a = true) (hb : pd ks b = true) : pd ks (a + b) = true := pd_of hp ((paid_of a ha).sum (paid_of b hb))
theorem pd_mem {ks : List Nat} (hp : ∀ c ∈ ks, 0 < c) {c : Nat} (h : c ∈ ks) : pd ks c = true := by
  have := pd_of hp (Paid.add h .zero)
  rwa [Nat.zero_add] at this
/-- of at most fourteen missed sums none is above 27 -/
theorem gaps28 {ks : List Nat} {m : Nat} (hp : ∀ c ∈ ks, 0 < c) (hm : 56 ≤ m) (hl : (openN ks m).length ≤ 14) : ∀ n, 28 ≤ n → pd ks n = true := by
  intro n
  induction n using Nat.strongRecOn with
  | ind n ih =>
    intro hn
    by_cases h56 : 56 ≤ n
    · have := pd_add hp (ih 28 (by omega) (by omega)) (ih (n - 28) (by omega) (by omega))
      rwa [show 28 + (n - 28) = n by omega] at this
    · cases e : pd ks n with
      | true => rfl
      | false =>
        exfalso
        have hf : ∀ i, i < 14 → ∃ x, (x = i + 1 ∨ x = n - (i + 1)) ∧ pd ks x = false := fun i hi => by
          cases e2 : pd ks (i + 1) with
          | false => exact ⟨i + 1, .inl rfl, e2⟩
          | true =>
            cases e3 : pd ks (n - (i + 1)) with
            | false => exact ⟨_, .inr rfl, e3⟩
            | true =>
              have := pd_add hp e2 e3
              rw [show i + 1 + (n - (i + 1)) = n by omega, e] at this
              cases this
        obtain ⟨f, hf⟩ : ∃ f : Nat → Nat, ∀ i, i < 14 → (f i = i + 1 ∨ f i = n - (i + 1)) ∧ pd ks (f i) = false := by
          refine ⟨fun i => if pd ks (i + 1) = true then n - (i + 1) else i + 1, fun i hi => ?_⟩
          obtain ⟨x, hx, hx2⟩ := hf i hi
          show ((if pd ks (i + 1) = true then n - (i + 1) else i + 1) = i + 1 ∨ (if pd ks (i + 1) = true then n - (i + 1) else i + 1) = n - (i + 1)) ∧ pd ks (if pd ks (i + 1) = true then n - (i + 1) else i + 1) = false
          by_cases q : pd ks (i + 1) = true
          · rw [if_pos q]
            refine ⟨.inr rfl, ?_⟩
            rcases hx with rfl | rfl
            · rw [q] at hx2; cases hx2
            · exact hx2
          · rw [if_neg q]
            exact ⟨.inl rfl, by simpa using q⟩
        have h15 : (n :: (List.range 14).map f).length ≤ (openN ks m).length := by
          refine KF.nodup_le (List.nodup_cons.2 ⟨fun hm2 => ?_, ?_⟩) fun x hx => ?_
          · obtain ⟨i, hi, e1⟩ := List.mem_map.1 hm2
            have hi' := List.mem_range.1 hi
            rcases (hf i hi').1 with q | q <;> omega
          · unfold List.Nodup
            rw [List.pairwise_map]
            have hr : (List.range 14).Pairwise fun a b => a < b ∧ b < 14 := by decide
            refine hr.imp fun {a b} ⟨h1, h2⟩ => ?_
            have ha := (hf a (by omega)).1
            have hb := (hf b h2).1
            rcases ha with qa | qa <;> rcases hb with qb | qb <;> omega
          · rcases List.mem_cons.1 hx with rfl | hx
            · exact open_mem.2 ⟨by omega, e⟩
            · obtain ⟨i, hi, rfl⟩ := List.mem_map.1 hx
              have hi' := List.mem_range.1 hi
              refine open_mem.2 ⟨?_, (hf i hi').2⟩
              rcases (hf i hi').1 with q | q <;> omega
        rw [List.length_cons, List.length_map, List.length_range] at h15
        omega
/-- no two lesser paid sums come to it -/
def irr (ks : List Nat) (t : Nat) : Bool := pd ks t && !((List.range (t / 2)).any fun p => pd ks (p + 1) && pd ks (t - (p + 1)))
theorem irr_iff {ks : List Nat} {t : Nat} : irr ks t = true ↔ pd ks t = true ∧ ∀ a b, 0 < a → 0 < b → a + b = t → pd ks a = true → pd ks b = true → False := by
  unfold irr
  rw [Bool.and_eq_true, Bool.not_eq_true', List.any_eq_false]
  refine and_congr_right fun _ => ⟨fun h a b ha hb e pa pb => ?_, fun h p hp => ?_⟩
  · by_cases q : a ≤ b
    · have := h (a - 1) (List.mem_range.2 (by omega))
      rw [show a - 1 + 1 = a by omega, show t - a = b by omega, pa, pb] at this
      exact this rfl
    · have := h (b - 1) (List.mem_range.2 (by omega))
      rw [show b - 1 + 1 = b by omega, show t - b = a by omega, pa, pb] at this
      exact this rfl
  · intro hq
    rw [Bool.and_eq_true] at hq
    have := List.mem_range.1 hp
    exact h (p + 1) (t - (p + 1)) (by omega) (by omega) (by omega) hq.1 hq.2
/-- the sums up to 60 that lesser ones do not come to -/
def plainN (ks : List Nat) : List Nat := ((List.range 60).map (· + 1)).filter (irr ks)
theorem plain_mem {ks : List Nat} {x : Nat} : x ∈ plainN ks ↔ (1 ≤ x ∧ x ≤ 60) ∧ irr ks x = true := by
  unfold plainN
  rw [List.mem_filter, List.mem_map]
  refine and_congr_left fun _ => ⟨?_, fun h => ⟨x - 1, List.mem_range.2 (by omega), by omega⟩⟩
  rintro ⟨a, ha, rfl⟩
  have := List.mem_range.1 ha
  omega
theorem plain_asc (ks : List Nat) : (plainN ks).Pairwise (· < ·) := by
  refine List.Pairwise.filter _ ?_
  rw [List.pairwise_map]
  exact List.pairwise_lt_range.imp fun h => by omega
theorem plain_pos {ks : List Nat} : ∀ c ∈ plainN ks, 0 < c := fun c hc => (plain_mem.1 hc).1.1
theorem plain_pays {ks : List Nat} (hp : ∀ c ∈ ks, 0 < c) (h28 : ∀ n, 28 ≤ n → pd ks n = true) (n : Nat) : pd (plainN ks) n = pd ks n := by
  rw [Bool.eq_iff_iff]
  constructor
  · intro h
    have key : ∀ {k}, Paid (plainN ks) k → pd ks k = true := fun {k} p => by
      induction p with
      | zero => exact pd_zero ks
      | add hc _ ih => exact pd_add hp ih (irr_iff.1 (plain_mem.1 hc).2).1
    exact key (paid_of n h)
  · induction n using Nat.strongRecOn with
    | ind n ih =>
      intro h
      rcases Nat.eq_zero_or_pos n with z | z
      · rw [z]; exact pd_zero _
      · by_cases h60 : n ≤ 60
        · by_cases q : irr ks n = true
          · exact pd_mem plain_pos (plain_mem.2 ⟨⟨z, h60⟩, q⟩)
          · rw [irr_iff] at q
            have : ∃ a b, 0 < a ∧ 0 < b ∧ a + b = n ∧ pd ks a = true ∧ pd ks b = true := Classical.byContradiction fun c =>
              q ⟨h, fun a b ha hb e pa pb => c ⟨a, b, ha, hb, e, pa, pb⟩⟩
            obtain ⟨a, b, ha, hb, e, pa, pb⟩ := this
            have := pd_add plain_pos (ih a (by omega) pa) (ih b (by omega) pb)
            rwa [e] at this
        · have := pd_add plain_pos (ih 30 (by omega) (h28 30 (by omega))) (ih (n - 30) (by omega) (h28 _ (by omega)))
          rwa [show 30 + (n - 30) = n by omega] at this
theorem pays_between {ks cs : List Nat} (hp : ∀ c ∈ ks, 0 < c) (h28 : ∀ n, 28 ≤ n → pd ks n = true) (h1 : ∀ c ∈ plainN ks, c ∈ cs) (h2 : ∀ c ∈ cs, 0 < c ∧ pd ks c = true) (n : Nat) : pd cs n = pd ks n := by
  rw [Bool.eq_iff_iff]
  constructor
  · intro h
    have key : ∀ {k}, Paid cs k → pd ks k = true := fun {k} p => by
      induction p with
      | zero => exact pd_zero ks
      | add hc _ ih => exact pd_add hp ih (h2 _ hc).2
    exact key (paid_of n h)
  · intro h
    rw [← plain_pays hp h28] at h
    exact pd_of (fun c hc => (h2 c hc).1) ((paid_of n h).mono h1)
/-- there are at most fifteen -/
theorem plain_len {ks : List Nat} {m : Nat} (hp : ∀ c ∈ ks, 0 < c) (hm : 56 ≤ m) (hl : (openN ks m).length ≤ 14) : (plainN ks).length ≤ 15 := by
  have hg : ∃ g, 1 ≤ g ∧ g ≤ 15 ∧ pd ks g = true := Classical.byContradiction fun c => by
    have h15 : ((List.range 15).map (· + 1)).length ≤ (openN ks m).length := by
      refine KF.nodup_le ?_ fun x hx => ?_
      · unfold List.Nodup
        rw [List.pairwise_map]
        exact List.nodup_range.imp fun h e => h (by omega)
      · obtain ⟨i, hi, rfl⟩ := List.mem_map.1 hx
        have := List.mem_range.1 hi
        refine open_mem.2 ⟨by omega, ?_⟩
        cases e : pd ks (i + 1) with
        | false => rfl
        | true => exact absurd ⟨i + 1, by omega, by omega, e⟩ c
    rw [List.length_map, List.length_range] at h15
    omega
  obtain ⟨g, g1, g2, hpg⟩ := hg
  have times : ∀ k, pd ks (k * g) = true := fun k => by
    induction k with
    | zero => rw [Nat.zero_mul]; exact pd_zero ks
    | succ k ih => rw [Nat.add_mul, Nat.one_mul]; exact pd_add hp ih hpg
  have : ((plainN ks).map (· % g)).length ≤ (List.range g).length := by
    refine KF.nodup_le ?_ fun x hx => ?_
    · unfold List.Nodup
      rw [List.pairwise_map]
      have hmem : (plainN ks).Pairwise fun a b => (a ∈ plainN ks ∧ b ∈ plainN ks) ∧ a < b := by
        rw [List.pairwise_iff_getElem]
        intro i j hi hj hij
        exact ⟨⟨List.getElem_mem _, List.getElem_mem _⟩, List.pairwise_iff_getElem.1 (plain_asc ks) i j hi hj hij⟩
      refine hmem.imp fun {a b} ⟨⟨ha, hb⟩, hlt⟩ e => ?_
      have ia := irr_iff.1 (plain_mem.1 ha).2
      have ib := irr_iff.1 (plain_mem.1 hb).2
      have e1 := Nat.div_add_mod a g
      have e2 := Nat.div_add_mod b g
      have hq : a / g < b / g := Nat.lt_of_not_le fun z => by
        have := Nat.mul_le_mul_left g z
        omega
      have hd : b = a + (b / g - a / g) * g := by
        rw [Nat.mul_comm, Nat.mul_sub]
        have := Nat.mul_le_mul_left g (Nat.le_of_lt hq)
        omega
      have hgpos : 0 < (b / g - a / g) * g := Nat.mul_pos (by omega) (by omega)
      exact ib.2 a ((b / g - a / g) * g) (plain_pos a ha) hgpos hd.symm ia.1 (times _)
    · obtain ⟨y, _, rfl⟩ := List.mem_map.1 hx
      exact List.mem_range.2 (Nat.mod_lt _ (by omega))
  rw [List.length_map, List.length_range] at this
  omega
/-- a coin struck -/
theorem open_less {ks : List Nat} {m n : Nat} (hp : ∀ c ∈ ks, 0 < c) (h : n ∈ openN ks m) : (openN (ks ++ [n]) m).length < (openN ks m).length := by
  have hn := open_pos n h
  have h1 : (openN (ks ++ [n]) m).length ≤ ((openN ks m).erase n).length := by
    refine KF.nodup_le (open_nodup _ _) fun x hx => ?_
    obtain ⟨x1, x2⟩ := open_mem.1 hx
    rw [pd_more hp hn, Bool.or_eq_false_iff] at x2
    refine (List.mem_erase_of_ne fun e => ?_).2 (open_mem.2 ⟨x1, x2.1⟩)
    have := x2.2
    rw [e, Nat.sub_self, pd_zero] at this
    simp at this
  have h2 := List.length_erase_of_mem h
  have h3 := List.length_pos_of_mem h
  omega
/-- paid by what is not greater -/
theorem paid_low {ls l' : List Nat} {n : Nat} (h : Paid ls n) : (∀ c ∈ ls, c ≤ n → c ∈ l') → Paid l' n := by
  induction h with
  | zero => intro _; exact .zero
  | @add c n hc p ih => exact fun q => .add (q c hc (Nat.le_add_left c n)) (ih fun d hd hd2 => q d hd (by omega))
theorem lean_irr {ds : List Nat} (hp : ∀ c ∈ ds, 0 < c) (hs : (leanN ds).Pairwise (· < ·)) {x : Nat} : x ∈ leanN ds ↔ 0 < x ∧ irr ds x = true := by
  have hsub : ∀ c ∈ leanN ds, c ∈ ds := fun c hc => by
    rcases fold_sub ds [] c hc with h | h
    · cases h
    · exact h
  have pays : ∀ {n}, Paid ds n → Paid (leanN ds) n := fun {n} p => by
    induction p with
    | zero => exact .zero
    | add hc _ ih => exact ih.sum (fold_pays ds [] _ hc)
  constructor
  · intro hx
    have h0 := hp x (hsub x hx)
    refine ⟨h0, irr_iff.2 ⟨pd_mem hp (hsub x hx), fun a b ha hb e pa pb => ?_⟩⟩
    obtain ⟨i, hi⟩ := List.getElem?_of_mem hx
    have hl := ln_lean ds i x hi
    have low : ∀ {k}, k < x → Paid ds k → Paid ((leanN ds).take i) k := fun {k} hk p => paid_low (pays p) fun c hc hck => by
      obtain ⟨j, hj⟩ := List.getElem?_of_mem hc
      obtain ⟨j1, j2⟩ := List.getElem?_eq_some_iff.1 hj
      obtain ⟨i1, i2⟩ := List.getElem?_eq_some_iff.1 hi
      have hji : j < i := Nat.lt_of_not_le fun q => by
        rcases Nat.eq_or_lt_of_le q with q | q
        · subst q
          rw [hj] at hi
          cases hi
          omega
        · have := List.pairwise_iff_getElem.1 hs i j i1 j1 q
          omega
      refine List.mem_of_getElem? (i := j) ?_
      rw [List.getElem?_take, if_pos hji]
      exact hj
    have := (low (by omega) (paid_of a pa)).sum (low (by omega) (paid_of b pb))
    rw [e] at this
    rw [pd_of (fun c hc => hp c (hsub c (List.mem_of_mem_take hc))) this] at hl
    cases hl
  · rintro ⟨h0, hi⟩
    obtain ⟨h1, h2⟩ := irr_iff.1 hi
    have p := pays (paid_of x h1)
    cases p with
    | zero => omega
    | @add c n hc p =>
      rcases Nat.eq_zero_or_pos n with z | z
      · rw [z, Nat.zero_add]; exact hc
      · exact (h2 n c z (hp c (hsub c hc)) rfl (pd_of hp (p.mono hsub)) (pd_mem hp (hsub c hc))).elim
theorem asc_eq {xs ys : List Nat} (h1 : xs.Pairwise (· < ·)) (h2 : ys.Pairwise (· < ·)) (h : ∀ z, z ∈ xs ↔ z ∈ ys) : xs = ys := by
  have n1 : xs.Nodup := h1.imp fun q => Nat.ne_of_lt q
  have n2 : ys.Nodup := h2.imp fun q => Nat.ne_of_lt q
  exact ((List.perm_ext_iff_of_nodup n1 n2).2 h).eq_of_pairwise (le := (· ≤ ·)) (fun a b _ _ x y => Nat.le_antisymm x y) (h1.imp Nat.le_of_lt) (h2.imp Nat.le_of_lt)
theorem irr_congr {ks ds : List Nat} (h : ∀ n, pd ks n = pd ds n) : irr ks = irr ds := by
  have : pd ks = pd ds := funext h
  funext t
  unfold irr
  rw [this]
theorem lean_plain {ds ks : List Nat} (hp : ∀ c ∈ ds, 0 < c) (h60 : ∀ c ∈ ds, c ≤ 60) (hs : (leanN ds).Pairwise (· < ·)) (h : ∀ n, pd ks n = pd ds n) : leanN ds = plainN ks := by
  refine asc_eq hs (plain_asc ks) fun z => ?_
  rw [lean_irr hp hs, plain_mem, irr_congr h]
  constructor
  · rintro ⟨h0, hi⟩
    have hz : z ∈ leanN ds := (lean_irr hp hs).2 ⟨h0, hi⟩
    rcases fold_sub ds [] z hz with q | q
    · cases q
    · exact ⟨⟨h0, h60 z q⟩, hi⟩
  · exact fun q => ⟨q.1.1, q.2⟩
theorem open_congr {ks ds : List Nat} (h : ∀ n, pd ks n = pd ds n) (m : Nat) : openN ks m = openN ds m := by
  have : pd ks = pd ds := funext h
  unfold openN
  rw [this]
end KJ

/-! the game: who names 1 has lost -/
namespace KJ
open KL
def lstep (n : Nat) (l : List Nat) (t : Nat) : List Nat := if t < n ∨ t - n ∈ l then l ++ [t] else l
/-- what is still missed when n is named -/
def leftM (S : List Nat) (n : Nat) : List Nat := S.foldl (lstep n) []
theorem left_snoc (S : List Nat) (t n : Nat) : leftM (S ++ [t]) n = lstep n (leftM S n) t := by
  unfold leftM
  rw [List.foldl_append]
  rfl
theorem lstep_sub {n t : Nat} {l : List Nat} : ∀ x ∈ lstep n l t, x ∈ l ∨ x = t := fun x hx => by
  unfold lstep at hx
  split at hx
  · rcases List.mem_append.1 hx with h | h
    · exact .inl h
    · exact .inr (by simpa using h)
  · exact .inl hx
theorem fold_left_sub {n : Nat} : ∀ (S l : List Nat), (S.foldl (lstep n) l).Sublist (l ++ S)
  | [], l => by simp
  | t :: S, l => by
    refine (fold_left_sub S (lstep n l t)).trans ?_
    have e : l ++ t :: S = (l ++ [t]) ++ S := by simp
    rw [e]
    refine List.Sublist.append_right ?_ S
    unfold lstep
    split
    · exact List.Sublist.refl _
    · exact List.sublist_append_left l [t]
theorem left_sub (S : List Nat) (n : Nat) : (leftM S n).Sublist S := by
  have := fold_left_sub (n := n) S []
  rwa [List.nil_append] at this
theorem fold_left_not {n : Nat} : ∀ (S l : List Nat), (∀ x ∈ S, 0 < x) → (∀ x ∈ l, 0 < x) → n ∉ l → n ∉ S.foldl (lstep n) l
  | [], l, _, _, h => h
  | t :: S, l, hS, hl, h => by
    refine fold_left_not S (lstep n l t) (fun x hx => hS x (by simp [hx])) (fun x hx => ?_) fun hx => ?_
    · rcases lstep_sub x hx with q | q
      · exact hl x q
      · exact hS x (by simp [q])
    · unfold lstep at hx
      split at hx
      · rename_i c
        rcases List.mem_append.1 hx with q | q
        · exact h q
        · have e : n = t := by simpa using q
          subst e
          rcases c with c | c
          · omega
          · rw [Nat.sub_self] at c
            have := hl 0 c
            omega
      · exact h hx
theorem left_not {S : List Nat} {n : Nat} (hS : ∀ x ∈ S, 0 < x) : n ∉ leftM S n := fold_left_not S [] hS (by simp) (by simp)
theorem left_len {S : List Nat} {n : Nat} (hS : ∀ x ∈ S, 0 < x) (h : n ∈ S) : (leftM S n).length < S.length := by
  have hs := left_sub S n
  rcases Nat.lt_or_ge (leftM S n).length S.length with q | q
  · exact q
  · have e := hs.eq_of_length_le q
    exact absurd (e.symm ▸ h) (left_not hS)
theorem left_pos {S : List Nat} {n : Nat} (hS : ∀ x ∈ S, 0 < x) : ∀ x ∈ leftM S n, 0 < x := fun x hx => hS x ((left_sub S n).mem hx)
/-- what is missed behind a name -/
theorem left_open {ks : List Nat} {n : Nat} (hp : ∀ c ∈ ks, 0 < c) (hn : 0 < n) : ∀ m, leftM (openN ks m) n = openN (ks ++ [n]) m
  | 0 => rfl
  | m + 1 => by
    have hp2 : ∀ c ∈ ks ++ [n], 0 < c := fun c hc => by
      rcases List.mem_append.1 hc with h | h
      · exact hp c h
      · have : c = n := by simpa using h
        omega
    have ih := left_open hp hn m
    rw [open_succ, open_succ, pd_more hp hn m]
    cases e : pd ks m with
    | true => rw [if_pos rfl, List.append_nil, ih, Bool.true_or, if_pos rfl, List.append_nil]
    | false =>
      rw [if_neg (by decide), left_snoc, ih, Bool.false_or]
      unfold lstep
      by_cases c : m < n
      · rw [if_pos (.inl c), show decide (n ≤ m) = false by simpa using c, Bool.false_and]
        rfl
      · rw [show decide (n ≤ m) = true by simpa using c, Bool.true_and]
        cases e2 : pd (ks ++ [n]) (m - n) with
        | true =>
          have hno : ¬ (m < n ∨ m - n ∈ openN (ks ++ [n]) m) := by
            rintro (q | q)
            · exact c q
            · rw [(open_mem.1 q).2] at e2
              cases e2
          rw [if_neg hno, if_pos rfl, List.append_nil]
        | false =>
          have hy : m < n ∨ m - n ∈ openN (ks ++ [n]) m := .inr (open_mem.2 ⟨by omega, e2⟩)
          rw [if_pos hy]
          rfl
def minL : List Nat → Nat
  | [] => 0
  | [a] => a
  | a :: b :: r => min a (minL (b :: r))
theorem minL_is : ∀ {l : List Nat}, l ≠ [] → minL l ∈ l ∧ ∀ x ∈ l, minL l ≤ x
  | [], h => absurd rfl h
  | [a], _ => by simp [minL]
  | a :: b :: r, _ => by
    obtain ⟨h1, h2⟩ := minL_is (l := b :: r) (by simp)
    have hm : minL (a :: b :: r) = min a (minL (b :: r)) := rfl
    rw [hm]
    constructor
    · rcases Nat.le_total a (minL (b :: r)) with q | q
      · rw [Nat.min_eq_left q]; simp
      · rw [Nat.min_eq_right q]; exact List.mem_cons_of_mem _ h1
    · intro x hx
      rcases List.mem_cons.1 hx with rfl | hx
      · exact Nat.min_le_left _ _
      · exact Nat.le_trans (Nat.min_le_right _ _) (h2 x hx)
theorem minL_of {l : List Nat} {m : Nat} (h1 : m ∈ l) (h2 : ∀ x ∈ l, m ≤ x) : m = minL l := by
  obtain ⟨a, b⟩ := minL_is (l := l) (fun e => by rw [e] at h1; cases h1)
  exact Nat.le_antisymm (h2 _ a) (b _ h1)
def maxL : List Nat → Nat
  | [] => 0
  | a :: r => max a (maxL r)
theorem maxL_ge : ∀ {l : List Nat}, ∀ x ∈ l, x ≤ maxL l
  | [], x, h => by cases h
  | a :: r, x, h => by
    rcases List.mem_cons.1 h with rfl | h
    · exact Nat.le_max_left _ _
    · exact Nat.le_trans (maxL_ge x h) (Nat.le_max_right _ _)
theorem maxL_in : ∀ {l : List Nat}, l ≠ [] → maxL l ∈ l
  | [], h => absurd rfl h
  | [a], _ => by simp [maxL]
  | a :: b :: r, _ => by
    have h := maxL_in (l := b :: r) (by simp)
    show max a (maxL (b :: r)) ∈ _
    rcases Nat.le_total a (maxL (b :: r)) with q | q
    · rw [Nat.max_eq_right q]; exact List.mem_cons_of_mem _ h
    · rw [Nat.max_eq_left q]; simp
theorem maxL_of {l : List Nat} {m : Nat} (h1 : m ∈ l) (h2 : ∀ x ∈ l, x ≤ m) : m = maxL l :=
  Nat.le_antisymm (maxL_ge m h1) (h2 _ (maxL_in (fun e => by rw [e] at h1; cases h1)))
/-- who wins, and the end, from what comes behind each name -/
def judge (rs : List (Bool × Nat)) : Bool × Nat :=
  let lost := (rs.filter fun r => !r.1).map (·.2)
  if lost = [] then (false, 1 + maxL (rs.map (·.2))) else (true, 1 + minL lost)
def outF : Nat → List Nat → Bool × Nat
  | 0, _ => (true, 0)
  | f + 1, S => if S = [] then (true, 0) else judge (S.map fun n => outF f (leftM S n))
/-- whether who is to move wins, and the end -/
def outc (S : List Nat) : Bool × Nat := outF S.length S
theorem outF_more : ∀ (f : Nat) (S : List Nat), (∀ x ∈ S, 0 < x) → S.length ≤ f → outF f S = outc S := by
  have key : ∀ (k f g : Nat) (S : List Nat), (∀ x ∈ S, 0 < x) → S.length ≤ k → S.length ≤ f → S.length ≤ g → outF f S = outF g S := by
    intro k
    induction k with
    | zero =>
      intro f g S _ h _ _
      have : S = [] := List.eq_nil_of_length_eq_zero (by omega)
      subst this
      cases f <;> cases g <;> rfl
    | succ k ih =>
      intro f g S hS hk hf hg
      by_cases e : S = []
      · subst e
        cases f <;> cases g <;> rfl
      · have hpos := List.length_pos_iff.2 e
        obtain ⟨f, rfl⟩ : ∃ f', f = f' + 1 := ⟨f - 1, by omega⟩
        obtain ⟨g, rfl⟩ : ∃ g', g = g' + 1 := ⟨g - 1, by omega⟩
        show (if S = [] then (true, 0) else judge (S.map fun n => outF f (leftM S n))) = (if S = [] then (true, 0) else judge (S.map fun n => outF g (leftM S n)))
        rw [if_neg e, if_neg e]
        congr 1
        refine List.map_congr_left fun n hn => ?_
        have := left_len hS hn
        exact ih f g (leftM S n) (left_pos hS) (by omega) (by omega) (by omega)
  exact fun f S hS h => key S.length f S.length S hS (Nat.le_refl _) h (Nat.le_refl _)
theorem outc_nil : outc [] = (true, 0) := rfl
theorem outc_eq {S : List Nat} (hS : ∀ x ∈ S, 0 < x) (h : S ≠ []) : outc S = judge (S.map fun n => outc (leftM S n)) := by
  have hpos := List.length_pos_iff.2 h
  obtain ⟨f, hf⟩ : ∃ f, S.length = f + 1 := ⟨S.length - 1, by omega⟩
  unfold outc
  rw [hf]
  show (if S = [] then (true, 0) else judge (S.map fun n => outF f (leftM S n))) = _
  rw [if_neg h]
  congr 1
  refine List.map_congr_left fun n hn => ?_
  have := left_len hS hn
  exact outF_more f _ (left_pos hS) (by omega)
theorem judge_won (rs : List (Bool × Nat)) : (judge rs).1 = rs.any fun r => !r.1 := by
  unfold judge
  dsimp only
  rw [Bool.eq_iff_iff, List.any_eq_true]
  by_cases e : (rs.filter fun r => !r.1).map (·.2) = []
  · rw [if_pos e]
    rw [List.map_eq_nil_iff, List.filter_eq_nil_iff] at e
    constructor
    · intro h; cases h
    · rintro ⟨r, hr, h⟩
      exact absurd h (e r hr)
  · rw [if_neg e]
    refine ⟨fun _ => ?_, fun _ => rfl⟩
    obtain ⟨x, hx⟩ := List.exists_mem_of_ne_nil _ e
    obtain ⟨r, hr, _⟩ := List.mem_map.1 hx
    obtain ⟨a, b⟩ := List.mem_filter.1 hr
    exact ⟨r, a, b⟩
/-- a stand is won just if a name leads to a lost one -/
theorem won_iff {S : List Nat} (hS : ∀ x ∈ S, 0 < x) (h : S ≠ []) : (outc S).1 = true ↔ ∃ n ∈ S, (outc (leftM S n)).1 = false := by
  rw [outc_eq hS h, judge_won, List.any_eq_true]
  constructor
  · rintro ⟨r, hr, e⟩
    obtain ⟨n, hn, rfl⟩ := List.mem_map.1 hr
    exact ⟨n, hn, by simpa using e⟩
  · rintro ⟨n, hn, e⟩
    exact ⟨_, List.mem_map.2 ⟨n, hn, rfl⟩, by simp [e]⟩
/-- whether the greatest missed sum is paid whichever lesser one is named -/
def quietB (S : List Nat) : Bool := match S.getLast? with
  | none => false
  | some g => decide (g ≠ 1) && S.dropLast.all fun n => !decide (g ∈ leftM S n)
theorem quiet_snoc (S : List Nat) (g : Nat) : quietB (S ++ [g]) = (decide (g ≠ 1) && S.all fun n => !decide (g ∈ leftM (S ++ [g]) n)) := by
  unfold quietB
  rw [List.getLast?_append, List.dropLast_concat]
  rfl
theorem fold_low {g : Nat} : ∀ (S l : List Nat), (∀ x ∈ S, x < g) → S.foldl (lstep g) l = l ++ S
  | [], l, _ => by simp
  | t :: S, l, h => by
    show S.foldl (lstep g) (lstep g l t) = _
    have : lstep g l t = l ++ [t] := if_pos (.inl (h t (by simp)))
    rw [this, fold_low S _ fun x hx => h x (by simp [hx])]
    simp
theorem left_last {S : List Nat} {g : Nat} (h : ∀ x ∈ S, x < g) (h0 : ∀ x ∈ S, 0 < x) : leftM (S ++ [g]) g = S := by
  have e : leftM S g = S := by
    have := fold_low S [] h
    simpa [leftM] using this
  rw [left_snoc, e]
  refine if_neg ?_
  rintro (q | q)
  · omega
  · rw [Nat.sub_self] at q
    have := h0 0 q
    omega
/-- a quiet stand is won -/
theorem quiet_won {S : List Nat} (ha : S.Pairwise (· < ·)) (hS : ∀ x ∈ S, 0 < x) (h1 : S ≠ [] → 1 ∈ S) (hq : quietB S = true) : (outc S).1 = true := by
  by_cases e : S = []
  · subst e; rfl
  · obtain ⟨T, g, rfl⟩ : ∃ T g, S = T ++ [g] := ⟨S.dropLast, S.getLast e, (List.dropLast_concat_getLast e).symm⟩
    rw [quiet_snoc, Bool.and_eq_true, decide_eq_true_iff] at hq
    obtain ⟨hg1, hq⟩ := hq
    have hTg : ∀ x ∈ T, x < g := fun x hx => (List.pairwise_append.1 ha).2.2 x hx g (by simp)
    have hT : ∀ x ∈ T, 0 < x := fun x hx => hS x (by simp [hx])
    have h1T : 1 ∈ T := by
      rcases List.mem_append.1 (h1 e) with q | q
      · exact q
      · exact absurd (by simpa using q : 1 = g).symm hg1
    have hTn : T ≠ [] := fun z => by rw [z] at h1T; cases h1T
    cases hw : (outc (T ++ [g])).1 with
    | true => rfl
    | false =>
      exfalso
      have all : ∀ n ∈ T ++ [g], (outc (leftM (T ++ [g]) n)).1 = true := fun n hn => by
        cases q : (outc (leftM (T ++ [g]) n)).1 with
        | true => rfl
        | false =>
          rw [(won_iff hS e).2 ⟨n, hn, q⟩] at hw
          cases hw
      have hTw := all g (by simp)
      rw [left_last hTg hT] at hTw
      obtain ⟨n, hn, hl⟩ := (won_iff hT hTn).1 hTw
      have hqn := List.all_eq_true.1 hq n hn
      have hng : g ∉ leftM (T ++ [g]) n := by simpa using hqn
      have e2 : leftM (T ++ [g]) n = leftM T n := by
        rw [left_snoc] at hng ⊢
        unfold lstep at hng ⊢
        split
        · rename_i c
          rw [if_pos c] at hng
          exact absurd (by simp) hng
        · rfl
      have := all n (by simp [hn])
      rw [e2, hl] at this
      cases this
/-- of each two sums that come to the greatest one, one is paid -/
theorem even_quiet {ks : List Nat} {m g : Nat} {T : List Nat} (hp : ∀ c ∈ ks, 0 < c) (ho : openN ks m = T ++ [g]) (hg : g ≠ 1) (h : ∀ p, p ≤ g → pd ks p = true ∨ pd ks (g - p) = true) : quietB (openN ks m) = true := by
  have ha := open_asc ks m
  rw [ho] at ha
  rw [ho, quiet_snoc, Bool.and_eq_true]
  refine ⟨by simpa using hg, List.all_eq_true.2 fun n hn => ?_⟩
  have hng : n < g := (List.pairwise_append.1 ha).2.2 n hn g (by simp)
  have hno : n ∈ openN ks m := by rw [ho]; simp [hn]
  have hn0 := open_pos n hno
  rw [← ho, left_open hp hn0]
  have hp2 : pd ks (g - n) = true := by
    rcases h n (by omega) with q | q
    · rw [(open_mem.1 hno).2] at q
      cases q
    · exact q
  have : pd (ks ++ [n]) g = true := by
    rw [pd_more hp hn0, Bool.or_eq_true, Bool.and_eq_true]
    refine .inr ⟨by simpa using Nat.le_of_lt hng, ?_⟩
    rw [pd_more hp hn0, hp2]
    rfl
  have hnot : g ∉ openN (ks ++ [n]) m := fun z => by
    rw [(open_mem.1 z).2] at this
    cases this
  simpa using hnot
end KJ

/-! stands and their game: promises -/
namespace Kx
open PySem L2 MG KM KJ
/-- a row: whether 0, 1, .. are paid -/
abbrev rowB (ks : List Nat) (m : Nat) : List V := tabB m (KL.pd ks)
abbrev Psv (ks : List Nat) : Prop := ∀ c ∈ ks, 0 < c
theorem natL_intL (ks : List Nat) : natL (intL ks) = ks := nat_int ks
theorem intL_V (ks : List Nat) : (intL ks).map V.int = intsN ks := (intsN_ints ks).symm
theorem pdI_int (ks : List Nat) (n : Nat) : KL.pd (natL (intL ks)) n = KL.pd ks n := by rw [nat_int]
/-- a drawn stand -/
structure StandL (cs : List Nat) : Prop where
  ne : cs ≠ []
  few : cs.length ≤ 15
  asc : cs.Pairwise (· < ·)
  mem : ∀ c ∈ cs, 1 ≤ c ∧ c ≤ 60
  h28 : ∀ n, 28 ≤ n → KL.pd cs n = true
  gaps : (openN cs 28).length ≤ 14
theorem StandL.pos {cs : List Nat} (h : StandL cs) : Psv cs := fun c hc => (h.mem c hc).1
theorem StandL.lot {cs : List Nat} (h : StandL cs) : Lotc (intL cs) := by
  refine ⟨?_, by simpa [intL] using h.few, asc_of ?_ ?_⟩
  · have := h.ne
    intro z
    exact this (List.map_eq_nil_iff.mp z)
  · unfold intL
    rw [List.pairwise_map]
    exact h.asc.imp fun q => by omega
  · intro d hd
    obtain ⟨c, hc, rfl⟩ := List.mem_map.mp hd
    have := h.mem c hc
    omega
theorem open_more {ks : List Nat} {m : Nat} (h : ∀ n, m ≤ n → KL.pd ks n = true) : ∀ d, openN ks (m + d) = openN ks m
  | 0 => rfl
  | d + 1 => by
    rw [← Nat.add_assoc, open_succ, open_more h d, if_pos (h _ (by omega)), List.append_nil]
theorem StandL.missed {cs : List Nat} (h : StandL cs) : missL (intL cs) = openN cs 28 := by
  have := open_more h.h28 3573
  rw [← this]
  unfold missL openN
  rw [nat_int]
theorem StandL.gcd {cs : List Nat} (h : StandL cs) : gcdI (intL cs) = 1 := by
  have d1 := KL.paid_dvd (cs := cs) (KL.gcdL_iff.mp (Nat.dvd_refl _)) (KL.paid_of 28 (h.h28 28 (by omega)))
  have d2 := KL.paid_dvd (cs := cs) (KL.gcdL_iff.mp (Nat.dvd_refl _)) (KL.paid_of 29 (h.h28 29 (by omega)))
  have := Nat.dvd_one.mp ((Nat.dvd_add_right d1).mp (show KL.gcdL cs ∣ 28 + 1 from d2))
  unfold gcdI
  rw [nat_int, this]
  rfl
theorem StandL.few_miss {cs : List Nat} (h : StandL cs) : (missL (intL cs)).length ≤ 14 := by
  rw [h.missed]
  exact h.gaps
theorem lean_pd {ks : List Nat} (hp : Psv ks) (n : Nat) : KL.pd (KL.leanN ks) n = KL.pd ks n := by
  have hsub : ∀ c ∈ KL.leanN ks, c ∈ ks := fun c hc => by
    rcases KL.fold_sub ks [] c hc with h | h
    · cases h
    · exact h
  rw [Bool.eq_iff_iff]
  constructor
  · exact fun h => KL.pd_of hp ((KL.paid_of n h).mono hsub)
  · intro h
    have key : ∀ {k}, KL.Paid ks k → KL.Paid (KL.leanN ks) k := fun {k} p => by
      induction p with
      | zero => exact .zero
      | add hc _ ih => exact ih.sum (KL.fold_pays ks [] _ hc)
    exact KL.pd_of (fun c hc => hp c (hsub c hc)) (key (KL.paid_of n h))
theorem StandL.lean_missed {cs : List Nat} (h : StandL cs) : missL (leanI (intL cs)) = missL (intL cs) := by
  unfold missL leanI
  rw [nat_int, nat_int]
  have : KL.pd (KL.leanN cs) = KL.pd cs := funext (lean_pd h.pos)
  rw [this]
theorem StandL.lean_gcd {cs : List Nat} (h : StandL cs) : gcdI (leanI (intL cs)) = 1 := by
  rw [gcd_lean, h.gcd]
/-- 1 is missed, where anything is -/
theorem one_open {ks : List Nat} {m : Nat} (hp : Psv ks) (h : openN ks m ≠ []) : 1 ∈ openN ks m := by
  obtain ⟨x, hx⟩ := List.exists_mem_of_ne_nil _ h
  obtain ⟨h1, h2⟩ := open_mem.1 hx
  have h0 := open_pos x hx
  refine open_mem.2 ⟨by omega, ?_⟩
  cases e : KL.pd ks 1 with
  | false => rfl
  | true =>
    have : ∀ k, KL.pd ks k = true := fun k => by
      induction k with
      | zero => exact pd_zero ks
      | succ k ih => exact pd_add hp ih e
    rw [this x] at h2
    cases h2
def plainTo (ks : List Nat) (i : Nat) : List Nat := ((List.range i).map (· + 1)).filter (irr ks)
theorem plainTo_succ (ks : List Nat) (i : Nat) : plainTo ks (i + 1) = plainTo ks i ++ (if irr ks (i + 1) = true then [i + 1] else []) := by
  unfold plainTo
  rw [List.range_succ, List.map_append, List.filter_append]
  cases h : irr ks (i + 1) <;> simp [h]
theorem plainTo_len (ks : List Nat) (i : Nat) : (plainTo ks i).length ≤ i := by
  have := List.length_filter_le (irr ks) ((List.range i).map (· + 1))
  rwa [List.length_map, List.length_range] at this
def splits (ks : List Nat) (t p : Nat) : Bool := KL.pd ks (p + 1) && KL.pd ks (t - (p + 1))
theorem irr_splits {ks : List Nat} {t : Nat} (h : KL.pd ks t = true) : irr ks t = true ↔ ¬ true ∈ (List.range (t / 2)).map (splits ks t) := by
  unfold irr
  rw [h, Bool.true_and, Bool.not_eq_true', List.any_eq_false, List.mem_map]
  constructor
  · rintro q ⟨p, hp, e⟩
    exact q p hp e
  · intro q p hp e
    exact q ⟨p, hp, e⟩
theorem row_open {ks ds : List Nat} {m : Nat} (h : rowB ks m = rowB ds m) : openN ks m = openN ds m := by
  unfold openN
  refine List.filter_congr fun n hn => ?_
  have hn' := List.mem_range.1 hn
  have a : (rowB ks m)[n]? = some _ := tabB_at hn'
  have b : (rowB ds m)[n]? = some _ := tabB_at hn'
  rw [h, b] at a
  have : KL.pd ds n = KL.pd ks n := by simpa using a
  rw [this]
def isF : V → Bool
  | .bl false => true
  | _ => false
theorem row_count (ks : List Nat) (m : Nat) : (rowB ks m).countP isF = (openN ks m).length := by
  unfold openN
  rw [← List.countP_eq_length_filter]
  show (tabB m (KL.pd ks)).countP isF = _
  unfold tabB
  rw [List.countP_map]
  congr 1
  funext n
  show isF (V.bl (KL.pd ks n)) = !(KL.pd ks n)
  cases KL.pd ks n <;> rfl
theorem flat_nats (xs : List Nat) : (intsN xs).all flatV = true := by
  rw [List.all_eq_true]
  intro v hv
  obtain ⟨k, _, rfl⟩ := List.mem_map.mp hv
  rfl
theorem in_nats {xs : List Nat} {k : Nat} (h : k ∈ xs) : inV (.int k) (intsN xs) = true := by
  unfold inV
  rw [List.any_eq_true]
  exact ⟨.int k, List.mem_map.mpr ⟨k, h, rfl⟩, by show ((k : Int) == (k : Int)) = true; simp⟩
theorem notin_nats {xs : List Nat} {k : Nat} (h : k ∉ xs) : inV (.int k) (intsN xs) = false := inV_no h
/-- what stays but at b and p -/
def But2 (b p : Addr) (H H' : Hp) : Prop := ∀ c o, c ≠ b → c ≠ p → H c = some o → H' c = some o
theorem stand_of {ks cs zs : List Nat} (hp : Psv ks) (hl : (openN ks 120).length ≤ 14) (hnd : cs.Nodup) (h15 : cs.length ≤ 15) (h1 : ∀ c ∈ plainN ks, c ∈ cs) (h2 : ∀ c ∈ cs, (1 ≤ c ∧ c ≤ 60) ∧ KL.pd ks c = true)
    (hz : zs.Perm cs) (hs : zs.Pairwise (· ≤ ·)) : StandL zs := by
  have h28 := gaps28 hp (by decide) hl
  have hpd : ∀ n, KL.pd zs n = KL.pd ks n := pays_between hp h28 (fun c hc => hz.mem_iff.2 (h1 c hc)) fun c hc => ⟨(h2 c (hz.mem_iff.1 hc)).1.1, (h2 c (hz.mem_iff.1 hc)).2⟩
  refine ⟨fun z => ?_, by rw [hz.length_eq]; exact h15, ?_, fun c hc => (h2 c (hz.mem_iff.1 hc)).1, fun n hn => by rw [hpd]; exact h28 n hn, ?_⟩
  · have := hpd 28
    rw [z, h28 28 (by omega), pd_nil] at this
    simp at this
  · exact (hs.and (hz.nodup_iff.2 hnd)).imp fun {a b} h => Nat.lt_of_le_of_ne h.1 h.2
  · rw [open_congr hpd, ← open_more h28 92]
    exact hl
/-! draws -/
def sp_l_rowS : Sp := fun vs H Q _ => ∃ (t : Addr) (ks : List Nat) (m : Nat), vs = [.ref t, .int m] ∧ (H t = some (.lst (intsN ks)) ∨ H t = some (.tup (intsN ks))) ∧ (∀ c ∈ ks, 1 ≤ c ∧ c ≤ 60) ∧ ks.length ≤ 100 ∧ m ≤ 1000 ∧
  ∀ l H', H l = none → Same H H' → H' l = some (.lst (rowB ks (m + 1))) → Q (.ref l) H'
def sp_l_behindS : Sp := fun vs H Q _ => ∃ (t : Addr) (ks : List Nat) (m n : Nat), vs = [.ref t, .int n] ∧ H t = some (.lst (rowB ks m)) ∧ Psv ks ∧ 0 < n ∧ n ≤ 1000 ∧ m ≤ 1000 ∧
  ∀ l H', H l = none → Same H H' → H' l = some (.lst (rowB (ks ++ [n]) m)) → Q (.ref l) H'
def sp_l_openS : Sp := fun vs H Q _ => ∃ (t : Addr) (ks : List Nat) (m : Nat), vs = [.ref t] ∧ H t = some (.lst (rowB ks m)) ∧ 1 ≤ m ∧ m ≤ 1000 ∧
  ∀ l H', H l = none → Same H H' → H' l = some (.lst (intsN (openN ks m))) → Q (.ref l) H'
def sp_l_plainS : Sp := fun vs H Q _ => ∃ (t : Addr) (ks : List Nat) (m : Nat), vs = [.ref t] ∧ H t = some (.lst (rowB ks m)) ∧ 61 ≤ m ∧ m ≤ 1000 ∧
  ∀ l H', H l = none → Same H H' → H' l = some (.lst (intsN (plainN ks))) → Q (.ref l) H'
def sp_l_drawnS : Sp := fun vs H Q _ => ∃ (b : Addr), vs = [.ref b] ∧ Bw H b ∧
  ∀ l cs H', H l = none → l ≠ b → StandL cs → H' l = some (.lst (intsN cs)) → Bw H' b → But b H H' → Q (.ref l) H'
/-! the program -/
def sp_stand_sums (C : Addr) : Sp := fun vs H Q _ => ∃ (p : Addr) (cs : List Int), vs = [.ref p] ∧ LotAt C H p cs ∧ gcdI cs = 1 ∧ (missL cs).length ≤ 14 ∧ ∀ q H', H q = none → Same H H' → H' q = some (.tup (intsN (missL cs))) → Q (.ref q) H'
def sp_left_missed : Sp := fun vs H Q _ => ∃ (t : Addr) (S : List Nat) (n : Nat), vs = [.ref t, .int n] ∧ H t = some (.tup (intsN S)) ∧ Psv S ∧ S.length ≤ 14 ∧
  ∀ q H', H q = none → Same H H' → H' q = some (.tup (intsN (leftM S n))) → Q (.ref q) H'
/-- what is known of stands, told by what they miss -/
structure Kn (H : Hp) (kvs : List (List L2.Key × V)) (S0 : List Nat) (L : List (List Nat)) : Prop where
  keys : kvs.map (·.1) = L.map kN
  nd : L.Nodup
  sub : ∀ s ∈ L, s.Sublist S0
  val : ∀ s v, valV kvs (kN s) = some v → ∃ t, v = .ref t ∧ H t = some (.tup [.bl (outc s).1, .int ((outc s).2 : Nat)])
def subs : List Nat → List (List Nat)
  | [] => [[]]
  | a :: r => subs r ++ (subs r).map (a :: ·)
theorem subs_mem : ∀ {l s : List Nat}, s.Sublist l → s ∈ subs l
  | [], s, h => by rw [List.sublist_nil.mp h]; simp [subs]
  | a :: r, s, h => by
    unfold subs
    rw [List.mem_append]
    rcases List.sublist_cons_iff.mp h with q | ⟨u, rfl, q⟩
    · exact .inl (subs_mem q)
    · exact .inr (List.mem_map.mpr ⟨u, subs_mem q, rfl⟩)
theorem subs_len : ∀ l : List Nat, (subs l).length = 2 ^ l.length
  | [] => rfl
  | a :: r => by
    unfold subs
    rw [List.length_append, List.length_map, subs_len r, List.length_cons, Nat.pow_succ]
    omega
theorem Kn.len {H kvs S0 L} (h : Kn H kvs S0 L) (h14 : S0.length ≤ 14) : kvs.length ≤ 16384 := by
  have e : kvs.length = L.length := by
    have := congrArg List.length h.keys
    rwa [List.length_map, List.length_map] at this
  have := KF.nodup_le h.nd fun s hs => subs_mem (h.sub s hs)
  rw [subs_len] at this
  have h2 : 2 ^ S0.length ≤ 2 ^ 14 := Nat.pow_le_pow_right (by decide) h14
  omega
theorem Kn.same {H H' kvs S0 L} (h : Kn H kvs S0 L) {d : Addr} (hd : H d = some (.dT kvs)) (s : But d H H') : Kn H' kvs S0 L :=
  ⟨h.keys, h.nd, h.sub, fun k v e => by
    obtain ⟨t, a, b⟩ := h.val k v e
    exact ⟨t, a, s _ _ (ne_of b hd (by intro z; cases z)) b⟩⟩
/-- tuples stay -/
def TupS (H H' : Hp) : Prop := ∀ t xs, H t = some (.tup xs) → H' t = some (.tup xs)
theorem TupS.trans {H H1 H2 : Hp} (a : TupS H H1) (b : TupS H1 H2) : TupS H H2 := fun t xs e => b t xs (a t xs e)
theorem TupS.of {H H' : Hp} (s : Same H H') : TupS H H' := fun t xs e => s _ _ e
theorem TupS.but {H H' : Hp} {d : Addr} {kvs : List (List L2.Key × V)} (hd : H d = some (.dT kvs)) (s : But d H H') : TupS H H' := fun t xs e => s _ _ (ne_of e hd (by intro z; cases z)) e
theorem TupS.upd {H : Hp} {D : Addr} {ys : List V} {o : HO} (h : H D = some (.lst ys)) : TupS H (upd H D o) := fun t xs e => (upd_ne (ne_of e h (by intro z; cases z))).trans e
theorem Kn.of {H H' kvs S0 L} (h : Kn H kvs S0 L) (s : TupS H H') : Kn H' kvs S0 L :=
  ⟨h.keys, h.nd, h.sub, fun k v e => by
    obtain ⟨t, a, b⟩ := h.val k v e
    exact ⟨t, a, s _ _ b⟩⟩
/-- what comes behind each name -/
def rsN (S : List Nat) : List (Bool × Nat) := S.map fun n => outc (leftM S n)
/-- at addresses -/
def RsAt (H : Hp) (ps : List Addr) (rs : List (Bool × Nat)) : Prop := ps.length = rs.length ∧ ∀ (j : Nat) (p : Addr) (r : Bool × Nat), ps[j]? = some p → rs[j]? = some r → H p = some (.tup [.bl r.1, .int (r.2 : Nat)])
theorem RsAt.of {H H' : Hp} {ps rs} (h : RsAt H ps rs) (s : TupS H H') : RsAt H' ps rs := ⟨h.1, fun j p r a b => s _ _ (h.2 j p r a b)⟩
theorem RsAt.nil (H : Hp) : RsAt H [] [] := ⟨rfl, fun j p r a _ => by simp at a⟩
theorem RsAt.snoc {H : Hp} {ps rs p r} (h : RsAt H ps rs) (e : H p = some (.tup [.bl r.1, .int (r.2 : Nat)])) : RsAt H (ps ++ [p]) (rs ++ [r]) := by
  refine ⟨by simp [h.1], fun j q u a b => ?_⟩
  by_cases hj : j < ps.length
  · rw [List.getElem?_append_left hj] at a
    rw [List.getElem?_append_left (h.1 ▸ hj)] at b
    exact h.2 j q u a b
  · have h1 := (List.getElem?_eq_some_iff.mp a).1
    rw [List.length_append, List.length_singleton] at h1
    have hj2 : j = ps.length := by omega
    subst hj2
    have e1 : p = q := by simpa using a
    rw [h.1] at b
    have e2 : r = u := by simpa using b
    rw [← e1, ← e2]
    exact e
theorem RsAt.at {H : Hp} {ps rs} (h : RsAt H ps rs) {j : Nat} {x : V} (e : (ps.map V.ref)[j]? = some x) : ∃ p r, x = .ref p ∧ rs[j]? = some r ∧ H p = some (.tup [.bl r.1, .int (r.2 : Nat)]) := by
  rw [List.getElem?_map] at e
  cases q : ps[j]? with
  | none => rw [q] at e; cases e
  | some p =>
    rw [q] at e
    have hj := (List.getElem?_eq_some_iff.mp q).1
    obtain ⟨r, hr⟩ : ∃ r, rs[j]? = some r := ⟨_, List.getElem?_eq_getElem (h.1 ▸ hj)⟩
    exact ⟨p, r, by simpa using e.symm, hr, h.2 j p r q hr⟩
def lostI (rs : List (Bool × Nat)) : List Int := ((rs.filter fun r => !r.1).map (·.2)).map fun (n : Nat) => (n : Int)
def lensI (rs : List (Bool × Nat)) : List Int := (rs.map (·.2)).map fun (n : Nat) => (n : Int)
theorem lostI_snoc {rs : List (Bool × Nat)} {i : Nat} {r : Bool × Nat} (h : rs[i]? = some r) : lostI (rs.take (i + 1)) = lostI (rs.take i) ++ (if r.1 = true then [] else [(r.2 : Int)]) := by
  have e : rs.take (i + 1) = rs.take i ++ [r] := by rw [List.take_add_one, h]; rfl
  unfold lostI
  rw [e, List.filter_append]
  cases q : r.1 <;> simp [q]
theorem lensI_snoc {rs : List (Bool × Nat)} {i : Nat} {r : Bool × Nat} (h : rs[i]? = some r) : lensI (rs.take (i + 1)) = lensI (rs.take i) ++ [(r.2 : Int)] := by
  have e : rs.take (i + 1) = rs.take i ++ [r] := by rw [List.take_add_one, h]; rfl
  unfold lensI
  rw [e]
  simp
theorem lostI_len (rs : List (Bool × Nat)) : (lostI rs).length ≤ rs.length := by
  unfold lostI
  rw [List.length_map, List.length_map]
  exact List.length_filter_le _ _
theorem outc_lost {S : List Nat} (hS : Psv S) (hn : S ≠ []) {m : Int} (h1 : m ∈ lostI (rsN S)) (h2 : ∀ y ∈ lostI (rsN S), m ≤ y) : (outc S).1 = true ∧ ((outc S).2 : Nat) = 1 + m := by
  rw [outc_eq hS hn]
  have hne : ((rsN S).filter fun r => !r.1).map (·.2) ≠ [] := fun z => by
    unfold lostI at h1
    rw [z] at h1
    cases h1
  have e : judge (rsN S) = (true, 1 + minL (((rsN S).filter fun r => !r.1).map (·.2))) := by
    unfold judge
    exact if_neg hne
  show (judge (rsN S)).1 = true ∧ (((judge (rsN S)).2 : Nat) : Int) = 1 + m
  rw [e]
  refine ⟨rfl, ?_⟩
  obtain ⟨k, hk, rfl⟩ := List.mem_map.mp h1
  have := minL_of hk fun x hx => by
    have := h2 (x : Int) (List.mem_map.mpr ⟨x, hx, rfl⟩)
    omega
  show ((1 + minL _ : Nat) : Int) = 1 + (k : Int)
  omega
theorem outc_none {S : List Nat} (hS : Psv S) (hn : S ≠ []) (h0 : lostI (rsN S) = []) {m : Int} (h1 : m ∈ lensI (rsN S)) (h2 : ∀ y ∈ lensI (rsN S), y ≤ m) : (outc S).1 = false ∧ ((outc S).2 : Nat) = 1 + m := by
  rw [outc_eq hS hn]
  have hne : ((rsN S).filter fun r => !r.1).map (·.2) = [] := by
    unfold lostI at h0
    exact List.map_eq_nil_iff.mp h0
  have e : judge (rsN S) = (false, 1 + maxL ((rsN S).map (·.2))) := by
    unfold judge
    exact if_pos hne
  show (judge (rsN S)).1 = false ∧ (((judge (rsN S)).2 : Nat) : Int) = 1 + m
  rw [e]
  refine ⟨rfl, ?_⟩
  obtain ⟨k, hk, rfl⟩ := List.mem_map.mp h1
  have := maxL_of hk fun x hx => by
    have := h2 (x : Int) (List.mem_map.mpr ⟨x, hx, rfl⟩)
    omega
  show ((1 + maxL _ : Nat) : Int) = 1 + (k : Int)
  omega
theorem kn_nil (H : Hp) (S0 : List Nat) : Kn H [] S0 [] := ⟨rfl, by simp, by simp, fun s v e => by cases e⟩
theorem putK_keys {κ : Type} [DecidableEq κ] (kvs : List (κ × V)) (k : κ) (v : V) : (putK kvs k v).map (·.1) = if k ∈ kvs.map (·.1) then kvs.map (·.1) else kvs.map (·.1) ++ [k] := by
  have ha : (kvs.any fun kv => decide (kv.1 = k)) = true ↔ k ∈ kvs.map (·.1) := by
    rw [List.any_eq_true, List.mem_map]
    exact ⟨fun ⟨x, hx, e⟩ => ⟨x, hx, by simpa using e⟩, fun ⟨x, hx, e⟩ => ⟨x, hx, by simpa using e⟩⟩
  unfold putK
  by_cases c : k ∈ kvs.map (·.1)
  · rw [if_pos (ha.2 c), if_pos c, List.map_map]
    refine List.map_congr_left fun x _ => ?_
    show (if x.1 = k then (x.1, v) else x).1 = x.1
    split <;> rfl
  · rw [if_neg (fun z => c (ha.1 z)), if_neg c, List.map_append]
    rfl
theorem Kn.put {H kvs S0 L} (h : Kn H kvs S0 L) {s : List Nat} {t : Addr} {d : Addr} {o : HO} (hs : s.Sublist S0) (ht : H t = some (.tup [.bl (outc s).1, .int ((outc s).2 : Nat)])) (hd : H d = some (.dT kvs)) :
    ∃ L', Kn (upd H d o) (putK kvs (kN s) (.ref t)) S0 L' := by
  have nt : t ≠ d := ne_of ht hd (by intro z; cases z)
  have hv : ∀ s' v, valV (putK kvs (kN s) (.ref t)) (kN s') = some v → ∃ t, v = .ref t ∧ upd H d o t = some (.tup [.bl (outc s').1, .int ((outc s').2 : Nat)]) := fun s' v e => by
    rw [valV_put] at e
    by_cases c : kN s' = kN s
    · rw [if_pos c] at e
      cases e
      rw [kN_inj c]
      exact ⟨t, rfl, (upd_ne nt).trans ht⟩
    · rw [if_neg c] at e
      obtain ⟨t', a, b⟩ := h.val s' v e
      exact ⟨t', a, (upd_ne (ne_of b hd (by intro z; cases z))).trans b⟩
  have hmem : kN s ∈ kvs.map (·.1) ↔ s ∈ L := by
    rw [h.keys, List.mem_map]
    exact ⟨fun ⟨u, hu, e⟩ => kN_inj e ▸ hu, fun q => ⟨s, q, rfl⟩⟩
  by_cases c : s ∈ L
  · exact ⟨L, by rw [putK_keys, if_pos (hmem.2 c)]; exact h.keys, h.nd, h.sub, hv⟩
  · refine ⟨L ++ [s], by rw [putK_keys, if_neg (fun z => c (hmem.1 z)), h.keys, List.map_append]; rfl, List.nodup_append.mpr ⟨h.nd, by simp, fun a ha b hb e => ?_⟩, fun u hu => ?_, hv⟩
    · have : b = s := by simpa using hb
      exact c (this ▸ e ▸ ha)
    · rcases List.mem_append.1 hu with q | q
      · exact h.sub u q
      · have : u = s := by simpa using q
        exact this ▸ hs
theorem Kn.some {H kvs S0 L} (h : Kn H kvs S0 L) {s : List Nat} {v : V} (hs : s.Sublist S0) (e : valV kvs (kN s) = some v) : ∃ t, v = .ref t ∧ H t = some (.tup [.bl (outc s).1, .int ((outc s).2 : Nat)]) := h.val s v e
def sp_outcome (n : Nat) : Sp := fun vs H Q _ => ∃ (t d : Addr) (S S0 : List Nat) (kvs : List (List L2.Key × V)) (L : List (List Nat)), vs = [.ref t, .ref d] ∧ H t = some (.tup (intsN S)) ∧ S.Sublist S0 ∧ Psv S0 ∧ S0.length ≤ 14 ∧ S.length < n ∧ n ≤ 15 ∧ H d = some (.dT kvs) ∧ Kn H kvs S0 L ∧
  ∀ q kvs' L' H', q ≠ d → But d H H' → H' d = some (.dT kvs') → Kn H' kvs' S0 L' → H' q = some (.tup [.bl (outc S).1, .int ((outc S).2 : Nat)]) → Q (.ref q) H'
def sp_is_won (C : Addr) : Sp := fun vs H Q _ => ∃ (p : Addr) (cs : List Int), vs = [.ref p] ∧ LotAt C H p cs ∧ gcdI cs = 1 ∧ (missL cs).length ≤ 14 ∧ ∀ H', Same H H' → Q (.bl (outc (missL cs)).1) H'
def sp_is_quiet (C : Addr) : Sp := fun vs H Q _ => ∃ (p : Addr) (cs : List Int), vs = [.ref p] ∧ LotAt C H p cs ∧ gcdI cs = 1 ∧ (missL cs).length ≤ 14 ∧ ∀ H', Same H H' → Q (.bl (quietB (missL cs))) H'
def sp_l_quietS : Sp := fun vs H Q _ => ∃ (t : Addr) (ks : List Nat), vs = [.ref t] ∧ H t = some (.lst (rowB ks 28)) ∧ Psv ks ∧ ∀ H', Same H H' → Q (.bl (quietB (openN ks 28))) H'
def sp_l_evenS : Sp := fun vs H Q _ => ∃ (t : Addr) (ks : List Nat), vs = [.ref t] ∧ H t = some (.lst (rowB ks 28)) ∧ Psv ks ∧ ∀ (e : Bool) H', Same H H' → (e = true → quietB (openN ks 28) = true) → Q (.bl e) H'
def sp_l_askedS (C : Addr) : Sp := fun vs H Q _ => ∃ (t : Addr) (cs : List Nat), vs = [.ref t] ∧ (H t = some (.lst (intsN cs)) ∨ H t = some (.tup (intsN cs))) ∧ StandL cs ∧ ∀ H', Same H H' → Q (.bl true) H'
theorem miss_pos (cs : List Int) : Psv (missL cs) := fun n hn => by
  unfold missL at hn
  have h := (List.mem_filter.mp hn).2
  rcases Nat.eq_zero_or_pos n with z | z
  · rw [z, pd_zero] at h
    cases h
  · exact z
theorem outc_small {S : List Nat} (hS : Psv S) : (outc S).2 ≤ S.length := by
  have key : ∀ (k : Nat) (S : List Nat), Psv S → S.length ≤ k → (outc S).2 ≤ S.length := by
    intro k
    induction k with
    | zero =>
      intro S _ h
      rw [List.eq_nil_of_length_eq_zero (by omega : S.length = 0), outc_nil]
      exact Nat.le_refl _
    | succ k ih =>
      intro S hS hk
      by_cases e : S = []
      · subst e
        exact Nat.le_refl _
      · rw [outc_eq hS e]
        have all : ∀ r ∈ S.map fun n => outc (leftM S n), r.2 + 1 ≤ S.length := fun r hr => by
          obtain ⟨n, hn, rfl⟩ := List.mem_map.mp hr
          have := left_len hS hn
          have := ih (leftM S n) (left_pos hS) (by omega)
          omega
        unfold judge
        dsimp only
        split
        · have hne : (S.map fun n => outc (leftM S n)).map (·.2) ≠ [] := by simpa using e
          obtain ⟨r, hr, e2⟩ := List.mem_map.mp (maxL_in hne)
          have := all r hr
          show 1 + maxL _ ≤ S.length
          omega
        · rename_i hne
          obtain ⟨r, hr, e2⟩ := List.mem_map.mp (minL_is hne).1
          have := all r (List.mem_filter.mp hr).1
          show 1 + minL _ ≤ S.length
          omega
  exact key S.length S hS (Nat.le_refl _)
end Kx

/-! purses as keys; what can be left of a purse; one piece more -/
namespace Kx
open PySem L2 MG KM NT
/-- a purse as a key -/
def nk (m : List Nat) : NestedKey := .tup (m.map fun (n : Nat) => .num (n : Int))
theorem nk_inj {m m' : List Nat} (h : nk m = nk m') : m = m' := by
  injection h with h
  have := congrArg (List.map fun k => match k with | NestedKey.num z => z.toNat | _ => 0) h
  simpa [List.map_map, Function.comp_def] using this
theorem datas_nk : ∀ m : List Nat, NestedKey.datas (m.map fun (n : Nat) => .num (n : Int)) = m.map fun (n : Nat) => PyData.int (n : Int)
  | [] => rfl
  | a :: r => by
    show NestedKey.data (.num (a : Int)) :: NestedKey.datas (r.map fun (n : Nat) => .num (n : Int)) = _
    rw [datas_nk r]
    rfl
theorem depthAll_nk : ∀ m : List Nat, NestedKey.depthAll (m.map fun (n : Nat) => .num (n : Int)) ≤ 1
  | [] => by decide
  | a :: r => by
    have := depthAll_nk r
    show max (NestedKey.depth (.num (a : Int))) (NestedKey.depthAll _) ≤ 1
    exact Nat.max_le.mpr ⟨by first | decide | exact Nat.le_refl _ | exact Nat.zero_le _, this⟩
theorem nk_depth (m : List Nat) : (nk m).depth ≤ 8 := by
  have := depthAll_nk m
  show NestedKey.depthAll _ + 1 ≤ 8
  omega
theorem keysH_nk {K : PySem.W.Frag} {H : Hp} : ∀ m : List Nat, KeysH K H (m.map fun (n : Nat) => .num (n : Int)) (intsN m)
  | [] => rfl
  | a :: r => ⟨_, _, rfl, rfl, keysH_nk r⟩
theorem keyT_nk {K : PySem.W.Frag} {H : Hp} {a : Addr} {m : List Nat} (h : TqA H a (intsN m)) : KeyT K H (nk m) a := ⟨⟨a, _, rfl, h.t, keysH_nk m⟩, nk_depth m⟩
open PySem.W in
theorem alikeAll_nk : ∀ m m' : List Nat, alikeAll (m.map fun (n : Nat) => PyData.int (n : Int)) (m'.map fun (n : Nat) => PyData.int (n : Int)) = true
  | [], _ => by simp [alikeAll]
  | _ :: _, [] => by simp [alikeAll]
  | a :: r, b :: r' => by
    have := alikeAll_nk r r'
    simp [alikeAll, alike, this]
open PySem.W in
theorem can_nk {L : List (Addr × NestedKey)} (h : ∀ p ∈ L, ∃ m, p.2 = nk m) : CanTup L := by
  refine ⟨fun p hp q hq => ?_, fun p hp => ?_⟩
  · obtain ⟨m, e⟩ := h p hp
    obtain ⟨m', e'⟩ := h q hq
    rw [e, e']
    show alike (.tuple (NestedKey.datas _)) (.tuple (NestedKey.datas _)) = true
    rw [datas_nk, datas_nk]
    simp [alike, alikeAll_nk]
  · obtain ⟨m, e⟩ := h p hp
    exact ⟨NestedKey.datas (m.map fun (n : Nat) => .num (n : Int)), by rw [e]; rfl⟩
/-- rows as keys -/
def nks (R : List (Addr × List Nat)) : List (Addr × NestedKey) := R.map fun r => (r.1, nk r.2)
theorem nks_refs (R : List (Addr × List Nat)) : ((nks R).map fun p => V.ref p.1) = R.map fun r => V.ref r.1 := by
  unfold nks
  rw [List.map_map]
  rfl
theorem nks_mem {R : List (Addr × List Nat)} {p : Addr × NestedKey} : p ∈ nks R ↔ ∃ r ∈ R, p = (r.1, nk r.2) := by
  unfold nks
  rw [List.mem_map]
  exact ⟨fun ⟨r, h, e⟩ => ⟨r, h, e.symm⟩, fun ⟨r, h, e⟩ => ⟨r, h, e.symm⟩⟩
/-- rows that are keys of the table L, back -/
theorem nks_back {M : List (Addr × NestedKey)} (h : ∀ p ∈ M, ∃ m, p.2 = nk m) : ∃ R, M = nks R := by
  induction M with
  | nil => exact ⟨[], rfl⟩
  | cons p M ih =>
    obtain ⟨R, rfl⟩ := ih fun q hq => h q (by simp [hq])
    obtain ⟨m, e⟩ := h p (by simp)
    exact ⟨(p.1, m) :: R, by unfold nks; rw [List.map_cons, ← e]⟩
theorem few_nk {R : List (Addr × List Nat)} {ps : List Nat} (hl : ps.length ≤ 11) (h : ∀ r ∈ R, r.2.Sublist ps) : FewK (nks R) := by
  intro L nd hL
  obtain ⟨S, rfl⟩ := nks_back fun p hp => let ⟨r, _, e⟩ := nks_mem.mp (hL p hp); ⟨r.2, e ▸ rfl⟩
  have nd2 : (S.map (·.2)).Nodup := by
    unfold nks at nd
    rw [List.map_map] at nd
    have := List.Pairwise.of_map (R := (· ≠ ·)) (f := (nk : List Nat → NestedKey)) (l := S.map (·.2)) (S := (· ≠ ·)) (fun a b hne e => hne (congrArg nk e)) (by rw [List.map_map]; exact nd)
    exact this
  have := KF.nodup_le (m := subs ps) nd2 fun m hm => by
    obtain ⟨r, hr, rfl⟩ := List.mem_map.mp hm
    obtain ⟨r', hr', e⟩ := nks_mem.mp (hL _ (nks_mem.mpr ⟨r, hr, rfl⟩))
    have : r.2 = r'.2 := nk_inj (congrArg (·.2) e)
    exact subs_mem (this ▸ h r' hr')
  rw [subs_len, List.length_map] at this
  have h2 : 2 ^ ps.length ≤ 2 ^ 11 := Nat.pow_le_pow_right (by decide) hl
  have h3 : (nks S).length = S.length := by unfold nks; simp
  have h4 : 2 ^ 11 = 2048 := rfl
  omega
theorem rows_few {R : List (Addr × List Nat)} {ps : List Nat} {k : Nat} (hl : ps.length ≤ k) (nd : (R.map (·.2)).Nodup) (h : ∀ r ∈ R, r.2.Sublist ps) : R.length ≤ 2 ^ k := by
  have := KF.nodup_le (m := subs ps) nd fun m hm => by
    obtain ⟨r, hr, rfl⟩ := List.mem_map.mp hm
    exact subs_mem (h r hr)
  rw [subs_len, List.length_map] at this
  exact Nat.le_trans this (Nat.pow_le_pow_right (by decide) hl)
/-- one piece less -/
theorem less_one {m l : List Nat} (h : m.Sublist l) : m.length < l.length → ∃ m' : List Nat, m'.Sublist l ∧ m'.length = m.length + 1 ∧ ∃ k, k < m'.length ∧ m = m'.eraseIdx k := by
  induction h with
  | slnil => intro h; simp at h
  | @cons m l a h ih =>
    intro _
    exact ⟨a :: m, List.cons_sublist_cons.mpr h, rfl, 0, by simp, rfl⟩
  | @cons_cons m l a h ih =>
    intro hl
    obtain ⟨m', s, e, k, hk, em⟩ := ih (by simpa using hl)
    refine ⟨a :: m', List.cons_sublist_cons.mpr s, by simp [e], k + 1, by simp; omega, ?_⟩
    rw [List.eraseIdx_cons_succ, ← em]
theorem left_next {ps m : List Nat} {i : Nat} : (m.Sublist ps ∧ m.length + (i + 1) = ps.length) ↔ ∃ m' : List Nat, (m'.Sublist ps ∧ m'.length + i = ps.length) ∧ ∃ k, k < m'.length ∧ m = m'.eraseIdx k := by
  constructor
  · rintro ⟨s, e⟩
    obtain ⟨m', s', e', k, hk, em⟩ := less_one s (by omega)
    exact ⟨m', ⟨s', by omega⟩, k, hk, em⟩
  · rintro ⟨m', ⟨s, e⟩, k, hk, rfl⟩
    refine ⟨(List.eraseIdx_sublist _ _).trans s, ?_⟩
    rw [List.length_eraseIdx, if_pos hk]
    omega
/-- all of them held, by their number -/
theorem whole_len {m : List Nat} {zs : List Int} (hup : zs.Pairwise (· < ·)) (hm : ∀ z, z ∈ zs ↔ Price m [] z) : zs.length = m.sum + 1 ↔ KU.Whole m := by
  have hP : ∀ z, Price m [] z ↔ ∃ n : Nat, KU.Hs m n ∧ z = n := fun z => by
    constructor
    · rintro ⟨x, y, hx, hy, e⟩
      cases hy
      exact ⟨x, hx, by omega⟩
    · rintro ⟨n, hn, rfl⟩
      exact ⟨n, 0, hn, .nil, by omega⟩
  have nd : zs.Nodup := hup.imp fun h => Int.ne_of_lt h
  have sub : ∀ z ∈ zs, z ∈ (List.range (m.sum + 1)).map fun (n : Nat) => (n : Int) := fun z hz => by
    obtain ⟨n, hn, rfl⟩ := (hP z).mp ((hm z).mp hz)
    exact List.mem_map.mpr ⟨n, List.mem_range.mpr (by have := hn.le; omega), rfl⟩
  have h1 := KF.nodup_le nd sub
  rw [List.length_map, List.length_range] at h1
  constructor
  · intro e n hn
    refine Classical.byContradiction fun hno => ?_
    have hz : (n : Int) ∉ zs := fun hz => by
      obtain ⟨k, hk, e⟩ := (hP _).mp ((hm _).mp hz)
      have : k = n := by omega
      exact hno (this ▸ hk)
    have h2 := KF.nodup_le (m := (List.range (m.sum + 1)).map fun (n : Nat) => (n : Int)) (List.nodup_cons.mpr ⟨hz, nd⟩) fun z h => by
      rcases List.mem_cons.mp h with rfl | h
      · exact List.mem_map.mpr ⟨n, List.mem_range.mpr (by omega), rfl⟩
      · exact sub z h
    rw [List.length_map, List.length_range, List.length_cons] at h2
    omega
  · intro hw
    have h2 := KF.nodup_le (l := (List.range (m.sum + 1)).map fun (n : Nat) => (n : Int)) (m := zs) ?_ fun z h => by
      obtain ⟨n, hn, rfl⟩ := List.mem_map.mp h
      exact (hm _).mpr ((hP _).mpr ⟨n, hw n (by have := List.mem_range.mp hn; omega), rfl⟩)
    · rw [List.length_map, List.length_range] at h2
      omega
    · exact List.pairwise_map.mpr (List.nodup_range.imp fun h e => h (by omega))
theorem split_at (p : Nat) : ∀ {ps : List Nat}, ps.Pairwise (· ≤ ·) → ∃ A B, ps = A ++ B ∧ (∀ a ∈ A, a ≤ p) ∧ ∀ b ∈ B, p ≤ b
  | [], _ => ⟨[], [], rfl, by simp, by simp⟩
  | a :: r, h => by
    have hc := List.pairwise_cons.mp h
    by_cases e : a ≤ p
    · obtain ⟨A, B, e1, h1, h2⟩ := split_at p hc.2
      exact ⟨a :: A, B, by rw [e1]; rfl, fun x hx => (List.mem_cons.mp hx).elim (fun z => z ▸ e) (h1 x), h2⟩
    · refine ⟨[], a :: r, rfl, by simp, fun b hb => ?_⟩
      rcases List.mem_cons.mp hb with rfl | hb
      · omega
      · have := hc.1 b hb
        omega
theorem put_is {ps rs : List Nat} {p : Nat} (hs : ps.Pairwise (· ≤ ·)) (hp : rs.Perm (ps ++ [p])) (hr : rs.Pairwise (· ≤ ·)) : ∃ A B, ps = A ++ B ∧ rs = A ++ p :: B ∧ (∀ a ∈ A, a ≤ p) ∧ ∀ b ∈ B, p ≤ b := by
  obtain ⟨A, B, rfl, h1, h2⟩ := split_at p hs
  refine ⟨A, B, rfl, ?_, h1, h2⟩
  have hAB := List.pairwise_append.mp hs
  refine List.Perm.eq_of_pairwise (le := (· ≤ ·)) (fun a b _ _ h g => Nat.le_antisymm h g) hr ?_ (hp.trans ?_)
  · refine List.pairwise_append.mpr ⟨hAB.1, List.pairwise_cons.mpr ⟨h2, hAB.2.1⟩, fun a ha b hb => ?_⟩
    rcases List.mem_cons.mp hb with rfl | hb
    · exact h1 a ha
    · exact hAB.2.2 a ha b hb
  · rw [List.append_assoc]
    exact List.Perm.append_left A (by simpa using List.perm_append_comm (l₁ := B) (l₂ := [p]))
theorem full_put {ps rs : List Nat} {n p : Nat} (hs : ps.Pairwise (· ≤ ·)) (hf : Full ps n) (hn : n < ps.length) (hp : rs.Perm (ps ++ [p])) (hr : rs.Pairwise (· ≤ ·)) (hle : p ≤ 1 + (ps.take (ps.length - n)).sum) : Full rs n := by
  obtain ⟨A, B, rfl, rfl, h1, h2⟩ := put_is hs hp hr
  intro j a hj
  have hAl : ∀ k, k ≤ A.length → ((A ++ p :: B).take k) = ((A ++ B).take k) := fun k hk => by
    rw [List.take_append_of_le_length hk, List.take_append_of_le_length hk]
  by_cases e1 : j < A.length
  · rw [List.getElem?_append_left e1] at hj
    rw [hAl _ (by omega)]
    exact hf j a (by rw [List.getElem?_append_left e1]; exact hj)
  · rw [List.getElem?_append_right (by omega)] at hj
    by_cases e2 : j = A.length
    · rw [e2, Nat.sub_self] at hj
      cases (show p = a by simpa using hj)
      rw [hAl _ (by omega), e2]
      cases B with
      | nil => simpa using hle
      | cons b B =>
        have := hf A.length b (by rw [List.getElem?_append_right (Nat.le_refl _), Nat.sub_self]; rfl)
        have := h2 b (by simp)
        omega
    · obtain ⟨k, rfl⟩ : ∃ k, j = A.length + k + 1 := ⟨j - A.length - 1, by omega⟩
      rw [show A.length + k + 1 - A.length = k + 1 by omega, List.getElem?_cons_succ] at hj
      have h3 := hf (A.length + k) a (by rw [List.getElem?_append_right (by omega), show A.length + k - A.length = k by omega]; exact hj)
      have h4 : ((A ++ B).take (A.length + k - n)).sum ≤ ((A ++ p :: B).take (A.length + k + 1 - n)).sum := by
        by_cases e3 : A.length + k - n ≤ A.length
        · rw [← hAl _ e3]
          exact KU.take_mono (by omega)
        · obtain ⟨x, e4⟩ : ∃ x, A.length + k - n = A.length + x := ⟨A.length + k - n - A.length, by omega⟩
          rw [e4, show A.length + k + 1 - n = A.length + (x + 1) by omega, List.take_length_add_append, List.take_length_add_append, List.take_succ_cons, List.sum_append, List.sum_append, List.sum_cons]
          omega
      omega
theorem not_full_put {ps rs : List Nat} {n p : Nat} (hs : ps.Pairwise (· ≤ ·)) (hf : Full ps n) (hn : n < ps.length) (hp : rs.Perm (ps ++ [p])) (hr : rs.Pairwise (· ≤ ·)) (hle : 1 + (ps.take (ps.length - n)).sum < p) : ¬ Full rs n := by
  obtain ⟨A, B, rfl, rfl, h1, h2⟩ := put_is hs hp hr
  intro hg
  have hB : B = [] := by
    cases B with
    | nil => rfl
    | cons b B =>
      have h3 := hf A.length b (by rw [List.getElem?_append_right (Nat.le_refl _), Nat.sub_self]; rfl)
      have h4 := h2 b (by simp)
      have h5 := KU.take_mono (l := A ++ b :: B) (i := A.length - n) (j := (A ++ b :: B).length - n) (by rw [List.length_append]; omega)
      omega
  subst hB
  have := hg A.length p (by rw [List.getElem?_append_right (Nat.le_refl _), Nat.sub_self]; rfl)
  rw [List.append_nil] at hle
  rw [List.take_append_of_le_length (by omega)] at this
  omega
theorem full_snoc {ps : List Nat} {n p : Nat} (hf : Full ps n) (hle : p ≤ 1 + (ps.take (ps.length - n)).sum) : Full (ps ++ [p]) n := by
  intro j a hj
  by_cases e : j < ps.length
  · rw [List.getElem?_append_left e] at hj
    rw [List.take_append_of_le_length (by omega)]
    exact hf j a hj
  · rw [List.getElem?_append_right (by omega)] at hj
    have e0 : j = ps.length := by
      have := (List.getElem?_eq_some_iff.mp hj).1
      simp at this
      omega
    rw [e0, Nat.sub_self] at hj
    cases (show p = a by simpa using hj)
    rw [e0, List.take_append_of_le_length (by omega)]
    exact hle
/-- the greatest piece that may come -/
def mayC (ps : List Nat) (n : Nat) : Nat := min 1000 (1 + (ps.take (ps.length - n)).sum)
def sp_without_lastT : Sp := fun vs H Q _ => ∃ (t : Addr) (ps : List Nat) (k : Nat), vs = [.ref t, .int (k : Nat)] ∧ TqA H t (intsN ps) ∧ ps.length ≤ 12 ∧ k ≤ 11 ∧ ∀ H', Same H H' → Q (.int ((ps.take (ps.length - k)).sum : Nat)) H'
def sp_next_best : Sp := fun vs H Q _ => ∃ (t : Addr) (ps : List Nat) (k : Nat), vs = [.ref t, .int (k : Nat)] ∧ TqA H t (intsN ps) ∧ ps.length ≤ 12 ∧ k ≤ 11 ∧ ∀ H', Same H H' → Q (.int (mayC ps k : Nat)) H'
def sp_may_come : Sp := fun vs H Q _ => ∃ (t : Addr) (ps : List Nat) (k : Nat), vs = [.ref t, .int (k : Nat)] ∧ FT H t (intsN ps) ∧ PurseL ps ∧ k ≤ 11 ∧ k < ps.length ∧ Full ps k ∧ ps.length ≤ 11 ∧ ∀ H', Same H H' → Q (.int (mayC ps k : Nat)) H'
/-- what is drawn: full against n, or, if not strict, any pieces -/
def sp_l_grown42 : Sp := fun vs H Q _ => ∃ (g : Addr) (m n : Nat), vs = [.ref g, .int (m : Nat), .int (n : Nat), .bl true] ∧ Bw H g ∧ m ≤ 7 ∧ n ≤ 4 ∧
  ∀ q ps H', H q = none → q ≠ g → Bw H' g → But g H H' → FT H' q (intsN ps) → PurseL ps → ps.length = m → Full ps n → Q (.ref q) H'
/-- all that can be left, each once -/
def sp_l_left42 : Sp := fun vs H Q _ => ∃ (a : Addr) (ps : List Nat) (n : Nat), vs = [.ref a, .int (n : Nat)] ∧ TqA H a (intsN ps) ∧ ps.length ≤ 8 ∧ n ≤ 4 ∧ n < ps.length ∧
  ∀ (q : Addr) (R : List (Addr × List Nat)) H', H q = none → Same H H' → H' q = some (.lst (R.map fun (r : Addr × List Nat) => V.ref r.1)) → (∀ r ∈ R, TqA H' r.1 (intsN r.2)) → (∀ m, (∃ r ∈ R, r.2 = m) ↔ m.Sublist ps ∧ m.length + n = ps.length) → R.length ≤ 256 → Q (.ref q) H'
def sp_l_sums42 : Sp := fun vs H Q _ => ∃ (a : Addr) (ps : List Nat), vs = [.ref a] ∧ TqA H a (intsN ps) ∧ ps.length ≤ 8 ∧
  ∀ q (zs : List Int) H', H q = none → Same H H' → H' q = some (.lst (zs.map V.int)) → zs.Pairwise (· < ·) → (∀ z, z ∈ zs ↔ Price ps [] z) → zs.length ≤ 512 → Q (.ref q) H'
def sp_l_full42 : Sp := fun vs H Q _ => ∃ (a : Addr) (ps : List Nat) (n : Nat), vs = [.ref a, .int (n : Nat)] ∧ TqA H a (intsN ps) ∧ ps.Pairwise (· ≤ ·) ∧ ps.length ≤ 8 ∧ n ≤ 4 ∧
  ∀ b H', Same H H' → (b = true ↔ n < ps.length ∧ Full ps n) → Q (.bl b) H'
def sp_l_put42 : Sp := fun vs H Q _ => ∃ (a : Addr) (ps : List Nat) (p : Nat), vs = [.ref a, .int (p : Nat)] ∧ FT H a (intsN ps) ∧ ps.length ≤ 11 ∧
  ∀ q rs H', H q = none → Same H H' → FT H' q (intsN rs) → rs.Perm (ps ++ [p]) → rs.Pairwise (· ≤ ·) → Q (.ref q) H'
def sp_l_asked42 : Sp := fun vs H Q _ => ∃ (g a : Addr) (ps : List Nat) (n : Nat), vs = [.ref g, .ref a, .int (n : Nat)] ∧ Bw H g ∧ FT H a (intsN ps) ∧ PurseL ps ∧ ps.length ≤ 7 ∧ n ≤ 4 ∧ n < ps.length ∧ Full ps n ∧ a ≠ g ∧
  ∀ H', Bw H' g → But g H H' → Q (.bl true) H'
end Kx
namespace Kx
open PySem L2 MG KM NT
theorem _root_.L2.TqA.upd {H : Hp} {a p : Addr} {xs ys : List V} {o : HO} (h : TqA H a xs) (e : H p = some (.lst ys)) : TqA (upd H p o) a xs := by
  rcases h with h | ⟨od, h, hn⟩
  · exact .inl ((upd_ne (fun z => by rw [z, e] at h; cases h)).trans h)
  · exact .inr ⟨od, (upd_ne (fun z => by rw [z, e] at h; cases h)).trans h, hn⟩
theorem rows_sorted {F : List (Addr × List Nat)} {L M : List (Addr × NestedKey)} (h1 : ∀ p ∈ L, p ∈ nks F) (h2 : ∀ p ∈ nks F, p.2 ∈ L.map (·.2)) (nd : (L.map (·.2)).Nodup) (sd : Sd L M) :
    ∃ R : List (Addr × List Nat), M = nks R ∧ (∀ r ∈ R, r ∈ F) ∧ (∀ m, (∃ r ∈ R, r.2 = m) ↔ ∃ r ∈ F, r.2 = m) ∧ (R.map (·.2)).Nodup := by
  have hM : ∀ p ∈ M, p ∈ nks F := fun p hp => h1 p (sd.1.mem_iff.mp hp)
  obtain ⟨R, rfl⟩ := nks_back fun p hp => let ⟨r, _, e⟩ := nks_mem.mp (hM p hp); ⟨r.2, e ▸ rfl⟩
  have hRF : ∀ r ∈ R, r ∈ F := fun r hr => by
    obtain ⟨r', hr', e⟩ := nks_mem.mp (hM _ (nks_mem.mpr ⟨r, hr, rfl⟩))
    have e1 : r.1 = r'.1 := congrArg (·.1) e
    have e2 : r.2 = r'.2 := nk_inj (congrArg (·.2) e)
    have : r = r' := by cases r; cases r'; simp_all
    exact this ▸ hr'
  refine ⟨R, rfl, hRF, fun m => ⟨fun ⟨r, hr, e⟩ => ⟨r, hRF r hr, e⟩, ?_⟩, ?_⟩
  · rintro ⟨r, hr, rfl⟩
    obtain ⟨p, hp, e⟩ := List.mem_map.mp (h2 _ (nks_mem.mpr ⟨r, hr, rfl⟩))
    obtain ⟨r', hr', rfl⟩ := nks_mem.mp (sd.1.mem_iff.mpr hp)
    exact ⟨r', hr', nk_inj e⟩
  · have nd2 : ((nks R).map (·.2)).Nodup := (sd.1.map _).nodup_iff.mpr nd
    unfold nks at nd2
    rw [List.map_map] at nd2
    exact List.Pairwise.of_map (R := (· ≠ ·)) (f := (nk : List Nat → NestedKey)) (l := R.map (·.2)) (S := (· ≠ ·)) (fun a b hne e => hne (congrArg nk e)) (by rw [List.map_map]; exact nd2)
theorem nks_len (R : List (Addr × List Nat)) : (nks R).length = R.length := by unfold nks; simp
/-- a purse without one of its pieces -/
theorem cut_both (m : List Nat) (k : Nat) : intsN (m.take k) ++ intsN (m.drop (k + 1)) = intsN (m.eraseIdx k) := by
  rw [← intsN_append, List.eraseIdx_eq_take_drop_succ]
end Kx
namespace Kx
open PySem L2 MG KM NT
theorem left_fin {H3 Hc : Hp} {D pc : Addr} {G : List (Addr × List Nat)} {m : List Nat} {k : Nat} (nD : H3 D = none) (s : Same H3 Hc) (hG : Hc D = some (.lst (G.map fun r => V.ref r.1))) (hGt : ∀ g ∈ G, TqA Hc g.1 (intsN g.2)) (hGe : G.map (·.2) = (List.range k).map (m.eraseIdx ·)) (hpc : TqA Hc pc (intsN (m.eraseIdx k))) (hk : k < 100) :
    ∃ acc, Hc D = some (HO.lst acc) ∧ acc.length < sizeLine ∧ Same H3 (upd Hc D (HO.lst (acc ++ [V.ref pc]))) ∧
      ∃ G' : List (Addr × List Nat), upd Hc D (HO.lst (acc ++ [V.ref pc])) D = some (HO.lst (List.map (fun r => V.ref r.fst) G')) ∧ (∀ (a : Addr) (b : List Nat), (a, b) ∈ G' → TqA (upd Hc D (HO.lst (acc ++ [V.ref pc]))) a (intsN b)) ∧ List.map (fun x => x.snd) G' = List.map (fun x => m.eraseIdx x) (List.range (k + 1)) := by
  have hl : G.length = k := by
    have := congrArg List.length hGe
    simpa using this
  refine ⟨_, hG, Nat.lt_of_le_of_lt (show _ ≤ 100 by rw [List.length_map]; omega) (by decide), Same.updN s nD, G ++ [(pc, m.eraseIdx k)], ?_, fun a b hab => ?_, ?_⟩
  · rw [upd_same, List.map_append]
    rfl
  · rcases List.mem_append.mp hab with h | h
    · exact (hGt _ h).upd hG
    · cases (show (a, b) = (pc, m.eraseIdx k) by simpa using h)
      exact hpc.upd hG
  · rw [List.map_append, List.range_succ, List.map_append]
    exact congrArg (· ++ _) hGe
end Kx
namespace Kx
theorem left_more {R F G : List (PySem.Addr × List Nat)} {j : Nat} {r : PySem.Addr × List Nat} (hr : R[j]? = some r) (hF : ∀ m, (∃ r ∈ F, r.2 = m) ↔ ∃ r ∈ R.take j, ∃ k, k < r.2.length ∧ m = r.2.eraseIdx k) (hG : G.map (·.2) = (List.range r.2.length).map (r.2.eraseIdx ·)) (m : List Nat) :
    (∃ a, (a, m) ∈ F ++ G) ↔ ∃ a b, (a, b) ∈ R.take (j + 1) ∧ ∃ k, k < b.length ∧ m = b.eraseIdx k := by
  have hGm : (∃ a, (a, m) ∈ G) ↔ ∃ k, k < r.2.length ∧ m = r.2.eraseIdx k := by
    have : m ∈ G.map (·.2) ↔ m ∈ (List.range r.2.length).map (r.2.eraseIdx ·) := by rw [hG]
    rw [List.mem_map, List.mem_map] at this
    constructor
    · rintro ⟨a, h⟩
      obtain ⟨k, hk, e⟩ := this.mp ⟨_, h, rfl⟩
      exact ⟨k, List.mem_range.mp hk, e.symm⟩
    · rintro ⟨k, hk, e⟩
      obtain ⟨g, hg, e2⟩ := this.mpr ⟨k, List.mem_range.mpr hk, e.symm⟩
      exact ⟨g.1, e2 ▸ hg⟩
  rw [KW.take_succ_of' hr]
  constructor
  · rintro ⟨a, h⟩
    rcases List.mem_append.mp h with h | h
    · obtain ⟨r', hr', k, hk, e⟩ := (hF m).mp ⟨_, h, rfl⟩
      exact ⟨r'.1, r'.2, List.mem_append_left _ hr', k, hk, e⟩
    · obtain ⟨k, hk, e⟩ := hGm.mp ⟨a, h⟩
      exact ⟨r.1, r.2, List.mem_append_right _ (by simp), k, hk, e⟩
  · rintro ⟨a, b, h, k, hk, e⟩
    rcases List.mem_append.mp h with h | h
    · obtain ⟨f, hf, e2⟩ := (hF m).mpr ⟨_, h, k, hk, e⟩
      exact ⟨f.1, List.mem_append_left _ (e2 ▸ hf)⟩
    · have : (a, b) = r := by simpa using h
      subst this
      obtain ⟨a', h'⟩ := hGm.mpr ⟨k, hk, e⟩
      exact ⟨a', List.mem_append_right _ h'⟩
end Kx

/-! set of a list of ints: any length, not too many of them distinct -/
namespace MG
open PySem PySem.Spec PyProof.Rows L2
/-- few distinct ones -/
def FewI (ns : List Int) : Prop := ∀ L : List Int, L.Nodup → (∀ z ∈ L, z ∈ ns) → L.length ≤ 4094
section
variable {P : Program} {w : World} {A : Around} {E : Value → Shared → Prop} {s : Shared}
theorem setR_cnt {h : Heap} {a : Addr} {S : Int → Bool} {c : Nat} (R : SetR w h a S c) : ∃ L : List Int, L.Nodup ∧ L.length = c ∧ ∀ k, S k = true ↔ k ∈ L := by
  obtain ⟨_, es, _, _, _, _, _, _, nd, hm, _, _, hn, _⟩ := R
  exact ⟨es.toList.map keyOf, nd, by simpa using hn, hm⟩
theorem setR_few {h : Heap} {a : Addr} {ns : List Int} {i c : Nat} (few : FewI ns) (R : SetR w h a (fun j => decide (j ∈ ns.take i)) c) : c + 1 < scanBound := by
  obtain ⟨L, nd, hl, hm⟩ := setR_cnt R
  have := few L nd fun z hz => List.mem_of_mem_take (of_decide_eq_true ((hm z).mpr hz))
  exact Nat.lt_of_le_of_lt (show c + 1 ≤ 4095 by omega) (by decide)
theorem fillI {I : Addr} {fp wr : List Addr} {G : Array GenState → Array GenState → Prop} {n : Nat} {Pv : Nat → Value → Prop} {St : Nat → Shared → Prop} {R : Result → Shared → Prop}
    (W : WalksS P w A.in1 I fp wr G n Pv St) (S : Addr) (hSf : S ∉ fp) (ns : List Int) (hn : n = ns.length) (few : FewI ns) (val : ∀ i v, Pv i v → ∃ k t, ns[i]? = some k ∧ v = .int k t) :
    ∀ (k i : Nat) (s : Shared), n - i = k → i ≤ n → St i s → (∃ c, SetR w s.heap S (fun j => decide (j ∈ ns.take i)) c) →
      (∀ s' c, Moved (S :: wr) G s s' → SetR w s'.heap S (fun j => decide (j ∈ ns)) c → R (.ok (.ret .none)) s') →
      codeAny (model P w) A (.builtin "set.update.loop" ⟨[.ref S, .ref I], []⟩) R s := by
  have hSw : S ∉ wr := fun z => hSf (W.sub _ z)
  intro k
  induction k with
  | zero =>
    intro i s hki hi hst hc hR
    obtain ⟨c, hS⟩ := hc
    obtain rfl : i = n := by omega
    refine codeAny_builtin F.entry_set_update_loop ?_
    rw [Around.under_plainId F.plain_set_update_loop _]
    show wpAny _ A.in1 (pyNext (.ref I) >>= _) _ _ s
    refine wpAny_bind (W.done s _ _ hst fun s' hm => ?_)
    show wpAny _ A.in1 (ret Value.none) _ _ s'
    rw [hn, List.take_length] at hS
    exact wpAny_pure (hR s' c (hm.mono fun b hb => List.mem_cons_of_mem _ hb) (hS.at fun o e => hm.heap S o hSw e))
  | succ k ih =>
    intro i s hki hi hst hc hR
    obtain ⟨c, hS⟩ := hc
    refine codeAny_builtin F.entry_set_update_loop ?_
    rw [Around.under_plainId F.plain_set_update_loop _]
    show wpAny _ A.in1 (pyNext (.ref I) >>= _) _ _ s
    refine wpAny_bind (W.item i s _ _ (by omega) hst fun v s' hP hst' hm => ?_)
    obtain ⟨z, t, hz, rfl⟩ := val i v hP
    have hS' := hS.at (h' := s'.heap) fun o e => hm.heap S o hSw e
    show wpAny _ A.in1 (holding [Value.int z t] (setAdd S (.int z t)) >>= _) _ _ s'
    refine wpAny_bind (wpAny_holding ?_)
    unfold setAdd
    refine wpAny_holding (wpAny_bind ((intKind P w).pyHash (k := z) (intKind_is _ _ _ _) ?_))
    refine setR_add_hashed (s := { s' with toks := s'.toks + 1 }) hS' (setR_few few hS') fun h' hsb hS2 => ?_
    refine wpAny_pure ⟨plainId_quiet F.plain_set_update_loop _, ih (i + 1) _ (by omega) (by omega) (W.frame _ s' _ _ hst' (Nat.le_add_right _ _) fun b hb o e => ?_) ⟨_, hS2.congr fun j => ?_⟩ fun s'' c2 hm2 hS3 => ?_⟩
    · rw [hsb.2 b (fun z => hSf (z ▸ hb))]
      exact e
    · rw [List.take_add_one, hz]
      simp [List.mem_append]
    · refine hR s'' c2 (Moved.trans W.gtrans ((hm.mono fun b hb => List.mem_cons_of_mem _ hb).then_heap (Nat.le_add_right _ _) fun b o hb e => ?_) hm2) hS3
      rw [hsb.2 b (fun z => hb (by simp [z]))]
      exact e
theorem set_of_few {l : Addr} {items : Array Value} (ns : List Int) {Q : Value → Shared → Prop} (hh : A.handled = none) (hl : s.heap.IsList l items) (hit : IntsAre items.toList ns) (few : FewI ns)
    (h : ∀ (h' : Heap) (tk c : Nat), SetR w h' s.heap.objs.size (fun j => decide (j ∈ ns)) c → (∀ b o, s.heap.get? b = some o → h'.get? b = some o) → Q (.ref s.heap.objs.size) { s with heap := h', toks := tk }) :
    wpAny (model P w) A (call (.type "set") [.ref l]) Q E s := by
  have hisz : items.size = ns.length := (Array.length_toList ..).symm.trans (IntsAre.length hit)
  obtain ⟨c, tl, hmro⟩ := F.called_set.mro
  have hmade := F.called_set.made
  have hsub := F.called_set.sub
  refine wpAny_call (codeAny_of_tree ?_)
  show wpAny _ _ (callAny (.type "set") _) _ _ _
  refine wpAny_pure ⟨Code.quiet_builtin _ (by decide +kernel), codeAny_builtin F.entry_type_call ?_⟩
  rw [Around.under_plain (weight_type_call_type "set" [.ref l] []) rfl]
  have h1 := F.called_set.notType
  have h2 := F.called_set.canCreate
  have hct := F.typeCall_set_1 (.ref l)
  repeat (any_goals (first | assumption | wp_step))
  refine codeAny_mono (code_set_led1 (.ref l) (E := E) (Q₁ := fun ob s₁ => ob = .ref s.heap.objs.size ∧ s₁ = { s with heap := s.heap.push (emp w) }) ⟨rfl, rfl⟩) ?_
  intro r s₁ hr
  cases r with
  | error e => exact hr
  | ok fl =>
    cases fl with
    | ret ob =>
      obtain ⟨rfl, rfl⟩ := hr
      have hS : (s.heap.push (emp w)).get? s.heap.objs.size = some (emp w) := Heap.get?_push_size _ rfl
      have hT : Shared.TypeIs { s with heap := s.heap.push (emp w) } (.ref s.heap.objs.size) "set" := ⟨_, hS, rfl⟩
      have hli := F.called_set.init.lookup
      have hbi := F.called_set.init.bind (.ref s.heap.objs.size)
      repeat (any_goals (first | assumption | wp_step))
      refine codeAny_mono (codeAny_call_builtin (R := wants (fun r s₂ => r = .none ∧ ∃ h' tk c, s₂ = { s with heap := h', toks := tk } ∧ SetR w h' s.heap.objs.size (fun j => decide (j ∈ ns)) c ∧
          (∀ b o, s.heap.get? b = some o → h'.get? b = some o)) E) F.called_set.init.plain F.entry_set_init (check_set_init_1 hT ?_)) ?_
      · obtain ⟨⟨ocls, odict, odata, oslots⟩, hol, hcl, nl, hdl⟩ := hl
        simp only at hcl hdl
        subst hcl hdl
        have hol' : (s.heap.push (emp w)).get? l = some { cls := .type "list", dict := odict, data := .seq items nl, slots := oslots } := Heap.get?_push_of_some _ hol
        have hsls := F.sub_list_set
        have hslf := F.sub_list_frozenset
        have hne : (Value.type "list" == Value.type "dict") = false := by decide
        have hl1 : (s.heap.push (emp w)).IsList l items := ⟨_, hol', rfl, nl, rfl⟩
        unfold Builtin.«set.__init__» noKeywords Builtin.Frozenset.updateFrom
        generalize hPI : pyIter = PI
        wp_walk
        subst hPI
        refine wpAny_pyIter_list hl1 ?_
        refine wpAny_bind (wpAny_runValue ?_)
        have hlS : l < s.heap.objs.size := Heap.lt_size hol
        have hh3 : A.in1.in1.in1.handled = none := by simp [hh]
        have hz1 : (s.heap.push (emp w)).objs.size = s.heap.objs.size + 1 := Heap.size_push ..
        have hneI : l ≠ (s.heap.push (emp w)).objs.size := by
          rw [hz1]
          exact Nat.ne_of_lt (Nat.lt_succ_of_lt hlS)
        have hSf : s.heap.objs.size ∉ [(s.heap.push (emp w)).objs.size, l] := by
          rw [hz1]
          simp only [List.mem_cons, List.not_mem_nil, or_false, not_or]
          exact ⟨Nat.ne_of_lt (Nat.lt_succ_self _), Nat.ne_of_gt hlS⟩
        refine fillI ((Walks.list hh3 _ l hneI items).toS) s.heap.objs.size hSf ns hisz few (ints_val hit hisz) (items.size - 0) 0 _ (by omega) (Nat.zero_le _)
          ⟨⟨_, Heap.get?_push_size _ rfl, rfl, rfl⟩, (hl1.push _)⟩ ?hS0 ?hR
        case hS0 => exact ⟨0, setR_new_at (Heap.get?_push_of_some _ hS)⟩
        case hR =>
          intro s' c' hm hS'
          obtain ⟨h', g2, d', tk', os'⟩ := s'
          obtain rfl : g2 = s.gens := hm.gens
          obtain rfl : d' = s.drawn := hm.drawn
          obtain rfl : os' = s.os := hm.os
          show wpAny _ _ _ _ _ _
          refine wpAny_pure ?_
          show wpAny _ _ (ret Value.none) _ _ _
          refine wpAny_pure ⟨rfl, h', tk', c', rfl, hS', ?_⟩
          intro b o e
          have hb0 : b < s.heap.objs.size := Heap.lt_size e
          refine hm.heap b o ?_ (Heap.get?_push_of_some _ (Heap.get?_push_of_some _ e))
          rw [hz1]
          simp only [List.mem_cons, List.not_mem_nil, or_false, not_or]
          exact ⟨Nat.ne_of_lt hb0, Nat.ne_of_lt (Nat.lt_succ_of_lt hb0)⟩
      · intro r₂ s₂ hr₂
        cases r₂ with
        | error e => exact hr₂
        | ok fl₂ =>
          cases fl₂ with
          | ret r =>
            obtain ⟨rfl, h', tk, c', rfl, hS', hk'⟩ := hr₂
            repeat (any_goals (first | assumption | wp_step))
            exact h _ _ _ hS' hk'
          | _ => exact hr₂.elim
    | _ => exact hr.elim
end
section
variable {X : Cx}
def rSetLd (w : World) : List V → Hp → VK → Prop := fun vs H Q => ∃ (a : Addr) (ns : List Int), vs = [.ref a] ∧ H a = some (.lst (ns.map V.int)) ∧ FewI ns ∧
  ∀ p c, H p = none → Q (.ref p) (upd H p (SetO w p (fun j => decide (j ∈ ns)) c))
theorem set_Ld (hc : X.calm = true) : CallR X (.type "set") (rSetLd X.w) := by
  intro pins s σ H vs us Q I r h
  obtain ⟨a, ns, rfl, ha, hl, q⟩ := h
  obtain ⟨u, rfl, rx⟩ := vals1 r
  cases (show u = Value.ref a from rx)
  obtain ⟨its, rv, p, hz⟩ := I.list (a := a) (xs := ns.map V.int) (.inl (.inl ha))
  refine set_of_few ns (I.ok.hd hc) p.isList (by simpa using intsAre_of rv) hl ?_
  intro h' tk c hS hk
  exact ⟨.ref _, _, I.laid (t' := tk) hk (Nat.le_refl _) (setO_new hS), rfl, q _ c (I.hok.fresh (Nat.le_refl _))⟩
end
end MG

/-! sets that are as large as they can be: their members gathered, whatever their number -/
namespace MG
open PySem PySem.Spec PyProof.Rows L2
section
variable {P : Program} {w : World} {A : Around} {E : Value → Shared → Prop} {s : Shared} {a : Addr} {es : Array (Int × Value)} {ep : Nat} {t : SetTable}
/-- the iterator that the model makes for one of the three ways in which a set is walked -/
theorem it_any {Q : Value → Shared → Prop} (at_ : SetAt s.heap a es ep t) (fit : t.fits es.size = true) (few : es.size ≤ sizeLine) (ri : Ris t.place.toList)
    (led : w.params.followText "set-order" = true ∨ t.led = true) (k : ∀ s₂ I, SetIt P w s a es s₂ I → Q (.ref I) s₂) : wpAny (model P w) A (pyIter (.ref a)) Q E s := by
  obtain ⟨ob, at1, at2, at3⟩ := id at_
  have under : a < s.heap.objs.size := Heap.lt_size at1
  have ty : s.TypeIs (.ref a) "set" := ⟨ob, at1, at2⟩
  refine wpAny_pyIter_slot ty F.slot_set_iter (wpAny_call_entry F.slot_set_iter ty entry_s_iter ?_ (F.args_set_iter_1 _))
  unfold Builtin.«frozenset.__iter__»
  refine wpAny_bind (m := Builtin.Frozenset.slot0 "__iter__" _) (wpAny_of_eq (a := a) (by rfl) (wpAny_bind (m := Builtin.Frozenset.sizeOf a) ?_))
  unfold Builtin.Frozenset.sizeOf
  refine wpAny_bind (wpAny_setEntries_of at1 at3 fit (wpAny_pure ?_))
  first | refine wpAny_bind (setDrawn_at at_ fit ?_) | refine wpAny_bind (wpAny_bind (setDrawn_at at_ fit ?_))
  by_cases txt : w.params.followText "set-order" = true
  · -- by the told order
    refine wp_if_neg (by simp [txt]) ?_
    first | refine wpAny_bind (wpAny_pure ?_) | refine wpAny_pure ?_
    refine wpAny_bind (wpAny_setEpoch_of at1 at3 fit (wpAny_bind (wpAny_newObj_type (wpAny_pure ⟨_, rfl, "set_iterator", _, ⟨_, Heap.get?_push_size _ rfl, rfl⟩, slot_si_next.lookup, ?_⟩))))
    refine k _ _ (SetIt.of (fun A' none => walks_text (P := P) (ep := ep) none (Nat.ne_of_lt under) fit txt) (by rw [List.length_map, Array.length_toList]) (fun _ _ e => Heap.get?_push_of_some _ e) rfl rfl rfl (Nat.le_refl _)
      (fun b hb => ?_) ((pick_perm (w.params.setOrder a ep) es).map _) (fun j v q => by rw [List.getElem?_map, Array.getElem?_toList]; exact q) ⟨⟨_, Heap.get?_push_size _ rfl, rfl, rfl⟩, at_.at fun _ e => Heap.get?_push_of_some _ e⟩)
    simp only [List.mem_cons, List.not_mem_nil, or_false] at hb
    exact hb.elim (fun z => .inr (Nat.le_of_eq z.symm)) .inl
  have txtF : w.params.followText "set-order" = false := by simpa using txt
  have isLed : t.led = true := led.resolve_left txt
  by_cases dr : (!t.plain && decide (es.size > 1)) = true
  · -- in a drawn order
    refine wp_if_pos (by simp only [txtF, dr]; rfl) ?_
    refine wpAny_bind (drawOrder_at _ _ _ _ (Nat.le_of_eq List.length_range) fun ord d pm => ?_)
    have ol : ord.length = es.size := pm.length_eq.trans List.length_range
    have lim : (ord.map fun (n : Nat) => rawInt (n : Int)).length ≤ sizeLine := by rw [List.length_map, ol]; exact few
    first | refine wpAny_bind (wpAny_newTuple ?_ lim) | refine wpAny_newTuple ?_ lim
    generalize eh : s.heap.push { cls := .type "tuple", data := .seq (ord.map fun (n : Nat) => rawInt (n : Int)).toArray } = hp
    have up : ∀ b u, s.heap.get? b = some u → hp.get? b = some u := fun b u e => by rw [← eh]; exact Heap.get?_push_of_some _ e
    have hpz : hp.objs.size = s.heap.objs.size + 1 := by rw [← eh]; exact size_push' _ _
    have hpt : hp.get? s.heap.objs.size = some { cls := .type "tuple", data := .seq (ord.map fun (n : Nat) => rawInt (n : Int)).toArray } := by rw [← eh]; exact Heap.get?_push_size _ rfl
    refine wpAny_bind (wpAny_setEpoch_of (up _ _ at1) at3 fit (wpAny_bind (wpAny_newObj_type (wpAny_pure ⟨_, rfl, "set_iterator", _, ⟨_, Heap.get?_push_size _ rfl, rfl⟩, slot_si_next.lookup, ?_⟩))))
    have below : ∀ n ∈ ord, n < es.size := fun n hn => List.mem_range.mp (pm.mem_iff.mp hn)
    have ne1 : a ≠ hp.objs.size := by rw [hpz]; exact Nat.ne_of_lt (Nat.lt_succ_of_lt under)
    have ne2 : s.heap.objs.size ≠ hp.objs.size := by rw [hpz]; exact Nat.ne_of_lt (Nat.lt_succ_self _)
    have out : (ord.map fun q => ((es[q]?).map (·.2)).getD Value.none).Perm (es.toList.map (·.2)) := (range_map es).symm ▸ pm.map _
    refine k _ _ (SetIt.of (fun A' none => walks_drawn (P := P) (w := w) (ep := ep) (t := t) none ne1 ne2 fit below) (List.length_map _) (fun b u e => Heap.get?_push_of_some _ (up b u e)) rfl rfl rfl (by rw [hpz]; exact Nat.le_succ _)
      (fun b hb => ?_) out (fun j v q => ?_) ⟨⟨_, Heap.get?_push_size _ rfl, rfl, rfl⟩, at_.at fun u e => Heap.get?_push_of_some _ (up a u e), Heap.get?_push_of_some _ hpt⟩)
    · simp only [List.mem_cons, List.not_mem_nil, or_false] at hb
      rcases hb with rfl | rfl | rfl
      · exact .inr (by rw [hpz]; omega)
      · exact .inl rfl
      · exact .inr (Nat.le_refl _)
    · rw [List.getElem?_map]
      revert q
      cases ord[j]? with
      | none => exact fun q => nomatch q
      | some n => exact fun (q : (es[n]?).map (·.2) = some v) => congrArg some (show ((es[n]?).map (·.2)).getD Value.none = v by rw [q]; rfl)
  · -- as it is laid
    refine wp_if_neg (by rw [txtF]; simpa using dr) ?_
    first | refine wpAny_bind (wpAny_pure ?_) | refine wpAny_pure ?_
    refine wpAny_bind (wpAny_setEpoch_of at1 at3 fit (wpAny_bind (wpAny_newObj_type (wpAny_pure ⟨_, rfl, "set_iterator", _, ⟨_, Heap.get?_push_size _ rfl, rfl⟩, slot_si_next.lookup, ?_⟩))))
    refine k _ _ (SetIt.of (fun A' none => walks_led (P := P) (ep := ep) none (Nat.ne_of_lt under) fit ri txtF (by simpa using dr) isLed) (by rw [List.length_map, Array.length_toList]) (fun _ _ e => Heap.get?_push_of_some _ e) rfl rfl rfl (Nat.le_refl _)
      (fun b hb => ?_) (List.Perm.refl _) (fun j v q => by rw [List.getElem?_map, Array.getElem?_toList]; exact q) ⟨⟨_, Heap.get?_push_size _ rfl, rfl, rfl⟩, at_.at fun _ e => Heap.get?_push_of_some _ e⟩)
    simp only [List.mem_cons, List.not_mem_nil, or_false] at hb
    exact hb.elim (fun z => .inr (Nat.le_of_eq z.symm)) .inl
/-- the members, gathered into a list -/
theorem gather_any {Q : List Value → Shared → Prop} (calm : A.handled = none) (at_ : SetAt s.heap a es ep t) (fit : t.fits es.size = true) (few : es.size ≤ sizeLine) (ri : Ris t.place.toList)
    (led : w.params.followText "set-order" = true ∨ t.led = true)
    (k : ∀ s' vs, (∀ b u, s.heap.get? b = some u → s'.heap.get? b = some u) → s.heap.objs.size ≤ s'.heap.objs.size → s'.gens = s.gens → s'.os = s.os → vs.Perm (es.toList.map (·.2)) → Q vs s') :
    wpAny (model P w) A (collect (.ref a)) Q E s := by
  obtain ⟨ob, at1, at2, at3⟩ := id at_
  have under : a < s.heap.objs.size := Heap.lt_size at1
  generalize eL : s.heap.objs.size = L
  have neL : L ≠ a := eL ▸ Nat.ne_of_gt under
  unfold collect
  refine wpAny_bind (wpAny_runValue (codeAny_builtin F.entry_proto_collect ?_))
  rw [Around.under_plainId F.plain_proto_collect _]
  show wpAny _ A.in1 (newList [] >>= fun l => again (.builtin "list.__iadd__" ⟨[l, .ref a], []⟩)) _ _ s
  refine wpAny_bind (wpAny_newObj_type (wpAny_pure ⟨plainId_quiet F.plain_list_iadd _, codeAny_builtin F.entry_list_iadd ?_⟩))
  rw [Around.under_plainId F.plain_list_iadd _, eL]
  generalize eh : s.heap.push { cls := .type "list", data := .seq ([] : List Value).toArray } = hp
  have up : ∀ b u, s.heap.get? b = some u → hp.get? b = some u := fun b u e => by rw [← eh]; exact Heap.get?_push_of_some _ e
  have hL : hp.get? L = some { cls := .type "list", data := .seq ([] : List Value).toArray } := by rw [← eh, ← eL]; exact Heap.get?_push_size _ rfl
  have hz : hp.objs.size = L + 1 := by rw [← eh, ← eL]; exact size_push' _ _
  show wpAny _ A.in1 (Builtin.List.listExtendWith (.ref L) (.ref a) (.ref L)) _ _ _
  unfold Builtin.List.listExtendWith
  refine wpAny_bind (wpAny_typeOf (T := "set") ⟨ob, up _ _ at1, at2⟩ ?_)
  simp only [show Builtin.List.listSameRef (.ref L) (.ref a) = false by simp [Builtin.List.listSameRef, neL], show (Value.type "set" == Value.type "list") = false by decide, show (Value.type "set" == Value.type "tuple") = false by decide, Bool.or_false, Bool.false_eq_true, if_false]
  refine wpAny_bind (it_any (s := { s with heap := hp }) (at_.at fun u e => up a u e) fit few ri led fun s₂ I hit => ?_)
  obtain ⟨fp, St, vs, Pv, old, gens, os, _, hI, hfp, pm, walk, got, st⟩ := hit
  have hI2 : L + 1 ≤ I := hz ▸ hI
  have notL : L ∉ fp := fun m => by
    rcases hfp _ m with z | z
    · exact neL z
    · have z2 : L + 1 ≤ L := hz ▸ z
      omega
  have T2 : s₂.TypeIs (.ref a) "set" := ⟨ob, old a ob (up a ob at1), at2⟩
  refine wpAny_bind (wpAny_holding ?_)
  unfold Builtin.List.listLengthHint
  refine wpAny_bind (wpAny_specialOf T2 F.slot_set_len.lookup ?_)
  (generalize hid : ("set.__len__" : String) = id0; (fail_if_success (clear hid id0)); wp_delta; rw [show splitId id0 = some ("set", "__len__") from by subst hid; decide +kernel]; subst hid)
  refine wpAny_bind (wpAny_isInstance (b := true) T2 sub_set_self ?_)
  show wpAny _ A.in1 (typeOf (.ref a) >>= _) _ _ _
  refine wpAny_bind (wpAny_typeOf T2 (wpAny_pure ?_))
  show wpAny _ A.in1 (rule "list.extend.makes-room" >>= fun _ => Builtin.List.listTouch (.ref L) >>= fun _ => again (.builtin "list.extend.loop" ⟨[.ref L, .ref I, .ref L], []⟩)) _ _ _
  refine wpAny_bind (wpAny_rule (wpAny_bind ?_))
  show wpAny _ A.in1 (updateSeq L (·.push .none) >>= fun _ => updateSeq L (·.pop)) _ _ _
  have l2 := old _ _ hL
  have l3 := Heap.get?_update_self (Obj.mapSeq (·.push Value.none)) l2 rfl
  have l4 := Heap.get?_update_self (Obj.mapSeq (·.pop)) l3 rfl
  refine wpAny_bind (wpAny_updateSeq l2 rfl (wpAny_updateSeq l3 rfl ?_))
  generalize eh4 : (s₂.heap.update L (Obj.mapSeq (·.push Value.none))).update L (Obj.mapSeq (·.pop)) = h4 at l4 ⊢
  have rest : ∀ b u, b ≠ L → s₂.heap.get? b = some u → h4.get? b = some u := fun b u ne e => by
    rw [← eh4]
    exact (Heap.get?_update_other _ _ ne.symm).trans ((Heap.get?_update_other _ _ ne.symm).trans e)
  have lim : vs.length ≤ sizeLine := by rw [pm.length_eq, List.length_map, Array.length_toList]; exact few
  have W := walk A.in1 calm
  refine wpAny_pure ⟨plainId_quiet F.plain_extend_loop _, codeAny_extend_loopS W.toS lim _ notL _ vs.length 0 _ _ _ rfl (Nat.zero_le _) (W.frame 0 _ _ st fun b hb u e => rest b u (fun z => notL (z ▸ hb)) e) l4 (ItemsOf.nil Pv) fun s' acc c mv at' items => ?_⟩
  show wpAny _ A (load L >>= _) _ _ s'
  refine wpAny_bind (wpAny_load at' (wpAny_pure ?_))
  show Q acc.toList s'
  rw [items_out items got]
  refine k s' vs (fun b u e => ?_) (by rw [eL]; exact Nat.le_of_lt (Heap.lt_size at')) (Eq.trans mv.gens gens) (Eq.trans mv.os os) pm
  have hb : b < L := eL ▸ Heap.lt_size e
  refine mv.heap b u (fun z => ?_) (rest b u (Nat.ne_of_lt hb) (old b u (up b u e)))
  simp only [List.mem_cons, List.not_mem_nil, or_false] at z
  rcases z with rfl | rfl
  · exact Nat.lt_irrefl _ hb
  · exact absurd (Nat.lt_of_lt_of_le hb (Nat.le_of_succ_le hI2)) (Nat.lt_irrefl _)
end
end MG

/-! set of a list of at most 4096 ints, and sorted of it -/
namespace MG
open PySem PySem.Spec PyProof.Rows L2
/-- a set of ints, one more than can be added to -/
def SetRB (w : World) (h : Heap) (a : Addr) (S : Int → Bool) (n : Nat) : Prop :=
  ∃ o es ep t, h.get? a = some o ∧ o.ExactSet ∧ o.data = .set es ep t ∧ (∀ e ∈ es.toList, GoodE e) ∧ (es.toList.map keyOf).Nodup ∧ (∀ k, S k = true ↔ k ∈ es.toList.map keyOf) ∧
    es.size ≤ 4096 ∧ t.fits es.size = true ∧ es.size = n ∧ Ris t.place.toList ∧ (w.params.followText "set-order" = true ∨ t.led = true)
theorem setRB_of {w : World} {h : Heap} {a : Addr} {S : Int → Bool} {n : Nat} (R : SetR w h a S n) : SetRB w h a S n := by
  obtain ⟨o, es, ep, t, a1, a2, a3, a4, a5, a6, a7, r⟩ := R
  exact ⟨o, es, ep, t, a1, a2, a3, a4, a5, a6, Nat.le_of_lt a7, r⟩
theorem SetRB.at {w : World} {h h' : Heap} {a : Addr} {S : Int → Bool} {n : Nat} (R : SetRB w h a S n) (k : ∀ o, h.get? a = some o → h'.get? a = some o) : SetRB w h' a S n := by
  obtain ⟨o, es, ep, t, ho, r⟩ := R
  exact ⟨o, es, ep, t, k o ho, r⟩
theorem SetRB.congr {w : World} {h : Heap} {a : Addr} {S S' : Int → Bool} {n : Nat} (R : SetRB w h a S n) (e : ∀ k, S' k = S k) : SetRB w h a S' n := (funext e : S' = S) ▸ R
section
variable {P : Program} {w : World} {A : Around} {E : Value → Shared → Prop} {s : Shared} {a : Addr} {S : Int → Bool} {n : Nat}
/-- the rows are stored, and laid anew where the table is too full -/
theorem lay_big {g : Bool → Sem Unit} (hg : ∀ (b : Bool) (s₁ : Shared) (Q' : Unit → Shared → Prop), Q' () s₁ → wpAny (model P w) A (g b) Q' E s₁) {ob : Obj} {es rows : Array (Int × Value)} {ep : Nat} {t tb : SetTable} {S' : Int → Bool} {dummy : Bool} {R : Option Bool → Shared → Prop}
    (at1 : s.heap.get? a = some ob) (at2 : ob.ExactSet) (at3 : ob.data = .set es ep t) (good : ∀ e ∈ rows.toList, GoodE e) (nd : (rows.toList.map keyOf).Nodup) (mem : ∀ k, S' k = true ↔ k ∈ rows.toList.map keyOf) (few : rows.size ≤ 4096)
    (fit : tb.fits rows.size = true) (ri : Ris tb.place.toList) (led : w.params.followText "set-order" = true ∨ tb.led = true) (k : ∀ h', Heap.SameBut a s.heap h' → SetRB w h' a S' rows.size → R (some true) { s with heap := h' }) :
    wpAny (model P w) A (do
        storeSet a rows tb
        if (!dummy && tb.tooFull) = true then do
            g (relayAll tb rows (SetTable.grown rows.size)).2.2
            storeSet a (relayAll tb rows (SetTable.grown rows.size)).1 (relayAll tb rows (SetTable.grown rows.size)).2.1
            pure (some true)
          else pure (some true)) R E s := by
  have lim : rows.size ≤ sizeLine := Nat.le_trans few (by decide)
  have now := store_at (es' := rows) (t' := tb) at1 at3
  have same := Heap.SameBut.update s.heap a (Obj.putSet rows tb)
  refine wpAny_bind (wpAny_storeSet_of at1 at3 ?_ lim)
  by_cases full : (!dummy && tb.tooFull) = true
  · rw [if_pos full]
    have f1 := relayAll_perm tb rows (SetTable.grown rows.size)
    have f2 := relayAll_fits tb rows (SetTable.grown rows.size)
    have f3 := relayAll_ris tb rows (SetTable.grown rows.size)
    have f4 := relayAll_led tb rows (SetTable.grown rows.size)
    revert f1 f2 f3 f4
    generalize relayAll tb rows (SetTable.grown rows.size) = Z
    rcases Z with ⟨rows2, tb2, gave⟩
    dsimp only
    intro f1 f2 f3 f4
    have size2 : rows2.size = rows.size := by rw [← Array.length_toList, f1.length_eq, Array.length_toList]
    refine wpAny_bind (hg gave _ _ (wpAny_bind (wpAny_storeSet_of now rfl (wpAny_pure (k _ (same.trans (Heap.SameBut.update _ a _)) ?_)) (by rw [size2]; exact lim))))
    exact ⟨_, rows2, _, tb2, store_at (es' := rows2) (t' := tb2) now rfl, at2, rfl, fun e he => good e (f1.mem_iff.mp he), (f1.map keyOf).nodup_iff.mpr nd, fun i => (mem i).trans (f1.map keyOf).mem_iff.symm, by rw [size2]; exact few, f2, size2, f3, led.imp_right fun z => by rw [f4]; exact z⟩
  · rw [if_neg full]
    exact wpAny_pure (k _ same ⟨_, rows, _, tb, now, at2, rfl, good, nd, mem, few, fit, rfl, ri, led⟩)
theorem add_big {k : Int} {tk : Tok} {Q : Bool → Shared → Prop} (R : SetR w s.heap a S n) (then_ : ∀ h', Heap.SameBut a s.heap h' → SetRB w h' a (fun j => S j || decide (j = k)) (if S k = true then n else n + 1) → Q (!S k) { s with heap := h' }) :
    wpAny (model P w) A (setAddHashed a (.int k tk) ((intKind P w).hash k)) Q E s := by
  by_cases room : n + 1 < scanBound
  · exact setR_add_hashed R room fun h' sb r => then_ h' sb (setRB_of r)
  obtain ⟨ob, es, ep, t, at1, at2, at3, good, nd, mem, few, fit, cnt, ri, led⟩ := R
  have isK : (intKind P w).is k (.int k tk) = true := intKind_is P w k tk
  have sc : (Value.int k tk).scannable = true := rfl
  have els : ElemsOf (intKind P w) es.toList := good_elems good
  unfold setAddHashed setAddHashedIn
  refine wpAny_holding (wpAny_bind (wpAny_setState_of at1 at3 fit ?_))
  dsimp only
  rw [byScan_of sc few els]
  simp only [↓reduceIte]
  unfold setAddByScan
  refine wpAny_bind (wpAny_bind (wpAny_rule (wpAny_bind (wpAny_setScan_of isK at1 at3 fit els ?_))))
  cases found : List.findIdx? (fun e => (intKind P w).is k e.2) es.toList with
  | some j =>
    obtain ⟨jl, is_, _⟩ := List.findIdx?_eq_some_iff_getElem.mp found
    have have_ : S k = true := (mem k).2 ((good_mem (P := P) (w := w) good k).2 ⟨es.toList[j], List.getElem_mem jl, is_⟩)
    have q := then_ s.heap (Heap.SameBut.refl a s.heap) (setRB_of ⟨ob, es, ep, t, at1, at2, at3, good, nd, fun i => by
      rw [Bool.or_eq_true, decide_eq_true_eq, ← mem i]
      exact ⟨fun z => z.elim id (fun e => e ▸ have_), .inl⟩, few, fit, by rw [if_pos have_]; exact cnt, ri, led⟩)
    rw [have_] at q
    exact wpAny_pure (wpAny_pure q)
  | none =>
    dsimp only
    have new : k ∉ es.toList.map keyOf := fun z => by
      obtain ⟨e, he, q⟩ := (good_mem (P := P) (w := w) good k).1 z
      exact absurd q (by rw [List.findIdx?_eq_none_iff.mp found e he]; exact Bool.false_ne_true)
    have hasnt : S k = false := by
      cases q : S k with
      | false => rfl
      | true => exact absurd ((mem k).1 q) new
    have quiet : ∀ (b : Bool) (s₁ : Shared) (Q' : Unit → Shared → Prop), Q' () s₁ → wpAny (model P w) A (match b with | true => rule "set.scan.the-table-gave-way" | false => pure ()) Q' E s₁ :=
      fun b _ _ q => by cases b <;> first | exact wpAny_pure q | exact wpAny_rule q
    have f1 := layNew_perm t es ((intKind P w).hash k) (.int k tk)
    have f2 := layNew_fits t es ((intKind P w).hash k) (.int k tk)
    have f3 := layNew_ris t es ((intKind P w).hash k) (.int k tk) ri
    have f4 := layNew_led t es ((intKind P w).hash k) (.int k tk)
    revert f1 f2 f3 f4
    generalize layNew t es ((intKind P w).hash k) (.int k tk) = Z
    rcases Z with ⟨rows, tb, dummy, gave⟩
    dsimp only
    rw [Array.toList_push]
    intro f1 f2 f3 f4
    have p1 : rows.toList.Perm (((intKind P w).hash k, Value.int k tk) :: es.toList) := f1.trans (List.perm_append_singleton _ _)
    have p2 : (rows.toList.map keyOf).Perm (k :: es.toList.map keyOf) := p1.map keyOf
    have good2 : ∀ e ∈ rows.toList, GoodE e := fun e he => by
      rcases List.mem_cons.mp (p1.mem_iff.mp he) with rfl | z
      · exact ⟨k, tk, rfl, rfl⟩
      · exact good e z
    have nd2 : (rows.toList.map keyOf).Nodup := p2.nodup_iff.mpr (List.nodup_cons.mpr ⟨new, nd⟩)
    have mem2 : ∀ i, (S i || decide (i = k)) = true ↔ i ∈ rows.toList.map keyOf := fun i => by
      rw [p2.mem_iff, List.mem_cons, Bool.or_eq_true, decide_eq_true_eq, mem i]
      exact Or.comm
    have size2 : rows.size = n + 1 := by rw [← Array.length_toList, p1.length_eq, List.length_cons, Array.length_toList, cnt]
    have few2 : rows.size ≤ 4096 := by
      have : es.size < 4096 := few
      omega
    have led2 : w.params.followText "set-order" = true ∨ tb.led = true := led.imp_right fun z => by rw [f4]; exact z
    have fin : ∀ h', Heap.SameBut a s.heap h' → SetRB w h' a (fun j => S j || decide (j = k)) rows.size → Q true { s with heap := h' } := fun h' sb r => by
      have q := then_ h' sb
      rw [hasnt, if_neg Bool.false_ne_true] at q
      exact q (size2 ▸ r)
    refine wpAny_bind (quiet _ _ _ ?_)
    split
    · refine wpAny_bind ?_
      rw [hashByValue_scannable 8 sc]
      refine wpAny_pure ?_
      refine lay_big ?_ at1 at2 at3 good2 nd2 mem2 few2 ?_ ?_ ?_ ?_
      · exact fun b s₁ Q' q => by cases b <;> first | exact wpAny_pure q | exact wpAny_rule q
      · first | (split <;> first | exact f2 | exact SetTable.fits_plain_off f2) | exact f2
      · first | (split <;> exact f3) | exact f3
      · first | (split <;> exact led2) | exact led2
      · exact fun h' sb r => wpAny_pure (fin h' sb r)
    · refine wpAny_bind (wpAny_pure ?_)
      simp only [↓reduceIte]
      exact lay_big (fun b s₁ Q' q => by cases b <;> first | exact wpAny_pure q | exact wpAny_rule q) at1 at2 at3 good2 nd2 mem2 few2 f2 f3 led2 fun h' sb r => wpAny_pure (fin h' sb r)
end
end MG

/-! set(list) of at most 4096 ints; sorted of it -/
namespace MG
open PySem PySem.Spec PyProof.Rows L2
theorem setRB_lt {w : World} {h : Heap} {a : Addr} {S : Int → Bool} {n : Nat} (R : SetRB w h a S n) (hn : n < 4096) : SetR w h a S n := by
  obtain ⟨o, es, ep, t, a1, a2, a3, a4, a5, a6, a7, a8, a9, r⟩ := R
  exact ⟨o, es, ep, t, a1, a2, a3, a4, a5, a6, by rw [a9]; exact hn, a8, a9, r⟩
section
variable {P : Program} {w : World} {A : Around} {E : Value → Shared → Prop} {s : Shared}
theorem fillB {I : Addr} {fp wr : List Addr} {G : Array GenState → Array GenState → Prop} {n : Nat} {Pv : Nat → Value → Prop} {St : Nat → Shared → Prop} {R : Result → Shared → Prop}
    (W : WalksS P w A.in1 I fp wr G n Pv St) (S : Addr) (hSf : S ∉ fp) (ns : List Int) (hn : n = ns.length) (few : ns.length ≤ 4096) (val : ∀ i v, Pv i v → ∃ k t, ns[i]? = some k ∧ v = .int k t) :
    ∀ (k i : Nat) (s : Shared), n - i = k → i ≤ n → St i s → (∃ c, c ≤ i ∧ SetRB w s.heap S (fun j => decide (j ∈ ns.take i)) c) →
      (∀ s' c, c ≤ n → Moved (S :: wr) G s s' → SetRB w s'.heap S (fun j => decide (j ∈ ns)) c → R (.ok (.ret .none)) s') →
      codeAny (model P w) A (.builtin "set.update.loop" ⟨[.ref S, .ref I], []⟩) R s := by
  have hSw : S ∉ wr := fun z => hSf (W.sub _ z)
  intro k
  induction k with
  | zero =>
    intro i s hki hi hst hc hR
    obtain ⟨c, hci, hS⟩ := hc
    obtain rfl : i = n := by omega
    refine codeAny_builtin F.entry_set_update_loop ?_
    rw [Around.under_plainId F.plain_set_update_loop _]
    show wpAny _ A.in1 (pyNext (.ref I) >>= _) _ _ s
    refine wpAny_bind (W.done s _ _ hst fun s' hm => ?_)
    show wpAny _ A.in1 (ret Value.none) _ _ s'
    rw [hn, List.take_length] at hS
    exact wpAny_pure (hR s' c hci (hm.mono fun b hb => List.mem_cons_of_mem _ hb) (hS.at fun o e => hm.heap S o hSw e))
  | succ k ih =>
    intro i s hki hi hst hc hR
    obtain ⟨c, hci, hS⟩ := hc
    refine codeAny_builtin F.entry_set_update_loop ?_
    rw [Around.under_plainId F.plain_set_update_loop _]
    show wpAny _ A.in1 (pyNext (.ref I) >>= _) _ _ s
    refine wpAny_bind (W.item i s _ _ (by omega) hst fun v s' hP hst' hm => ?_)
    obtain ⟨z, t, hz, rfl⟩ := val i v hP
    have hS' := hS.at (h' := s'.heap) fun o e => hm.heap S o hSw e
    show wpAny _ A.in1 (holding [Value.int z t] (setAdd S (.int z t)) >>= _) _ _ s'
    refine wpAny_bind (wpAny_holding ?_)
    unfold setAdd
    refine wpAny_holding (wpAny_bind ((intKind P w).pyHash (k := z) (intKind_is _ _ _ _) ?_))
    refine add_big (s := { s' with toks := s'.toks + 1 }) (setRB_lt hS' (by omega)) fun h' hsb hS2 => ?_
    refine wpAny_pure ⟨plainId_quiet F.plain_set_update_loop _, ih (i + 1) _ (by omega) (by omega) (W.frame _ s' _ _ hst' (Nat.le_add_right _ _) fun b hb o e => ?_) ⟨_, ?_, hS2.congr fun j => ?_⟩ fun s'' c2 hc2 hm2 hS3 => ?_⟩
    · rw [hsb.2 b (fun z => hSf (z ▸ hb))]
      exact e
    · split <;> omega
    · rw [List.take_add_one, hz]
      simp [List.mem_append]
    · refine hR s'' c2 hc2 (Moved.trans W.gtrans ((hm.mono fun b hb => List.mem_cons_of_mem _ hb).then_heap (Nat.le_add_right _ _) fun b o hb e => ?_) hm2) hS3
      rw [hsb.2 b (fun z => hb (by simp [z]))]
      exact e
theorem set_of_big {l : Addr} {items : Array Value} (ns : List Int) {Q : Value → Shared → Prop} (hh : A.handled = none) (hl : s.heap.IsList l items) (hit : IntsAre items.toList ns) (few : ns.length ≤ 4096)
    (h : ∀ (h' : Heap) (tk c : Nat), c ≤ ns.length → SetRB w h' s.heap.objs.size (fun j => decide (j ∈ ns)) c → (∀ b o, s.heap.get? b = some o → h'.get? b = some o) → Q (.ref s.heap.objs.size) { s with heap := h', toks := tk }) :
    wpAny (model P w) A (call (.type "set") [.ref l]) Q E s := by
  have hisz : items.size = ns.length := (Array.length_toList ..).symm.trans (IntsAre.length hit)
  obtain ⟨c, tl, hmro⟩ := F.called_set.mro
  have hmade := F.called_set.made
  have hsub := F.called_set.sub
  refine wpAny_call (codeAny_of_tree ?_)
  show wpAny _ _ (callAny (.type "set") _) _ _ _
  refine wpAny_pure ⟨Code.quiet_builtin _ (by decide +kernel), codeAny_builtin F.entry_type_call ?_⟩
  rw [Around.under_plain (weight_type_call_type "set" [.ref l] []) rfl]
  have h1 := F.called_set.notType
  have h2 := F.called_set.canCreate
  have hct := F.typeCall_set_1 (.ref l)
  repeat (any_goals (first | assumption | wp_step))
  refine codeAny_mono (code_set_led1 (.ref l) (E := E) (Q₁ := fun ob s₁ => ob = .ref s.heap.objs.size ∧ s₁ = { s with heap := s.heap.push (emp w) }) ⟨rfl, rfl⟩) ?_
  intro r s₁ hr
  cases r with
  | error e => exact hr
  | ok fl =>
    cases fl with
    | ret ob =>
      obtain ⟨rfl, rfl⟩ := hr
      have hS : (s.heap.push (emp w)).get? s.heap.objs.size = some (emp w) := Heap.get?_push_size _ rfl
      have hT : Shared.TypeIs { s with heap := s.heap.push (emp w) } (.ref s.heap.objs.size) "set" := ⟨_, hS, rfl⟩
      have hli := F.called_set.init.lookup
      have hbi := F.called_set.init.bind (.ref s.heap.objs.size)
      repeat (any_goals (first | assumption | wp_step))
      refine codeAny_mono (codeAny_call_builtin (R := wants (fun r s₂ => r = .none ∧ ∃ h' tk c, c ≤ ns.length ∧ s₂ = { s with heap := h', toks := tk } ∧ SetRB w h' s.heap.objs.size (fun j => decide (j ∈ ns)) c ∧
          (∀ b o, s.heap.get? b = some o → h'.get? b = some o)) E) F.called_set.init.plain F.entry_set_init (check_set_init_1 hT ?_)) ?_
      · obtain ⟨⟨ocls, odict, odata, oslots⟩, hol, hcl, nl, hdl⟩ := hl
        simp only at hcl hdl
        subst hcl hdl
        have hol' : (s.heap.push (emp w)).get? l = some { cls := .type "list", dict := odict, data := .seq items nl, slots := oslots } := Heap.get?_push_of_some _ hol
        have hsls := F.sub_list_set
        have hslf := F.sub_list_frozenset
        have hne : (Value.type "list" == Value.type "dict") = false := by decide
        have hl1 : (s.heap.push (emp w)).IsList l items := ⟨_, hol', rfl, nl, rfl⟩
        unfold Builtin.«set.__init__» noKeywords Builtin.Frozenset.updateFrom
        generalize hPI : pyIter = PI
        wp_walk
        subst hPI
        refine wpAny_pyIter_list hl1 ?_
        refine wpAny_bind (wpAny_runValue ?_)
        have hlS : l < s.heap.objs.size := Heap.lt_size hol
        have hh3 : A.in1.in1.in1.handled = none := by simp [hh]
        have hz1 : (s.heap.push (emp w)).objs.size = s.heap.objs.size + 1 := Heap.size_push ..
        have hneI : l ≠ (s.heap.push (emp w)).objs.size := by
          rw [hz1]
          exact Nat.ne_of_lt (Nat.lt_succ_of_lt hlS)
        have hSf : s.heap.objs.size ∉ [(s.heap.push (emp w)).objs.size, l] := by
          rw [hz1]
          simp only [List.mem_cons, List.not_mem_nil, or_false, not_or]
          exact ⟨Nat.ne_of_lt (Nat.lt_succ_self _), Nat.ne_of_gt hlS⟩
        refine fillB ((Walks.list hh3 _ l hneI items).toS) s.heap.objs.size hSf ns hisz few (ints_val hit hisz) (items.size - 0) 0 _ (by omega) (Nat.zero_le _)
          ⟨⟨_, Heap.get?_push_size _ rfl, rfl, rfl⟩, (hl1.push _)⟩ ?hS0 ?hR
        case hS0 => exact ⟨0, Nat.le_refl 0, setRB_of (setR_new_at (Heap.get?_push_of_some _ hS))⟩
        case hR =>
          intro s' c' hc' hm hS'
          obtain ⟨h', g2, d', tk', os'⟩ := s'
          obtain rfl : g2 = s.gens := hm.gens
          obtain rfl : d' = s.drawn := hm.drawn
          obtain rfl : os' = s.os := hm.os
          show wpAny _ _ _ _ _ _
          refine wpAny_pure ?_
          show wpAny _ _ (ret Value.none) _ _ _
          refine wpAny_pure ⟨rfl, h', tk', c', hisz ▸ hc', rfl, hS', ?_⟩
          intro b o e
          have hb0 : b < s.heap.objs.size := Heap.lt_size e
          refine hm.heap b o ?_ (Heap.get?_push_of_some _ (Heap.get?_push_of_some _ e))
          rw [hz1]
          simp only [List.mem_cons, List.not_mem_nil, or_false, not_or]
          exact ⟨Nat.ne_of_lt hb0, Nat.ne_of_lt (Nat.lt_succ_of_lt hb0)⟩
      · intro r₂ s₂ hr₂
        cases r₂ with
        | error e => exact hr₂
        | ok fl₂ =>
          cases fl₂ with
          | ret r =>
            obtain ⟨rfl, h', tk, c', hc', rfl, hS', hk'⟩ := hr₂
            repeat (any_goals (first | assumption | wp_step))
            exact h _ _ _ hc' hS' hk'
          | _ => exact hr₂.elim
    | _ => exact hr.elim
end
section
variable {X : Cx}
def SetB (w : World) (a : Addr) (S : Int → Bool) (n : Nat) : HO := .ext fun h => SetRB w h a S n
theorem setB_get {pins : List (Addr × Obj)} {σ : L2.St} {H : Hp} {s : Shared} {a : Addr} {S : Int → Bool} {n : Nat} (I : Inv X pins σ H s) (ha : H a = some (SetB X.w a S n)) : SetRB X.w s.heap a S n := (I.hok a _ ha).1
theorem setB_new {w : World} {P : Program} {H : Hp} {h : Heap} {a : Addr} {S : Int → Bool} {n : Nat} (R : SetRB w h a S n) : ObjOk P w H h a (SetB w a S n) := by
  obtain ⟨o, es, ep, t, ho, r⟩ := id R
  exact ⟨R, ⟨o, ho⟩, fun h1 h2 R1 k => SetRB.at R1 k⟩
/-- set of a list of ints, 4096 at most -/
def rSetBg (w : World) : List V → Hp → VK → Prop := fun vs H Q => ∃ (a : Addr) (ns : List Int), vs = [.ref a] ∧ H a = some (.lst (ns.map V.int)) ∧ ns.length ≤ 4096 ∧
  ∀ p c, H p = none → c ≤ ns.length → Q (.ref p) (upd H p (SetB w p (fun j => decide (j ∈ ns)) c))
theorem set_Bg (hc : X.calm = true) : CallR X (.type "set") (rSetBg X.w) := by
  intro pins s σ H vs us Q I r h
  obtain ⟨a, ns, rfl, ha, hl, q⟩ := h
  obtain ⟨u, rfl, rx⟩ := vals1 r
  cases (show u = Value.ref a from rx)
  obtain ⟨its, rv, p, hz⟩ := I.list (a := a) (xs := ns.map V.int) (.inl (.inl ha))
  refine set_of_big ns (I.ok.hd hc) p.isList (by simpa using intsAre_of rv) hl ?_
  intro h' tk c hcl hS hk
  exact ⟨.ref _, _, I.laid (t' := tk) hk (Nat.le_refl _) (setB_new hS), rfl, q _ c (I.hok.fresh (Nat.le_refl _)) hcl⟩
end
section
variable {P : Program} {w : World} {A : Around} {E : Value → Shared → Prop} {s : Shared}
theorem sorted_setBg {a : Addr} {S : Int → Bool} {n : Nat} {Q : Value → Shared → Prop} (hS : SetRB w s.heap a S n) (hh : A.handled = none)
    (h : ∀ (s' : Shared) (p : Nat) (out : Array Value) (c : Nat) (ns : List Int), (∀ (b : Addr) (o : Obj), s.heap.get? b = some o → s'.heap.get? b = some o) → s'.gens = s.gens → s'.os = s.os → s.heap.objs.size ≤ p → s'.heap.get? p = some (seqObj "list" out c) → IntsAre out.toList ns → List.Pairwise (fun x1 x2 => x1 < x2) ns → (∀ (k : Int), k ∈ ns ↔ S k = true) → ns.length = n → Q (Value.ref p) s') :
    wpAny (model P w) A (call (Value.builtin "sorted") [Value.ref a]) Q E s := by
  obtain ⟨o, es, ep, t, h1, h2, h3, h4, h5, h6, h7, h8, h9, h10, h11⟩ := hS
  refine PySem.Calls.call_function_entry kind_sorted plain_sorted entry_sorted (args_sorted1 _) ?_
  unfold Builtin.sorted
  have good : ∀ e ∈ es.toList, ∃ k tk, e.snd = Value.int k tk ∧ keyOf e = k := fun e he => by
    obtain ⟨k, tk, g1, _⟩ := h4 e he
    exact ⟨k, tk, g1, by unfold keyOf; rw [g1]⟩
  refine wpAny_bind (wpAny_pure ?_)
  refine wpAny_bind (gather_any (by simp [hh]) ⟨o, h1, h2.1, h3⟩ h8 (Nat.le_trans h7 (by decide)) h10 h11 fun s1 out hk hsz hg ho hp => ?_)
  have gv : ∀ v ∈ out, ∃ k tk, v = Value.int k tk := fun v hv => by
    obtain ⟨e, he, rfl⟩ := List.mem_map.mp (hp.mem_iff.mp hv)
    obtain ⟨k, tk, g1, _⟩ := good e he
    exact ⟨k, tk, g1⟩
  have hi := ints_of out gv
  have hpk : (out.map Builtin.Re.reRawOf).Perm (es.toList.map keyOf) := by
    refine (hp.map Builtin.Re.reRawOf).trans (List.Perm.of_eq ?_)
    rw [List.map_map]
    refine List.map_congr_left fun e he => ?_
    obtain ⟨k, tk, g1, g2⟩ := good e he
    rw [g2]
    show Builtin.Re.reRawOf e.snd = k
    rw [g1]
    rfl
  have hlen : out.length = n := by
    rw [hp.length_eq, List.length_map, Array.length_toList, h9]
  have hb : out.length ≤ sizeLine := by
    rw [hlen, ← h9]
    exact Nat.le_trans h7 (by decide)
  refine wpAny_bind (wpAny_newList ?_ hb)
  refine wpAny_bind (wpAny_holding (wpAny_call_entry slot_list_sort ⟨_, Heap.get?_push_size _ rfl, rfl⟩ entry_list_sort (list_sort_treeAny (n := 0) (vs := out) (Heap.get?_push_size _ rfl) hi hb fun out' ns' hi' hperm hord => ⟨_, rfl, ?_⟩) (args_list_sort _)))
  refine wpAny_pure ⟨_, rfl, ?_⟩
  have hsa : ((s1.heap.push { cls := Value.type "list", data := Data.seq out.toArray }).get? s1.heap.objs.size) = some (seqObj "list" out.toArray 0) := Heap.get?_push_size _ rfl
  obtain ⟨e, he⟩ := sortedHeap_at (out := out') hsa
  refine h _ _ out' e ns' (fun b ob eb => ?_) hg ho hsz he hi' ?_ (fun k => ?_) ?_
  · have lb : b < s1.heap.objs.size := Heap.lt_size (hk b ob eb)
    show (sortedHeap _ _ out out').get? b = some ob
    rw [sortedHeap_old (Nat.ne_of_lt lb) (by rw [size_push']; exact Nat.lt_succ_of_lt lb)]
    exact Heap.get?_push_of_some _ (hk b ob eb)
  · exact lt_of_le_nodup _ hord ((hperm.trans hpk).nodup_iff.mpr h5)
  · rw [(hperm.trans hpk).mem_iff]
    exact (h6 k).symm
  · rw [hperm.length_eq, List.length_map, hlen]
end
section
variable {X : Cx}
/-- sorted of a set of ints -/
def rSortedBg (w : World) : List V → Hp → VK → Prop := fun vs H Q => ∃ (a : Addr) (S : Int → Bool) (n : Nat), vs = [V.ref a] ∧ H a = some (SetB w a S n) ∧ ∀ (ns : List Int) (p : Addr), ns.Pairwise (· < ·) → (∀ k, k ∈ ns ↔ S k = true) → ns.length = n → H p = none → Q (.ref p) (upd H p (.lst (ns.map V.int)))
theorem sortedBg (hc : X.calm = true) : CallR X (.builtin "sorted") (rSortedBg X.w) := by
  intro pins s σ H vs us Q I r h
  obtain ⟨a, S, n, rfl, ha, q⟩ := h
  obtain ⟨u, rfl, rx⟩ := vals1 r
  cases (show u = Value.ref a from rx)
  refine sorted_setBg (setB_get I ha) (I.ok.hd hc) fun s' p out c ns hk hg ho hsz hp hi hord hiff hlen => ?_
  obtain ⟨h', g', d', t', o'⟩ := s'
  obtain rfl : g' = s.gens := hg
  obtain rfl : o' = s.os := ho
  have np : H p = none := I.hok.fresh hsz
  have hok' : HOk X.prog X.w (upd H p (.lst (ns.map V.int))) h' := I.hok.laid hk hsz (by
    refine ⟨?_, out.toList, c, vals_of_ints hi, hp⟩
    obtain ⟨o, es, ep, t, h1, h2, h3, h4, h5, h6, h7, h8, h9, h10, h11⟩ := setB_get I ha
    rw [List.length_map, hlen, ← h9]
    exact Nat.le_trans h7 (by decide))
  exact ⟨.ref p, upd H p (.lst (ns.map V.int)), I.call (ch := []) (Un.laid hk hsz np) hok' I.bare (fun b hb => by cases hb), rfl, q ns p hord hiff hlen np⟩
end
end MG

/-! k38: all that can be left of up to twelve pieces -/
namespace Kx
open PySem L2 MG KM NT
/-- the parts of one length, and how many there are -/
def subK : List Nat → Nat → List (List Nat)
  | _, 0 => [[]]
  | [], _ + 1 => []
  | a :: r, k + 1 => (subK r k).map (a :: ·) ++ subK r (k + 1)
def ch38 : Nat → Nat → Nat
  | _, 0 => 1
  | 0, _ + 1 => 0
  | n + 1, k + 1 => ch38 n k + ch38 n (k + 1)
theorem subK_len : ∀ (l : List Nat) (k : Nat), (subK l k).length = ch38 l.length k
  | [], 0 => rfl
  | _ :: _, 0 => rfl
  | [], _ + 1 => rfl
  | a :: r, k + 1 => by
    show ((subK r k).map (a :: ·) ++ subK r (k + 1)).length = ch38 r.length k + ch38 r.length (k + 1)
    rw [List.length_append, List.length_map, subK_len r k, subK_len r (k + 1)]
theorem subK_mem {m l : List Nat} (h : m.Sublist l) : m ∈ subK l m.length := by
  induction h with
  | slnil => exact List.mem_singleton.mpr rfl
  | @cons m l a h ih =>
    cases m with
    | nil => exact List.mem_singleton.mpr rfl
    | cons b m => exact List.mem_append_right _ ih
  | @cons_cons m l a h ih => exact List.mem_append_left _ (List.mem_map.mpr ⟨m, ih, rfl⟩)
theorem ch38_le : ∀ n, n < 13 → ∀ k, k < 13 → ch38 n k ≤ 924 := by decide +kernel
theorem rows_fewK {R : List (Addr × List Nat)} {ps : List Nat} {j : Nat} (hl : ps.length ≤ 12) (nd : (R.map (·.2)).Nodup) (h : ∀ r ∈ R, r.2.Sublist ps ∧ r.2.length = j) : R.length ≤ 924 := by
  by_cases z : R = []
  · rw [z]; exact Nat.zero_le _
  obtain ⟨r0, hr0⟩ := List.exists_mem_of_ne_nil _ z
  have hj : j ≤ 12 := by
    have h1 := (h r0 hr0).1.length_le
    have h2 := (h r0 hr0).2
    omega
  have := KF.nodup_le (m := subK ps j) nd fun m hm => by
    obtain ⟨r, hr, rfl⟩ := List.mem_map.mp hm
    have := subK_mem (h r hr).1
    rwa [(h r hr).2] at this
  rw [subK_len, List.length_map] at this
  exact Nat.le_trans this (ch38_le _ (by omega) _ (by omega))
theorem few_nkK {R : List (Addr × List Nat)} {ps : List Nat} {j : Nat} (hl : ps.length ≤ 12) (h : ∀ r ∈ R, r.2.Sublist ps ∧ r.2.length = j) : FewK (nks R) := by
  intro L nd hL
  obtain ⟨S, rfl⟩ := nks_back fun p hp => let ⟨r, _, e⟩ := nks_mem.mp (hL p hp); ⟨r.2, e ▸ rfl⟩
  have nd2 : (S.map (·.2)).Nodup := by
    unfold nks at nd
    rw [List.map_map] at nd
    exact List.Pairwise.of_map (R := (· ≠ ·)) (f := (nk : List Nat → NestedKey)) (l := S.map (·.2)) (S := (· ≠ ·)) (fun a b hne e => hne (congrArg nk e)) (by rw [List.map_map]; exact nd)
  have := rows_fewK (j := j) hl nd2 fun r hr => by
    obtain ⟨r', hr', e⟩ := nks_mem.mp (hL _ (nks_mem.mpr ⟨r, hr, rfl⟩))
    have : r.2 = r'.2 := nk_inj (congrArg (·.2) e)
    rw [this]
    exact h r' hr'
  have h3 : (nks S).length = S.length := by unfold nks; simp
  omega
def sp_l_grown38 : Sp := fun vs H Q _ => ∃ (g : Addr) (m n : Nat), vs = [.ref g, .int (m : Nat), .int (n : Nat), .bl false] ∧ Bw H g ∧ m ≤ 12 ∧ n ≤ 12 ∧
  ∀ q ps H', H q = none → q ≠ g → Bw H' g → But g H H' → FT H' q (intsN ps) → PurseL ps → ps.length = m → Q (.ref q) H'
def sp_l_left38 : Sp := fun vs H Q _ => ∃ (a : Addr) (ps : List Nat) (n : Nat), vs = [.ref a, .int (n : Nat)] ∧ TqA H a (intsN ps) ∧ ps.length ≤ 12 ∧ n ≤ 11 ∧ n < ps.length ∧
  ∀ (q : Addr) (R : List (Addr × List Nat)) H', H q = none → Same H H' → H' q = some (.lst (R.map fun (r : Addr × List Nat) => V.ref r.1)) → (∀ r ∈ R, TqA H' r.1 (intsN r.2)) → (∀ m, (∃ r ∈ R, r.2 = m) ↔ m.Sublist ps ∧ m.length + n = ps.length) → R.length ≤ 924 → Q (.ref q) H'
def sp_l_sums38 : Sp := fun vs H Q _ => ∃ (a : Addr) (ps : List Nat), vs = [.ref a] ∧ TqA H a (intsN ps) ∧ ps.length ≤ 12 ∧
  ∀ q (zs : List Int) H', H q = none → Same H H' → H' q = some (.lst (zs.map V.int)) → zs.Pairwise (· < ·) → (∀ z, z ∈ zs ↔ Price ps [] z) → zs.length ≤ 4096 → Q (.ref q) H'
def sp_l_full38 : Sp := fun vs H Q _ => ∃ (a : Addr) (ps : List Nat) (n : Nat), vs = [.ref a, .int (n : Nat)] ∧ TqA H a (intsN ps) ∧ ps.Pairwise (· ≤ ·) ∧ ps.length ≤ 12 ∧ n ≤ 11 ∧
  ∀ b H', Same H H' → (b = true ↔ n < ps.length ∧ Full ps n) → Q (.bl b) H'
def sp_l_asked38 : Sp := fun vs H Q _ => ∃ (a : Addr) (ps : List Nat) (n : Nat), vs = [.ref a, .int (n : Nat)] ∧ FT H a (intsN ps) ∧ PurseL ps ∧ n ≤ 11 ∧ ∀ H', Same H H' → Q (.bl true) H'
theorem Full.less {ps : List Nat} {n : Nat} (h : Full ps n) : Full ps (n - 1) := fun j a hj => by
  have h1 := h j a hj
  have h2 := KU.take_mono (l := ps) (i := j - n) (j := j - (n - 1)) (by omega)
  omega
def fullC (l : List Nat) (k : Nat) : Bool := (List.range l.length).all fun j => decide (l.getD j 0 ≤ 1 + (l.take (j - k)).sum)
theorem fullB38 {l : List Nat} {k : Nat} (h : fullC l k = true) : Full l k := by
  unfold fullC at h
  rw [List.all_eq_true] at h
  intro j a hj
  have hj1 := (List.getElem?_eq_some_iff.mp hj).1
  have := h j (List.mem_range.mpr hj1)
  rw [decide_eq_true_iff, List.getD_eq_getElem?_getD, hj] at this
  exact this
end Kx

-- SXEXT: rSetBg, rSortedBg, rLenA, rSumA, NT.rSetN, NT.rSortN, rExtend, rSetLw, rSortedSet, iAnyS, rMinT, rLtU, rIsiI, RZ.iZipA, tDNewK, tDGet, tDGet1, tDGet2, sDPut, rSortedDA, rSortedSetA, rCntT, iZipM, rSortTI, tBMF, rLenF, rSumF, rSetF, rTupF, tTupF, gUnl, tDisp, tPairs, tLock, iItems
namespace Kx
open PySem L2 MG KM
def top (i : Nat) : Stmt := PySem.Challenge.pw_mintlots_k38_whole_full_purses_by_all_lo.main.body.getD i (.Pass ⟨0, 0, 0, 0⟩)
section
variable {P : Program} {w : World} {K : PySem.W.Frag} {mg : Str → Option Value} {base : Heap} {f : Addr} {fd : FuncData} {C : Addr}
abbrev s_is_integer : Stmt := top 7
abbrev N_is_integer : List Str := ["value"]
theorem sc_is_integer : FnScope N_is_integer ["value"] (defScope s_is_integer) := ⟨rfl, rfl, rfl, by decide +kernel, rfl, by decide +kernel, by decide +kernel⟩
theorem ok_is_integer (F : FnP K "is_integer" "is_integer" s_is_integer f fd) (B : Bi mg) :
    FnOk P w K mg base CX0 1 f fd ["value"] sp_is_integer := by
  refine okF F sc_is_integer (fun vs H Q E h => by repeat (first | (obtain ⟨rfl, _⟩ := h; rfl) | obtain ⟨_, h⟩ := h)) (fun cdv A outer s H vs Q E hr h => ?_)
  obtain ⟨n, rfl, q⟩ := h
  refine ⟨_, (pss_one (ps_ret (pe_and (pe_callB call_isi (by rfl) B.b_isinstance (by decide +kernel) (pa_cons (pv 0) (pa_cons (pe_bltn (v := .ty "int") (by rfl) B.b_int (by decide +kernel) rfl) pa_nil))) (pe_one (pe_not (pe_callB call_isi (by rfl) B.b_isinstance (by decide +kernel) (pa_cons (pv 0) (pa_cons (pe_bltn (v := .ty "bool") (by rfl) B.b_bool (by decide +kernel) rfl) pa_nil)))))))), ?_⟩
  exact ⟨_, rfl, _, _, _, _, true, rfl, .ty _, .base (.int n), kit_ty (by decide +kernel), true, rfl, iteT ⟨_, rfl, _, _, _, _, false, rfl, .ty _, .base (.int n), kit_ty (by decide +kernel), false, rfl, q⟩⟩

abbrev s_is_between : Stmt := top 8
abbrev N_is_between : List Str := ["value", "low", "high"]
theorem sc_is_between : FnScope N_is_between ["value", "low", "high"] (defScope s_is_between) := ⟨rfl, rfl, rfl, by decide +kernel, rfl, by decide +kernel, by decide +kernel⟩
theorem ok_is_between (F : FnP K "is_between" "is_between" s_is_between f fd) (C_is_integer : Cal P w K mg base 1 "is_integer" ["value"] sp_is_integer) :
    FnOk P w K mg base CX0 2 f fd ["value", "low", "high"] sp_is_between := by
  refine okF F sc_is_between (fun vs H Q E h => by repeat (first | (obtain ⟨rfl, _⟩ := h; rfl) | obtain ⟨_, h⟩ := h)) (fun cdv A outer s H vs Q E hr h => ?_)
  obtain ⟨n, a, b, rfl, q⟩ := h
  refine ⟨_, (pss_one (ps_ret (pe_and (pe_cal C_is_integer hr (pa_cons (pv 0) pa_nil)) (pe_one (pe_chain op_le op_le (pv 1) (pv 0) (pv 2)))))), ?_⟩
  refine ⟨_, rfl, n, rfl, true, rfl, iteT ⟨_, rfl, _, rfl, a, n, rfl, rfl, _, rfl, ?_⟩⟩
  by_cases c : a ≤ n
  · rw [decide_eq_true c] at q ⊢
    exact iteT ⟨_, rfl, n, b, rfl, rfl, q⟩
  · rw [decide_eq_false c] at q ⊢
    exact iteF q

end
end Kx

-- SXEXT: rSetBg, rSortedBg, rLenA, rSumA, NT.rSetN, NT.rSortN, rExtend, rSetLw, rSortedSet, iAnyS, rMinT, rLtU, rIsiI, RZ.iZipA, tDNewK, tDGet, tDGet1, tDGet2, sDPut, rSortedDA, rSortedSetA, rCntT, iZipM, rSortTI, tBMF, rLenF, rSumF, rSetF, rTupF, tTupF, gUnl, tDisp, tPairs, tLock, iItems
namespace Kx
open PySem L2 MG KM
section
variable {P : Program} {w : World} {K : PySem.W.Frag} {mg : Str → Option Value} {base : Heap} {f : Addr} {fd : FuncData} {C : Addr}
abbrev s_is_purse : Stmt := top 11
abbrev N_is_purse : List Str := ["value", "ahead", "piece"]
theorem sc_is_purse : FnScope N_is_purse ["value"] (defScope s_is_purse) := ⟨rfl, rfl, rfl, by decide +kernel, rfl, by decide +kernel, by decide +kernel⟩
theorem ok_is_purse (F : FnP K "is_purse" "is_purse" s_is_purse f fd) (B : Bi mg) (c_MOST_PIECES : ∃ t, mg "MOST_PIECES" = some (.int (12) t)) (C_is_between : Cal P w K mg base 2 "is_between" ["value", "low", "high"] sp_is_between) (c_MOST_PIECE : ∃ t, mg "MOST_PIECE" = some (.int (1000) t)) :
    FnOk P w K mg base CX0 3 f fd ["value"] sp_is_purse := by
  refine okF F sc_is_purse (fun vs H Q E h => by repeat (first | (obtain ⟨rfl, _⟩ := h; rfl) | obtain ⟨_, h⟩ := h)) (fun cdv A outer s H vs Q E hr h => ?_)
  obtain ⟨t, ps, rfl, ht, hP, q⟩ := h
  obtain ⟨t_MOST_PIECES, d_MOST_PIECES⟩ := c_MOST_PIECES
  obtain ⟨t_MOST_PIECE, d_MOST_PIECE⟩ := c_MOST_PIECE
  refine ⟨_, (pss_cons (ps_if (PW.pt (pw_or (pt_not (pt_val (pe_callB call_isi (by rfl) B.b_isinstance (by decide +kernel) (pa_cons (pv 0) (pa_cons (pe_bltn (v := .ty "tuple") (by rfl) B.b_tuple (by decide +kernel) rfl) pa_nil))))) (pw_or1 (pt_cmpR op_gt (pe_callB len_F (by rfl) B.b_len (by decide +kernel) (pa_cons (pv 0) pa_nil)) (pe_glob (v := .int (12)) rfl d_MOST_PIECES ⟨_, rfl⟩) (nomark _)))))
      (pss_one (ps_ret pe_bl))
      pss_nil)
    (pss_cons (ps_set (i := 1) sc_is_purse.nd rfl (Or.inl rfl) pe_int)
    (pss_cons (ps_for PassesOwn.never rfl (pi_tup (pv 0)) (pg_name (i := 2) sc_is_purse.nd rfl (Or.inl rfl))
      (pss_cons (ps_if (pt_not (pt_val (pe_cal C_is_between hr (pa_cons (pv 2) (pa_cons (pv 1) (pa_cons (pe_glob (v := .int (1000)) rfl d_MOST_PIECE ⟨_, rfl⟩) pa_nil))))))
        (pss_one (ps_ret pe_bl))
        pss_nil)
      (pss_one (ps_set (i := 1) sc_is_purse.nd rfl (Or.inl rfl) (pv 2)))))
    (pss_one (ps_ret pe_bl))))), ?_⟩
  simp [tRet, tRetN, tSeq, tNext, tNever, tDrop, tIfS, tAsg, tPar, tAug, tAugS, gName, gNil, gCons, gTup, gSub, tAndV, tOrV, tNotV, tAnd, tOr, tNot, tB, tTest, tYes, tIf, tCall, tCallK, tCallN, tMake, tProp, tMeth, getSp, tCB, tCons, tNil, tVar, tC, tOp, tUn, tChain, tLst, tTup, tFld, sFld, tBM, tBM0, tSl, tPart, tNoPart, rI0, rI, rU, rEq, rNe, rIsi, tCut, tCutR, tCutS, rIntI, tSlH, tSlS, rSumH, rTupH, rSortH, tLstRg, tRg1, tRg2, rIxH, rIxHT, rLenH, rLenHT, rIxL, rIxT, rIx, rCat, rRep, rSetL, rAppend, rSum, rMax, rMin, rEqD, rNeD, rSlL, rPopAt, rSorted, rAll, rAny, rReprS, rNext, tCutT, rCatHT, rCatA, rSlA, RT.iRevA, scal, L2.start, List.replicate, and_assoc, CDiv, CMul, CPow, ipI, rSetBg, rSortedBg, rLenA, rSumA, NT.rSetN, NT.rSortN, rExtend, rSetLw, rSortedSet, iAnyS, rMinT, rLtU, rIsiI, RZ.iZipA, tDNewK, tDGet, tDGet1, tDGet2, sDPut, rSortedDA, rSortedSetA, rCntT, iZipM, rSortTI, tBMF, rLenF, rSumF, rSetF, rTupF, tTupF, gUnl, tDisp, tPairs, tLock, iItems]
  have hl : (intsN ps).length = ps.length := by unfold intsN; simp
  refine ⟨_, _, .ty _, ht.ty, .inr ⟨kit_ty (by decide +kernel), _, ht, ?_⟩⟩
  rw [if_neg (by have := hP.few; omega)]
  refine ⟨_, rfl, t, rfl, ⟨_, ht.t⟩, for_tup (xs := intsN ps) (fun i σ H' => ∃ (a : Nat) (v2 : Option V), σ = [some (.ref t), some (.int (a : Nat)), v2] ∧ H' = H ∧ 1 ≤ a ∧ ∀ j p, i ≤ j → ps[j]? = some p → a ≤ p) ⟨1, none, rfl, rfl, Nat.le_refl _, fun j p _ hj => (hP.mem p (List.mem_of_getElem? hj)).1⟩ (fun i σ H' _ ⟨_, _, _, e, _⟩ => by rw [e]; exact ht.t) ?_ ?_⟩
  · rintro i x σ H' hx ⟨a, v2, rfl, rfl, ha, hm⟩
    obtain ⟨p, hp, rfl⟩ := intsN_at hx
    have h1 := hm i p (Nat.le_refl _) hp
    have h2 := (hP.mem p (List.mem_of_getElem? hp)).2
    simp [tRet, tRetN, tSeq, tNext, tNever, tDrop, tIfS, tAsg, tPar, tAug, tAugS, gName, gNil, gCons, gTup, gSub, tAndV, tOrV, tNotV, tAnd, tOr, tNot, tB, tTest, tYes, tIf, tCall, tCallK, tCallN, tMake, tProp, tMeth, getSp, tCB, tCons, tNil, tVar, tC, tOp, tUn, tChain, tLst, tTup, tFld, sFld, tBM, tBM0, tSl, tPart, tNoPart, rI0, rI, rU, rEq, rNe, rIsi, tCut, tCutR, tCutS, rIntI, tSlH, tSlS, rSumH, rTupH, rSortH, tLstRg, tRg1, tRg2, rIxH, rIxHT, rLenH, rLenHT, rIxL, rIxT, rIx, rCat, rRep, rSetL, rAppend, rSum, rMax, rMin, rEqD, rNeD, rSlL, rPopAt, rSorted, rAll, rAny, rReprS, rNext, tCutT, rCatHT, rCatA, rSlA, RT.iRevA, scal, L2.start, List.replicate, and_assoc, CDiv, CMul, CPow, ipI, rSetBg, rSortedBg, rLenA, rSumA, NT.rSetN, NT.rSortN, rExtend, rSetLw, rSortedSet, iAnyS, rMinT, rLtU, rIsiI, RZ.iZipA, tDNewK, tDGet, tDGet1, tDGet2, sDPut, rSortedDA, rSortedSetA, rCntT, iZipM, rSortTI, tBMF, rLenF, rSumF, rSetF, rTupF, tTupF, gUnl, tDisp, tPairs, tLock, iItems, sp_is_between]
    rw [if_pos ⟨by omega, by omega⟩]
    refine ⟨p, rfl, by omega, fun j p' hj hp' => ?_⟩
    have hlt : i < j := by omega
    obtain ⟨hi, rfl⟩ := List.getElem?_eq_some_iff.mp hp
    obtain ⟨hj2, rfl⟩ := List.getElem?_eq_some_iff.mp hp'
    exact List.pairwise_iff_getElem.mp hP.up i j hi hj2 hlt
  · rintro σ H' ⟨a, v2, rfl, rfl, _⟩
    simp [tRet, tRetN, tSeq, tNext, tNever, tDrop, tIfS, tAsg, tPar, tAug, tAugS, gName, gNil, gCons, gTup, gSub, tAndV, tOrV, tNotV, tAnd, tOr, tNot, tB, tTest, tYes, tIf, tCall, tCallK, tCallN, tMake, tProp, tMeth, getSp, tCB, tCons, tNil, tVar, tC, tOp, tUn, tChain, tLst, tTup, tFld, sFld, tBM, tBM0, tSl, tPart, tNoPart, rI0, rI, rU, rEq, rNe, rIsi, tCut, tCutR, tCutS, rIntI, tSlH, tSlS, rSumH, rTupH, rSortH, tLstRg, tRg1, tRg2, rIxH, rIxHT, rLenH, rLenHT, rIxL, rIxT, rIx, rCat, rRep, rSetL, rAppend, rSum, rMax, rMin, rEqD, rNeD, rSlL, rPopAt, rSorted, rAll, rAny, rReprS, rNext, tCutT, rCatHT, rCatA, rSlA, RT.iRevA, scal, L2.start, List.replicate, and_assoc, CDiv, CMul, CPow, ipI, rSetBg, rSortedBg, rLenA, rSumA, NT.rSetN, NT.rSortN, rExtend, rSetLw, rSortedSet, iAnyS, rMinT, rLtU, rIsiI, RZ.iZipA, tDNewK, tDGet, tDGet1, tDGet2, sDPut, rSortedDA, rSortedSetA, rCntT, iZipM, rSortTI, tBMF, rLenF, rSumF, rSetF, rTupF, tTupF, gUnl, tDisp, tPairs, tLock, iItems, q]

abbrev s_check_purse : Stmt := top 12
abbrev N_check_purse : List Str := ["purse"]
theorem sc_check_purse : FnScope N_check_purse ["purse"] (defScope s_check_purse) := ⟨rfl, rfl, rfl, by decide +kernel, rfl, by decide +kernel, by decide +kernel⟩
theorem ok_check_purse (F : FnP K "check_purse" "check_purse" s_check_purse f fd) (C_is_purse : Cal P w K mg base 3 "is_purse" ["value"] sp_is_purse) :
    FnOk P w K mg base CX0 4 f fd ["purse"] sp_check_purse := by
  refine okF F sc_check_purse (fun vs H Q E h => by repeat (first | (obtain ⟨rfl, _⟩ := h; rfl) | obtain ⟨_, h⟩ := h)) (fun cdv A outer s H vs Q E hr h => ?_)
  obtain ⟨t, ps, rfl, ht, hP, q⟩ := h
  refine ⟨_, (pss_one (ps_if (pt_not (pt_val (pe_cal C_is_purse hr (pa_cons (pv 0) pa_nil))))
      (pss_one ps_never)
      pss_nil)), ?_⟩
  simp [tRet, tRetN, tSeq, tNext, tNever, tDrop, tIfS, tAsg, tPar, tAug, tAugS, gName, gNil, gCons, gTup, gSub, tAndV, tOrV, tNotV, tAnd, tOr, tNot, tB, tTest, tYes, tIf, tCall, tCallK, tCallN, tMake, tProp, tMeth, getSp, tCB, tCons, tNil, tVar, tC, tOp, tUn, tChain, tLst, tTup, tFld, sFld, tBM, tBM0, tSl, tPart, tNoPart, rI0, rI, rU, rEq, rNe, rIsi, tCut, tCutR, tCutS, rIntI, tSlH, tSlS, rSumH, rTupH, rSortH, tLstRg, tRg1, tRg2, rIxH, rIxHT, rLenH, rLenHT, rIxL, rIxT, rIx, rCat, rRep, rSetL, rAppend, rSum, rMax, rMin, rEqD, rNeD, rSlL, rPopAt, rSorted, rAll, rAny, rReprS, rNext, tCutT, rCatHT, rCatA, rSlA, RT.iRevA, scal, L2.start, List.replicate, and_assoc, CDiv, CMul, CPow, ipI, rSetBg, rSortedBg, rLenA, rSumA, NT.rSetN, NT.rSortN, rExtend, rSetLw, rSortedSet, iAnyS, rMinT, rLtU, rIsiI, RZ.iZipA, tDNewK, tDGet, tDGet1, tDGet2, sDPut, rSortedDA, rSortedSetA, rCntT, iZipM, rSortTI, tBMF, rLenF, rSumF, rSetF, rTupF, tTupF, gUnl, tDisp, tPairs, tLock, iItems]
  exact ⟨t, ps, rfl, ht, hP, rfl, q⟩

end
end Kx

-- SXEXT: rSetBg, rSortedBg, rLenA, rSumA, NT.rSetN, NT.rSortN, rExtend, rSetLw, rSortedSet, iAnyS, rMinT, rLtU, rIsiI, RZ.iZipA, tDNewK, tDGet, tDGet1, tDGet2, sDPut, rSortedDA, rSortedSetA, rCntT, iZipM, rSortTI, tBMF, rLenF, rSumF, rSetF, rTupF, tTupF, gUnl, tDisp, tPairs, tLock, iItems
namespace Kx
open PySem L2 MG KM
section
variable {P : Program} {w : World} {K : PySem.W.Frag} {mg : Str → Option Value} {base : Heap} {f : Addr} {fd : FuncData} {C : Addr}
abbrev s_without_last : Stmt := top 14
abbrev N_without_last : List Str := ["pieces", "lost"]
theorem sc_without_last : FnScope N_without_last ["pieces", "lost"] (defScope s_without_last) := ⟨rfl, rfl, rfl, by decide +kernel, rfl, by decide +kernel, by decide +kernel⟩
theorem ok_without_last (F : FnP K "without_last" "without_last" s_without_last f fd) (B : Bi mg) :
    FnOk P w K mg base CX0 1 f fd ["pieces", "lost"] sp_without_lastT := by
  refine okF F sc_without_last (fun vs H Q E h => by repeat (first | (obtain ⟨rfl, _⟩ := h; rfl) | obtain ⟨_, h⟩ := h)) (fun cdv A outer s H vs Q E hr h => ?_)
  obtain ⟨t, ps, k, rfl, ht, hl, hk, q⟩ := h
  refine ⟨_, (pss_one (ps_ret (pe_callB (sum_A rfl) (by rfl) B.b_sum (by decide +kernel) (pa_cons (pe_slice sl_tupA (pv 0) po_none (po_some (pe_callB (call_max2 rfl) (by rfl) B.b_max (by decide +kernel) (pa_cons pe_int (pa_cons (pe_op op_sub (pe_callB len_A (by rfl) B.b_len (by decide +kernel) (pa_cons (pv 0) pa_nil)) (pv 1)) pa_nil))))) pa_nil)))), ?_⟩
  simp [tRet, tRetN, tSeq, tNext, tNever, tDrop, tIfS, tAsg, tPar, tAug, tAugS, gName, gNil, gCons, gTup, gSub, tAndV, tOrV, tNotV, tAnd, tOr, tNot, tB, tTest, tYes, tIf, tCall, tCallK, tCallN, tMake, tProp, tMeth, getSp, tCB, tCons, tNil, tVar, tC, tOp, tUn, tChain, tLst, tTup, tFld, sFld, tBM, tBM0, tSl, tPart, tNoPart, rI0, rI, rU, rEq, rNe, rIsi, tCut, tCutR, tCutS, rIntI, tSlH, tSlS, rSumH, rTupH, rSortH, tLstRg, tRg1, tRg2, rIxH, rIxHT, rLenH, rLenHT, rIxL, rIxT, rIx, rCat, rRep, rSetL, rAppend, rSum, rMax, rMin, rEqD, rNeD, rSlL, rPopAt, rSorted, rAll, rAny, rReprS, rNext, tCutT, rCatHT, rCatA, rSlA, RT.iRevA, scal, L2.start, List.replicate, and_assoc, CDiv, CMul, CPow, ipI, rSetBg, rSortedBg, rLenA, rSumA, NT.rSetN, NT.rSortN, rExtend, rSetLw, rSortedSet, iAnyS, rMinT, rLtU, rIsiI, RZ.iZipA, tDNewK, tDGet, tDGet1, tDGet2, sDPut, rSortedDA, rSortedSetA, rCntT, iZipM, rSortTI, tBMF, rLenF, rSumF, rSetF, rTupF, tTupF, gUnl, tDisp, tPairs, tLock, iItems]
  refine ⟨_, ht, ?_⟩
  have em : (if k < (intsN ps).length then (((intsN ps).length : Int) - k) else 0) = ((ps.length - k : Nat) : Int) := by
    rw [intsN_len]
    split <;> omega
  rw [em]
  refine ⟨_, ht.t, fun _ e1 => ⟨ps.map fun (p : Nat) => (p : Int), by rw [← intsN_ints]; exact ht, ?_⟩, fun _ p np => ⟨(ps.take (ps.length - k)).map fun (p : Nat) => (p : Int), .inl ?_, ?_⟩⟩
  · have hm : ps.length ≤ ps.length - k := by
      unfold HT.sIx at e1
      dsimp only at e1
      rw [if_neg (by omega), intsN_len] at e1
      omega
    have := q H (Same.refl _)
    rw [List.take_of_length_le hm] at this
    rw [sum_castN]
    exact this
  · rw [upd_same, cut_take, intsN_take, intsN_ints]
  · rw [sum_castN]
    exact q _ (same_new np)

abbrev s_first_too_great : Stmt := top 15
abbrev N_first_too_great : List Str := ["purse", "lost", "at", "piece"]
theorem sc_first_too_great : FnScope N_first_too_great ["purse", "lost"] (defScope s_first_too_great) := ⟨rfl, rfl, rfl, by decide +kernel, rfl, by decide +kernel, by decide +kernel⟩
theorem ok_first_too_great (F : FnP K "first_too_great" "first_too_great" s_first_too_great f fd) (B : Bi mg) (C_without_last : Cal P w K mg base 1 "without_last" ["pieces", "lost"] sp_without_lastT) :
    FnOk P w K mg base CX0 2 f fd ["purse", "lost"] sp_first_too_great := by
  refine okF F sc_first_too_great (fun vs H Q E h => by repeat (first | (obtain ⟨rfl, _⟩ := h; rfl) | obtain ⟨_, h⟩ := h)) (fun cdv A outer s H vs Q E hr h => ?_)
  obtain ⟨t, ps, k, rfl, ht, hP, hk, q⟩ := h
  refine ⟨_, (pss_cons (ps_for PassesOwn.never rfl (pi_enumT (by rfl) B.b_enumerate (pa_cons (pv 0) pa_nil)) (pg_tup (by rfl) (pgs_cons (pg_name (i := 2) sc_first_too_great.nd rfl (Or.inl rfl)) (pgs_cons (pg_name (i := 3) sc_first_too_great.nd rfl (Or.inl rfl)) pgs_nil)))
      (pss_one (ps_if (pt_cmpR op_gt (pv 3) (pe_op op_add pe_int (pe_cal C_without_last hr (pa_cons (pe_slice sl_tupA (pv 0) po_none (po_some (pv 2))) (pa_cons (pv 1) pa_nil)))) (nomark _))
        (pss_one (ps_ret (pv 2)))
        pss_nil)))
    (pss_one (ps_ret pe_non))), ?_⟩
  simp [tRet, tRetN, tSeq, tNext, tNever, tDrop, tIfS, tAsg, tPar, tAug, tAugS, gName, gNil, gCons, gTup, gSub, tAndV, tOrV, tNotV, tAnd, tOr, tNot, tB, tTest, tYes, tIf, tCall, tCallK, tCallN, tMake, tProp, tMeth, getSp, tCB, tCons, tNil, tVar, tC, tOp, tUn, tChain, tLst, tTup, tFld, sFld, tBM, tBM0, tSl, tPart, tNoPart, rI0, rI, rU, rEq, rNe, rIsi, tCut, tCutR, tCutS, rIntI, tSlH, tSlS, rSumH, rTupH, rSortH, tLstRg, tRg1, tRg2, rIxH, rIxHT, rLenH, rLenHT, rIxL, rIxT, rIx, rCat, rRep, rSetL, rAppend, rSum, rMax, rMin, rEqD, rNeD, rSlL, rPopAt, rSorted, rAll, rAny, rReprS, rNext, tCutT, rCatHT, rCatA, rSlA, RT.iRevA, scal, L2.start, List.replicate, and_assoc, CDiv, CMul, CPow, ipI, rSetBg, rSortedBg, rLenA, rSumA, NT.rSetN, NT.rSortN, rExtend, rSetLw, rSortedSet, iAnyS, rMinT, rLtU, rIsiI, RZ.iZipA, tDNewK, tDGet, tDGet1, tDGet2, sDPut, rSortedDA, rSortedSetA, rCntT, iZipM, rSortTI, tBMF, rLenF, rSumF, rSetF, rTupF, tTupF, gUnl, tDisp, tPairs, tLock, iItems]
  refine ⟨_, rfl, t, _, rfl, ht.t, for_enT (xs := intsN ps) (fun i σ H' => ∃ v2 v3, σ = [some (.ref t), some (.int (k : Nat)), v2, v3] ∧ Same H H' ∧ ∀ j a, j < i → ps[j]? = some a → a ≤ 1 + (ps.take (j - k)).sum) ⟨none, none, rfl, Same.refl H, fun j a h => absurd h (Nat.not_lt_zero _)⟩ (fun i σ H' ⟨_, _, _, s, _⟩ => (ht.same s).t) ?_ ?_⟩
  · rintro i x T' σ H' hx ⟨v2, v3, rfl, s', hle⟩ hT
    obtain ⟨p, hp, rfl⟩ := intsN_at hx
    have hi : i < ps.length := (List.getElem?_eq_some_iff.mp hp).1
    have s2 : Same H (upd H' T' (.tup [.int (i : Nat), .int (p : Nat)])) := s'.trans (same_new hT)
    refine ⟨T', _, rfl, sqT upd_same, rfl, ?_⟩
    generalize upd H' T' (.tup [.int (i : Nat), .int (p : Nat)]) = Ha at s2 ⊢
    have hta := ht.same s2
    simp [tRet, tRetN, tSeq, tNext, tNever, tDrop, tIfS, tAsg, tPar, tAug, tAugS, gName, gNil, gCons, gTup, gSub, tAndV, tOrV, tNotV, tAnd, tOr, tNot, tB, tTest, tYes, tIf, tCall, tCallK, tCallN, tMake, tProp, tMeth, getSp, tCB, tCons, tNil, tVar, tC, tOp, tUn, tChain, tLst, tTup, tFld, sFld, tBM, tBM0, tSl, tPart, tNoPart, rI0, rI, rU, rEq, rNe, rIsi, tCut, tCutR, tCutS, rIntI, tSlH, tSlS, rSumH, rTupH, rSortH, tLstRg, tRg1, tRg2, rIxH, rIxHT, rLenH, rLenHT, rIxL, rIxT, rIx, rCat, rRep, rSetL, rAppend, rSum, rMax, rMin, rEqD, rNeD, rSlL, rPopAt, rSorted, rAll, rAny, rReprS, rNext, tCutT, rCatHT, rCatA, rSlA, RT.iRevA, scal, L2.start, List.replicate, and_assoc, CDiv, CMul, CPow, ipI, rSetBg, rSortedBg, rLenA, rSumA, NT.rSetN, NT.rSortN, rExtend, rSetLw, rSortedSet, iAnyS, rMinT, rLtU, rIsiI, RZ.iZipA, tDNewK, tDGet, tDGet1, tDGet2, sDPut, rSortedDA, rSortedSetA, rCntT, iZipM, rSortTI, tBMF, rLenF, rSumF, rSetF, rTupF, tTupF, gUnl, tDisp, tPairs, tLock, iItems]
    refine ⟨_, hta.t, fun _ e1 => ?_, fun _ p1 np => ?_⟩
    · exfalso
      unfold HT.sIx at e1
      dsimp only at e1
      rw [if_neg (by omega), intsN_len] at e1
      omega
    · refine ⟨p1, ps.take i, k, rfl, ?_, ?_, hk, fun H3 s3 => ⟨_, rfl, ?_⟩⟩
      · exact .inl (by rw [upd_same, cut_take, intsN_take])
      · have := hP.few
        rw [List.length_take]
        omega
      · have e : ((ps.take i).take ((ps.take i).length - k)) = ps.take (i - k) := by
          rw [List.length_take, List.take_take]
          congr 1
          omega
        rw [e]
        have s4 := s2.trans ((same_new np).trans s3)
        split
        · rename_i hgt
          exact q _ H3 s4 (.inr ⟨⟨i, rfl⟩, fun hf => by have := hf i p hp; omega⟩)
        · rename_i hgt
          refine ⟨s4, fun j a hj ha => ?_⟩
          by_cases ej : j = i
          · subst ej
            rw [hp] at ha
            cases ha
            omega
          · exact hle j a (by omega) ha
  · rintro σ H' ⟨v2, v3, rfl, s', hle⟩
    refine q _ H' s' (.inl ⟨rfl, fun i a ha => hle i a ?_ ha⟩)
    rw [intsN_len]
    exact (List.getElem?_eq_some_iff.mp ha).1

end
end Kx

-- SXEXT: rSetBg, rSortedBg, rLenA, rSumA, NT.rSetN, NT.rSortN, rExtend, rSetLw, rSortedSet, iAnyS, rMinT, rLtU, rIsiI, RZ.iZipA, tDNewK, tDGet, tDGet1, tDGet2, sDPut, rSortedDA, rSortedSetA, rCntT, iZipM, rSortTI, tBMF, rLenF, rSumF, rSetF, rTupF, tTupF, gUnl, tDisp, tPairs, tLock, iItems
namespace Kx
open PySem L2 MG KM
section
variable {P : Program} {w : World} {K : PySem.W.Frag} {mg : Str → Option Value} {base : Heap} {f : Addr} {fd : FuncData} {C : Addr}
abbrev s_check_number : Stmt := top 9
abbrev N_check_number : List Str := ["number", "low", "high"]
theorem sc_check_number : FnScope N_check_number ["number", "low", "high"] (defScope s_check_number) := ⟨rfl, rfl, rfl, by decide +kernel, rfl, by decide +kernel, by decide +kernel⟩
theorem ok_check_number (F : FnP K "check_number" "check_number" s_check_number f fd) (C_is_between : Cal P w K mg base 2 "is_between" ["value", "low", "high"] sp_is_between) :
    FnOk P w K mg base CX0 3 f fd ["number", "low", "high"] sp_check_number := by
  refine okF F sc_check_number (fun vs H Q E h => by repeat (first | (obtain ⟨rfl, _⟩ := h; rfl) | obtain ⟨_, h⟩ := h)) (fun cdv A outer s H vs Q E hr h => ?_)
  obtain ⟨n, a, b, rfl, h0, h1, q⟩ := h
  refine ⟨_, (pss_one (ps_if (pt_not (pt_val (pe_cal C_is_between hr (pa_cons (pv 0) (pa_cons (pv 1) (pa_cons (pv 2) pa_nil))))))
      (pss_one ps_never)
      pss_nil)), ?_⟩
  simp [tRet, tRetN, tSeq, tNext, tNever, tDrop, tIfS, tAsg, tPar, tAug, tAugS, gName, gNil, gCons, gTup, gSub, tAndV, tOrV, tNotV, tAnd, tOr, tNot, tB, tTest, tYes, tIf, tCall, tCallK, tCallN, tMake, tProp, tMeth, getSp, tCB, tCons, tNil, tVar, tC, tOp, tUn, tChain, tLst, tTup, tFld, sFld, tBM, tBM0, tSl, tPart, tNoPart, rI0, rI, rU, rEq, rNe, rIsi, tCut, tCutR, tCutS, rIntI, tSlH, tSlS, rSumH, rTupH, rSortH, tLstRg, tRg1, tRg2, rIxH, rIxHT, rLenH, rLenHT, rIxL, rIxT, rIx, rCat, rRep, rSetL, rAppend, rSum, rMax, rMin, rEqD, rNeD, rSlL, rPopAt, rSorted, rAll, rAny, rReprS, rNext, tCutT, rCatHT, rCatA, rSlA, RT.iRevA, scal, L2.start, List.replicate, and_assoc, CDiv, CMul, CPow, ipI, rSetBg, rSortedBg, rLenA, rSumA, NT.rSetN, NT.rSortN, rExtend, rSetLw, rSortedSet, iAnyS, rMinT, rLtU, rIsiI, RZ.iZipA, tDNewK, tDGet, tDGet1, tDGet2, sDPut, rSortedDA, rSortedSetA, rCntT, iZipM, rSortTI, tBMF, rLenF, rSumF, rSetF, rTupF, tTupF, gUnl, tDisp, tPairs, tLock, iItems, sp_is_between, h0, h1, q]

abbrev s_check_lost : Stmt := top 10
abbrev N_check_lost : List Str := ["lost"]
theorem sc_check_lost : FnScope N_check_lost ["lost"] (defScope s_check_lost) := ⟨rfl, rfl, rfl, by decide +kernel, rfl, by decide +kernel, by decide +kernel⟩
theorem ok_check_lost (F : FnP K "check_lost" "check_lost" s_check_lost f fd) (C_check_number : Cal P w K mg base 3 "check_number" ["number", "low", "high"] sp_check_number) (c_MOST_PIECES : ∃ t, mg "MOST_PIECES" = some (.int (12) t)) :
    FnOk P w K mg base CX0 4 f fd ["lost"] sp_check_lost := by
  refine okF F sc_check_lost (fun vs H Q E h => by repeat (first | (obtain ⟨rfl, _⟩ := h; rfl) | obtain ⟨_, h⟩ := h)) (fun cdv A outer s H vs Q E hr h => ?_)
  obtain ⟨n, rfl, h0, q⟩ := h
  obtain ⟨t_MOST_PIECES, d_MOST_PIECES⟩ := c_MOST_PIECES
  refine ⟨_, (pss_one (ps_expr (pe_cal C_check_number hr (pa_cons (pv 0) (pa_cons pe_int (pa_cons (pe_op op_sub (pe_glob (v := .int (12)) rfl d_MOST_PIECES ⟨_, rfl⟩) pe_int) pa_nil)))))), ?_⟩
  have h1 : (n : Int) ≤ 11 := by omega
  simp [tRet, tRetN, tSeq, tNext, tNever, tDrop, tIfS, tAsg, tPar, tAug, tAugS, gName, gNil, gCons, gTup, gSub, tAndV, tOrV, tNotV, tAnd, tOr, tNot, tB, tTest, tYes, tIf, tCall, tCallK, tCallN, tMake, tProp, tMeth, getSp, tCB, tCons, tNil, tVar, tC, tOp, tUn, tChain, tLst, tTup, tFld, sFld, tBM, tBM0, tSl, tPart, tNoPart, rI0, rI, rU, rEq, rNe, rIsi, tCut, tCutR, tCutS, rIntI, tSlH, tSlS, rSumH, rTupH, rSortH, tLstRg, tRg1, tRg2, rIxH, rIxHT, rLenH, rLenHT, rIxL, rIxT, rIx, rCat, rRep, rSetL, rAppend, rSum, rMax, rMin, rEqD, rNeD, rSlL, rPopAt, rSorted, rAll, rAny, rReprS, rNext, tCutT, rCatHT, rCatA, rSlA, RT.iRevA, scal, L2.start, List.replicate, and_assoc, CDiv, CMul, CPow, ipI, rSetBg, rSortedBg, rLenA, rSumA, NT.rSetN, NT.rSortN, rExtend, rSetLw, rSortedSet, iAnyS, rMinT, rLtU, rIsiI, RZ.iZipA, tDNewK, tDGet, tDGet1, tDGet2, sDPut, rSortedDA, rSortedSetA, rCntT, iZipM, rSortTI, tBMF, rLenF, rSumF, rSetF, rTupF, tTupF, gUnl, tDisp, tPairs, tLock, iItems, sp_check_number, h1]
  exact q

end
end Kx

-- SXEXT: rSetBg, rSortedBg, rLenA, rSumA, NT.rSetN, NT.rSortN, rExtend, rSetLw, rSortedSet, iAnyS, rMinT, rLtU, rIsiI, RZ.iZipA, tDNewK, tDGet, tDGet1, tDGet2, sDPut, rSortedDA, rSortedSetA, rCntT, iZipM, rSortTI, tBMF, rLenF, rSumF, rSetF, rTupF, tTupF, gUnl, tDisp, tPairs, tLock, iItems
namespace Kx
open PySem L2 MG KM
section
variable {P : Program} {w : World} {K : PySem.W.Frag} {mg : Str → Option Value} {base : Heap} {f : Addr} {fd : FuncData} {C : Addr}
abbrev s_is_full : Stmt := top 16
abbrev N_is_full : List Str := ["purse", "lost"]
theorem sc_is_full : FnScope N_is_full ["purse", "lost"] (defScope s_is_full) := ⟨rfl, rfl, rfl, by decide +kernel, rfl, by decide +kernel, by decide +kernel⟩
theorem ok_is_full (F : FnP K "is_full" "is_full" s_is_full f fd) (C_check_purse : Cal P w K mg base 4 "check_purse" ["purse"] sp_check_purse) (C_check_lost : Cal P w K mg base 4 "check_lost" ["lost"] sp_check_lost) (C_first_too_great : Cal P w K mg base 2 "first_too_great" ["purse", "lost"] sp_first_too_great) (B : Bi mg) :
    FnOk P w K mg base CX0 5 f fd ["purse", "lost"] sp_is_full := by
  refine okF F sc_is_full (fun vs H Q E h => by repeat (first | (obtain ⟨rfl, _⟩ := h; rfl) | obtain ⟨_, h⟩ := h)) (fun cdv A outer s H vs Q E hr h => ?_)
  obtain ⟨t, ps, k, rfl, ht, hP, hk, q⟩ := h
  refine ⟨_, (pss_cons (ps_expr (pe_cal C_check_purse hr (pa_cons (pv 0) pa_nil)))
    (pss_cons (ps_expr (pe_cal C_check_lost hr (pa_cons (pv 1) pa_nil)))
    (pss_one (ps_ret (pe_and (pe_cmpR op_gt (pe_callB len_F (by rfl) B.b_len (by decide +kernel) (pa_cons (pv 0) pa_nil)) (pv 1) (nomark _)) (pe_one (pe_cmpR op_isN (pe_cal C_first_too_great hr (pa_cons (pv 0) (pa_cons (pv 1) pa_nil))) pe_non (nomark _)))))))), ?_⟩
  simp [tRet, tRetN, tSeq, tNext, tNever, tDrop, tIfS, tAsg, tPar, tAug, tAugS, gName, gNil, gCons, gTup, gSub, tAndV, tOrV, tNotV, tAnd, tOr, tNot, tB, tTest, tYes, tIf, tCall, tCallK, tCallN, tMake, tProp, tMeth, getSp, tCB, tCons, tNil, tVar, tC, tOp, tUn, tChain, tLst, tTup, tFld, sFld, tBM, tBM0, tSl, tPart, tNoPart, rI0, rI, rU, rEq, rNe, rIsi, tCut, tCutR, tCutS, rIntI, tSlH, tSlS, rSumH, rTupH, rSortH, tLstRg, tRg1, tRg2, rIxH, rIxHT, rLenH, rLenHT, rIxL, rIxT, rIx, rCat, rRep, rSetL, rAppend, rSum, rMax, rMin, rEqD, rNeD, rSlL, rPopAt, rSorted, rAll, rAny, rReprS, rNext, tCutT, rCatHT, rCatA, rSlA, RT.iRevA, scal, L2.start, List.replicate, and_assoc, CDiv, CMul, CPow, ipI, rSetBg, rSortedBg, rLenA, rSumA, NT.rSetN, NT.rSortN, rExtend, rSetLw, rSortedSet, iAnyS, rMinT, rLtU, rIsiI, RZ.iZipA, tDNewK, tDGet, tDGet1, tDGet2, sDPut, rSortedDA, rSortedSetA, rCntT, iZipM, rSortTI, tBMF, rLenF, rSumF, rSetF, rTupF, tTupF, gUnl, tDisp, tPairs, tLock, iItems]
  refine ⟨t, ps, rfl, ht, hP, k, rfl, hk, _, ht, ?_⟩
  rw [intsN_len]
  split
  · rename_i hlt
    refine ⟨t, ps, k, rfl, ht, hP, hk, fun v H' s' hv => q _ H' s' ?_⟩
    rcases hv with ⟨rfl, hf⟩ | ⟨⟨i, rfl⟩, hf⟩
    · exact ⟨fun _ => ⟨hlt, hf⟩, fun _ => decide_eq_true rfl⟩
    · exact ⟨fun h => (nomatch (of_decide_eq_true h)), fun h => absurd h.2 hf⟩
  · rename_i hlt
    exact q false H (Same.refl _) ⟨nofun, fun h => absurd h.1 hlt⟩

end
end Kx

-- SXEXT: rSetBg, rSortedBg, rLenA, rSumA, NT.rSetN, NT.rSortN, rExtend, rSetLw, rSortedSet, iAnyS, rMinT, rLtU, rIsiI, RZ.iZipA, tDNewK, tDGet, tDGet1, tDGet2, sDPut, rSortedDA, rSortedSetA, rCntT, iZipM, rSortTI, tBMF, rLenF, rSumF, rSetF, rTupF, tTupF, gUnl, tDisp, tPairs, tLock, iItems
namespace Kx
open PySem L2 MG KM
section
variable {P : Program} {w : World} {K : PySem.W.Frag} {mg : Str → Option Value} {base : Heap} {f : Addr} {fd : FuncData} {C : Addr}
abbrev s_l_dip : Stmt := top 19
abbrev N_l_dip : List Str := ["_law_well_here", "_law_many", "_law_digit", "_law_old"]
theorem sc_l_dip : FnScope N_l_dip ["_law_well_here", "_law_many"] (defScope s_l_dip) := ⟨rfl, rfl, rfl, by decide +kernel, rfl, by decide +kernel, by decide +kernel⟩
theorem ok_l_dip (F : FnP K "_law_dip" "_law_dip" s_l_dip f fd) (B : Bi mg) :
    FnOk P w K mg base CX0 1 f fd ["_law_well_here", "_law_many"] sp_l_dip := by
  refine okF F sc_l_dip (fun vs H Q E h => by repeat (first | (obtain ⟨rfl, _⟩ := h; rfl) | obtain ⟨_, h⟩ := h)) (fun cdv A outer s H vs Q E hr h => ?_)
  obtain ⟨b, m, rfl, ⟨x, y, z, hb⟩, h0, h1, q⟩ := h
  refine ⟨_, (pss_cons (ps_asg (pe_op op_add (pe_ix ix_H (pv 0) pe_int (fun _ _ => rfl)) pe_int) (pg_sub (pv 0) pe_int set_list))
    (pss_cons (ps_if (pt_cmpR op_gt (pe_ix ix_H (pv 0) pe_int (fun _ _ => rfl)) pe_int (nomark _))
      (pss_cons (ps_asg (pe_callB divmod_B (by rfl) B.b_divmod (by decide +kernel) (pa_cons (pe_ix ix_H (pv 0) pe_int (fun _ _ => rfl)) (pa_cons (pv 1) pa_nil))) (pg_tup (by rfl) (pgs_cons (pg_sub (pv 0) pe_int set_list) (pgs_cons (pg_name (i := 2) sc_l_dip.nd rfl (Or.inl rfl)) pgs_nil))))
      (pss_one (ps_ret (pv 2))))
      pss_nil)
    (pss_cons (ps_set (i := 3) sc_l_dip.nd rfl (Or.inl rfl) (pe_callTy int_I (by rfl) B.b_int (by decide +kernel) (pa_cons (pe_ix ix_H (pv 0) pe_int (fun _ _ => rfl)) pa_nil)))
    (pss_cons (ps_asg (pe_op op_mod (pe_callTy int_I (by rfl) B.b_int (by decide +kernel) (pa_cons (pe_op op_add (pe_op op_add (pe_op op_mul (pv 3) (pe_op op_add (pe_op op_mod (pe_callTy int_I (by rfl) B.b_int (by decide +kernel) (pa_cons (pv 3) pa_nil)) pe_int) pe_int)) (pe_op op_mul pe_int (pe_ix ix_H (pv 0) pe_int (fun _ _ => rfl)))) pe_int) pa_nil)) pe_int) (pg_sub (pv 0) pe_int set_list))
    (pss_one (ps_ret (pe_op op_mod (pe_callTy int_I (by rfl) B.b_int (by decide +kernel) (pa_cons (pe_op op_fdiv (pe_ix ix_H (pv 0) pe_int (fun _ _ => rfl)) pe_int) pa_nil)) (pv 1)))))))), ?_⟩
  simp [tRet, tRetN, tSeq, tNext, tNever, tDrop, tIfS, tAsg, tPar, tAug, tAugS, gName, gNil, gCons, gTup, gSub, tAndV, tOrV, tNotV, tAnd, tOr, tNot, tB, tTest, tYes, tIf, tCall, tCallK, tCallN, tMake, tProp, tMeth, getSp, tCB, tCons, tNil, tVar, tC, tOp, tUn, tChain, tLst, tTup, tFld, sFld, tBM, tBM0, tSl, tPart, tNoPart, rI0, rI, rU, rEq, rNe, rIsi, tCut, tCutR, tCutS, rIntI, tSlH, tSlS, rSumH, rTupH, rSortH, tLstRg, tRg1, tRg2, rIxH, rIxHT, rLenH, rLenHT, rIxL, rIxT, rIx, rCat, rRep, rSetL, rAppend, rSum, rMax, rMin, rEqD, rNeD, rSlL, rPopAt, rSorted, rAll, rAny, rReprS, rNext, tCutT, rCatHT, rCatA, rSlA, RT.iRevA, scal, L2.start, List.replicate, and_assoc, CDiv, CMul, CPow, ipI, rSetBg, rSortedBg, rLenA, rSumA, NT.rSetN, NT.rSortN, rExtend, rSetLw, rSortedSet, iAnyS, rMinT, rLtU, rIsiI, RZ.iZipA, tDNewK, tDGet, tDGet1, tDGet2, sDPut, rSortedDA, rSortedSetA, rCntT, iZipM, rSortTI, tBMF, rLenF, rSumF, rSetF, rTupF, tTupF, gUnl, tDisp, tPairs, tLock, iItems, hb, atI, ixN, upd_same, upd_upd, h0, h1]
  split
  · intro p np
    have ne : b ≠ p := ne_of_none upd_same np
    refine ⟨_, sqT upd_same, rfl, _, _, rfl, _, (upd_ne ne).trans upd_same, by simp, _, _, rfl, rfl, ?_⟩
    exact q _ _ (Int.emod_nonneg _ (by omega)) (Int.emod_lt_of_pos _ h0) ⟨_, _, _, upd_same⟩ (But.upd.trans ((But.of (same_new np)).trans But.upd))
  · refine ⟨.inr ⟨by omega, by omega⟩, ?_⟩
    exact q _ _ (Int.emod_nonneg _ (by omega)) (Int.emod_lt_of_pos _ h0) ⟨_, _, _, upd_same⟩ But.upd

abbrev s_l_well : Stmt := top 18
abbrev N_l_well : List Str := ["_law_script", "_law_k", "_law_own", "_law_stirred", "_law_cell", "_law_great"]
theorem sc_l_well : FnScope N_l_well ["_law_script", "_law_k"] (defScope s_l_well) := ⟨rfl, rfl, rfl, by decide +kernel, rfl, by decide +kernel, by decide +kernel⟩
theorem ok_l_well (F : FnP K "_law_well" "_law_well" s_l_well f fd) (B : Bi mg) :
    FnOk P w K mg base CX0 1 f fd ["_law_script", "_law_k"] (sp_l_bowl K) := by
  refine okF F sc_l_well (fun vs H Q E h => by repeat (first | (obtain ⟨rfl, _⟩ := h; rfl) | obtain ⟨_, h⟩ := h)) (fun cdv A outer s H vs Q E hr h => ?_)
  obtain ⟨a, ns, k, rfl, ha, hn, hk, q⟩ := h
  refine ⟨_, (pss_cons (ps_set (i := 2) sc_l_well.nd rfl (Or.inl rfl) (pe_cutR rIntS (pe_ifExp (pt_cmpR op_lt (pv 1) (pe_callB call_len_seq (by rfl) B.b_len (by decide +kernel) (pa_cons (pv 0) pa_nil)) (nomark _)) (pe_callTy int_I (by rfl) B.b_int (by decide +kernel) (pa_cons (pe_ix ix_list (pv 0) (pv 1) (fun _ _ => rfl)) pa_nil)) (pe_op op_add (pe_op op_add (pe_op op_mul pe_int (pv 1)) pe_int) (pe_op op_mod (pe_callTy int_I (by rfl) B.b_int (by decide +kernel) (pa_cons (pe_callB (sum_H rfl) (by rfl) B.b_sum (by decide +kernel) (pa_cons (pe_slice sl_list (pv 0) po_none (po_some pe_int)) pa_nil)) pa_nil)) pe_int)))))
    (pss_cons (ps_set (i := 3) sc_l_well.nd rfl (Or.inl rfl) (pe_op op_add pe_int (pe_op op_mul pe_int (pv 1))))
    (pss_cons (ps_for PassesOwn.never rfl (pi_list (pe_slice sl_list (pv 0) po_none (po_some pe_int))) (pg_name (i := 4) sc_l_well.nd rfl (Or.inl rfl))
      (pss_one (ps_set (i := 3) sc_l_well.nd rfl (Or.inl rfl) (pe_op op_mod (pe_callTy int_I (by rfl) B.b_int (by decide +kernel) (pa_cons (pe_op op_add (pe_op op_add (pe_op op_mul (pv 3) pe_int) (pe_op op_mod (pe_callTy int_I (by rfl) B.b_int (by decide +kernel) (pa_cons (pv 4) pa_nil)) pe_int)) pe_int) pa_nil)) pe_int))))
    (pss_cons (ps_set (i := 5) sc_l_well.nd rfl (Or.inl rfl) (pe_cutR rIntS (pe_ifExp (PW.pt (pw_or (pt_cmpR op_lt (pv 2) pe_int (nomark _)) (pw_or1 (pt_cmpR op_ge (pv 2) (pe_op op_pow pe_int pe_int) (nomark _))))) (pe_callB call_abs (by rfl) B.b_abs (by decide +kernel) (pa_cons (pv 2) pa_nil)) pe_int)))
    (pss_one (ps_ret (pe_lst (pa_cons (pv 5) (pa_cons (pe_op op_mod (pe_callTy int_I (by rfl) B.b_int (by decide +kernel) (pa_cons (pe_op op_add (pe_op op_mul (pv 3) pe_int) (pe_op op_mod (pe_callTy int_I (by rfl) B.b_int (by decide +kernel) (pa_cons (pv 2) pa_nil)) pe_int)) pa_nil)) pe_int) (pa_cons pe_int pa_nil)))))))))), ?_⟩
  simp [tRet, tRetN, tSeq, tNext, tNever, tDrop, tIfS, tAsg, tPar, tAug, tAugS, gName, gNil, gCons, gTup, gSub, tAndV, tOrV, tNotV, tAnd, tOr, tNot, tB, tTest, tYes, tIf, tCall, tCallK, tCallN, tMake, tProp, tMeth, getSp, tCB, tCons, tNil, tVar, tC, tOp, tUn, tChain, tLst, tTup, tFld, sFld, tBM, tBM0, tSl, tPart, tNoPart, rI0, rI, rU, rEq, rNe, rIsi, tCut, tCutR, tCutS, rIntI, tSlH, tSlS, rSumH, rTupH, rSortH, tLstRg, tRg1, tRg2, rIxH, rIxHT, rLenH, rLenHT, rIxL, rIxT, rIx, rCat, rRep, rSetL, rAppend, rSum, rMax, rMin, rEqD, rNeD, rSlL, rPopAt, rSorted, rAll, rAny, rReprS, rNext, tCutT, rCatHT, rCatA, rSlA, RT.iRevA, scal, L2.start, List.replicate, and_assoc, CDiv, CMul, CPow, ipI, rSetBg, rSortedBg, rLenA, rSumA, NT.rSetN, NT.rSortN, rExtend, rSetLw, rSortedSet, iAnyS, rMinT, rLtU, rIsiI, RZ.iZipA, tDNewK, tDGet, tDGet1, tDGet2, sDPut, rSortedDA, rSortedSetA, rCntT, iZipM, rSortTI, tBMF, rLenF, rSumF, rSetF, rTupF, tTupF, gUnl, tDisp, tPairs, tLock, iItems, rIntS]
  refine ⟨⟨_, .inl ha, ?_⟩, ?_⟩
  · split
    · rename_i h
      obtain ⟨z, hz⟩ : ∃ z, ns[k]? = some z := ⟨ns[k]'(by simpa using h), List.getElem?_eq_getElem _⟩
      exact ⟨_, ha, _, atI_nat (mapI_at hz), ⟨z, rfl⟩, Same.refl _⟩
    · obtain ⟨ms, em, lm⟩ := cut_ints ns none (some 1)
      refine ⟨_, ha, ?_⟩
      rw [em]
      intro p1 n1
      generalize eH1 : upd H p1 _ = H1
      have s1 : Same H H1 := by rw [← eH1]; exact same_new n1
      have h1 := (congrFun eH1 p1).symm.trans upd_same
      clear eH1
      exact ⟨⟨ms, h1⟩, s1⟩
  · rintro v H1 own rfl s1
    have ha1 := s1.seq ha
    obtain ⟨ms, em, lm⟩ := cut_ints ns none (some 7)
    refine ⟨_, rfl, 7, rfl, a, _, rfl, ha1, ?_⟩
    rw [em]
    intro p1 n2
    generalize eH2 : upd H1 p1 _ = H2
    have s2 : Same H1 H2 := by rw [← eH2]; exact same_new n2
    have h2 := (congrFun eH2 p1).symm.trans upd_same
    clear eH2
    refine ⟨p1, rfl, ⟨_, sqL h2⟩, for_list (xs := ms.map V.int) (fun i σ H' => ∃ (st : Int) (v4 : Option V), σ = [some (.ref a), some (.int k), some (.int own), some (.int st), v4, none] ∧ Same H2 H') ⟨_, none, rfl, Same.refl _⟩ (fun i σ H' _ ⟨_, _, _, s'⟩ => sqL (s' _ _ h2)) ?_ ?_⟩
    · rintro i x σ H' hx ⟨st, v4, rfl, s'⟩
      obtain ⟨z, hz, rfl⟩ := int_at hx
      simp [tRet, tRetN, tSeq, tNext, tNever, tDrop, tIfS, tAsg, tPar, tAug, tAugS, gName, gNil, gCons, gTup, gSub, tAndV, tOrV, tNotV, tAnd, tOr, tNot, tB, tTest, tYes, tIf, tCall, tCallK, tCallN, tMake, tProp, tMeth, getSp, tCB, tCons, tNil, tVar, tC, tOp, tUn, tChain, tLst, tTup, tFld, sFld, tBM, tBM0, tSl, tPart, tNoPart, rI0, rI, rU, rEq, rNe, rIsi, tCut, tCutR, tCutS, rIntI, tSlH, tSlS, rSumH, rTupH, rSortH, tLstRg, tRg1, tRg2, rIxH, rIxHT, rLenH, rLenHT, rIxL, rIxT, rIx, rCat, rRep, rSetL, rAppend, rSum, rMax, rMin, rEqD, rNeD, rSlL, rPopAt, rSorted, rAll, rAny, rReprS, rNext, tCutT, rCatHT, rCatA, rSlA, RT.iRevA, scal, L2.start, List.replicate, and_assoc, CDiv, CMul, CPow, ipI, rSetBg, rSortedBg, rLenA, rSumA, NT.rSetN, NT.rSortN, rExtend, rSetLw, rSortedSet, iAnyS, rMinT, rLtU, rIsiI, RZ.iZipA, tDNewK, tDGet, tDGet1, tDGet2, sDPut, rSortedDA, rSortedSetA, rCntT, iZipM, rSortTI, tBMF, rLenF, rSumF, rSetF, rTupF, tTupF, gUnl, tDisp, tPairs, tLock, iItems, s']
    · rintro σ H' ⟨st, v4, rfl, s'⟩
      simp [tRet, tRetN, tSeq, tNext, tNever, tDrop, tIfS, tAsg, tPar, tAug, tAugS, gName, gNil, gCons, gTup, gSub, tAndV, tOrV, tNotV, tAnd, tOr, tNot, tB, tTest, tYes, tIf, tCall, tCallK, tCallN, tMake, tProp, tMeth, getSp, tCB, tCons, tNil, tVar, tC, tOp, tUn, tChain, tLst, tTup, tFld, sFld, tBM, tBM0, tSl, tPart, tNoPart, rI0, rI, rU, rEq, rNe, rIsi, tCut, tCutR, tCutS, rIntI, tSlH, tSlS, rSumH, rTupH, rSortH, tLstRg, tRg1, tRg2, rIxH, rIxHT, rLenH, rLenHT, rIxL, rIxT, rIx, rCat, rRep, rSetL, rAppend, rSum, rMax, rMin, rEqD, rNeD, rSlL, rPopAt, rSorted, rAll, rAny, rReprS, rNext, tCutT, rCatHT, rCatA, rSlA, RT.iRevA, scal, L2.start, List.replicate, and_assoc, CDiv, CMul, CPow, ipI, rSetBg, rSortedBg, rLenA, rSumA, NT.rSetN, NT.rSortN, rExtend, rSetLw, rSortedSet, iAnyS, rMinT, rLtU, rIsiI, RZ.iZipA, tDNewK, tDGet, tDGet1, tDGet2, sDPut, rSortedDA, rSortedSetA, rCntT, iZipM, rSortTI, tBMF, rLenF, rSumF, rSetF, rTupF, tTupF, gUnl, tDisp, tPairs, tLock, iItems, rIntS]
      refine ⟨Same.refl _, ?_⟩
      rintro v H3 fig rfl s3
      refine ⟨by decide, ?_⟩
      intro p5 n5
      generalize eH5 : upd H3 p5 _ = H5
      have s5 : Same H3 H5 := by rw [← eH5]; exact same_new n5
      have h5 := (congrFun eH5 p5).symm.trans upd_same
      clear eH5
      have stot := s1.trans (s2.trans (s'.trans s3))
      exact q p5 H5 (stot.free n5) (stot.trans s5) ⟨_, _, _, h5⟩

end
end Kx

-- SXEXT: rSetBg, rSortedBg, rLenA, rSumA, NT.rSetN, NT.rSortN, rExtend, rSetLw, rSortedSet, iAnyS, rMinT, rLtU, rIsiI, RZ.iZipA, tDNewK, tDGet, tDGet1, tDGet2, sDPut, rSortedDA, rSortedSetA, rCntT, iZipM, rSortTI, tBMF, rLenF, rSumF, rSetF, rTupF, tTupF, gUnl, tDisp, tPairs, tLock, iItems
namespace Kx
open PySem L2 MG KM
section
variable {P : Program} {w : World} {K : PySem.W.Frag} {mg : Str → Option Value} {base : Heap} {f : Addr} {fd : FuncData} {C : Addr}
abbrev s_l_grown : Stmt := top 20
abbrev N_l_grown : List Str := ["_law_well_here", "_law_many", "_law_lost", "_law_strict", "_law_found", "_law_turn", "_law_low", "_law_high", "_law_way", "_law_piece"]
theorem sc_l_grown : FnScope N_l_grown ["_law_well_here", "_law_many", "_law_lost", "_law_strict"] (defScope s_l_grown) := ⟨rfl, rfl, rfl, by decide +kernel, rfl, by decide +kernel, by decide +kernel⟩
theorem ok_l_grown (F : FnP K "_law_grown" "_law_grown" s_l_grown f fd) (B : Bi mg) (C_l_dip : Cal P w K mg base 1 "_law_dip" ["_law_well_here", "_law_many"] sp_l_dip) :
    FnOk P w K mg base CX0 2 f fd ["_law_well_here", "_law_many", "_law_lost", "_law_strict"] sp_l_grown38 := by
  refine okF F sc_l_grown (fun vs H Q E h => by repeat (first | (obtain ⟨rfl, _⟩ := h; rfl) | obtain ⟨_, h⟩ := h)) (fun cdv A outer s H vs Q E hr h => ?_)
  obtain ⟨g, m, n, rfl, hg, hm, hn, q⟩ := h
  refine ⟨_, (pss_cons (ps_set (i := 4) sc_l_grown.nd rfl (Or.inl rfl) (pe_lst pa_nil))
    (pss_cons (ps_for PassesOwn.never rfl (pi_range1 (by rfl) B.b_range (pa_cons (pv 1) pa_nil)) (pg_name (i := 5) sc_l_grown.nd rfl (Or.inl rfl))
      (pss_cons (ps_set (i := 6) sc_l_grown.nd rfl (Or.inl rfl) (pe_ifExp (pt_cmpR (op_neD hr.units) (pv 4) (pe_lst pa_nil) (nomark _)) (pe_ix ix_H (pv 4) (pe_un un_neg pe_int) (fun _ _ => rfl)) pe_int))
      (pss_cons (ps_set (i := 7) sc_l_grown.nd rfl (Or.inl rfl) (pe_callB (call_max2 rfl) (by rfl) B.b_max (by decide +kernel) (pa_cons (pv 6) (pa_cons (pe_op op_add pe_int (pe_callB (sum_H rfl) (by rfl) B.b_sum (by decide +kernel) (pa_cons (pe_slice sl_list (pv 4) po_none (po_some (pe_callB (call_max2 rfl) (by rfl) B.b_max (by decide +kernel) (pa_cons pe_int (pa_cons (pe_op op_sub (pe_callB len_H (by rfl) B.b_len (by decide +kernel) (pa_cons (pv 4) pa_nil)) (pv 2)) pa_nil))))) pa_nil))) pa_nil))))
      (pss_cons (ps_set (i := 8) sc_l_grown.nd rfl (Or.inl rfl) (pe_cal C_l_dip hr (pa_cons (pv 0) (pa_cons pe_int pa_nil))))
      (pss_cons (ps_set (i := 9) sc_l_grown.nd rfl (Or.inl rfl) (pe_op op_add (pv 6) (pe_cal C_l_dip hr (pa_cons (pv 0) (pa_cons (pe_op op_add (pe_op op_sub (pv 7) (pv 6)) pe_int) pa_nil)))))
      (pss_cons (ps_if (pt_cmpR op_gt (pv 8) pe_int (nomark _))
        (pss_one (ps_set (i := 9) sc_l_grown.nd rfl (Or.inl rfl) (pe_ifExp (pt_cmpR op_lt (pv 8) pe_int (nomark _)) (pv 7) (pv 6))))
        pss_nil)
      (pss_cons (ps_if (PW.pt (pw_and (pt_cmpR op_eq (pv 8) pe_int (nomark _)) (pw_and1 (pt_not (pt_val (pv 3))))))
        (pss_one (ps_set (i := 9) sc_l_grown.nd rfl (Or.inl rfl) (pe_op op_add (pe_op op_add (pv 7) pe_int) (pe_cal C_l_dip hr (pa_cons (pv 0) (pa_cons pe_int pa_nil))))))
        pss_nil)
      (pss_one (ps_expr (pe_bm PySem.F.plainAttrs_list PySem.F.slot_list_append PySem.F.type_list_append mt_append (pv 4) (pa_cons (pe_callB (call_min2 rfl) (by rfl) B.b_min (by decide +kernel) (pa_cons (pv 9) (pa_cons pe_int pa_nil))) pa_nil)))))))))))
    (pss_one (ps_ret (pe_callTy tuple_F (by rfl) B.b_tuple (by decide +kernel) (pa_cons (pv 4) pa_nil)))))), ?_⟩
  simp [tRet, tRetN, tSeq, tNext, tNever, tDrop, tIfS, tAsg, tPar, tAug, tAugS, gName, gNil, gCons, gTup, gSub, tAndV, tOrV, tNotV, tAnd, tOr, tNot, tB, tTest, tYes, tIf, tCall, tCallK, tCallN, tMake, tProp, tMeth, getSp, tCB, tCons, tNil, tVar, tC, tOp, tUn, tChain, tLst, tTup, tFld, sFld, tBM, tBM0, tSl, tPart, tNoPart, rI0, rI, rU, rEq, rNe, rIsi, tCut, tCutR, tCutS, rIntI, tSlH, tSlS, rSumH, rTupH, rSortH, tLstRg, tRg1, tRg2, rIxH, rIxHT, rLenH, rLenHT, rIxL, rIxT, rIx, rCat, rRep, rSetL, rAppend, rSum, rMax, rMin, rEqD, rNeD, rSlL, rPopAt, rSorted, rAll, rAny, rReprS, rNext, tCutT, rCatHT, rCatA, rSlA, RT.iRevA, scal, L2.start, List.replicate, and_assoc, CDiv, CMul, CPow, ipI, rSetBg, rSortedBg, rLenA, rSumA, NT.rSetN, NT.rSortN, rExtend, rSetLw, rSortedSet, iAnyS, rMinT, rLtU, rIsiI, RZ.iZipA, tDNewK, tDGet, tDGet1, tDGet2, sDPut, rSortedDA, rSortedSetA, rCntT, iZipM, rSortTI, tBMF, rLenF, rSumF, rSetF, rTupF, tTupF, gUnl, tDisp, tPairs, tLock, iItems]
  intro pf n1
  generalize eH1 : upd H pf _ = H1
  have s1 : Same H H1 := by rw [← eH1]; exact same_new n1
  have h1 := (congrFun eH1 pf).symm.trans upd_same
  clear eH1
  refine ⟨_, rfl, m, rfl, by omega, by omega, for_range (lo := 0) (n := m) (fun i σ H' => ∃ (v5 v6 v7 v8 v9 : Option V) (ps : List Nat), σ = [some (.ref g), some (.int (m : Nat)), some (.int (n : Nat)), some (.bl false), some (.ref pf), v5, v6, v7, v8, v9] ∧ Bw H' g ∧ But g H H' ∧ H' pf = some (.lst (intsN ps)) ∧ ps.Pairwise (· ≤ ·) ∧ (∀ p ∈ ps, 1 ≤ p ∧ p ≤ 1000) ∧ ps.length = i) ⟨none, none, none, none, none, [], rfl, hg.same s1, But.of s1, h1, by simp, by simp, rfl⟩ ?_ ?_⟩
  · rintro i σ H' hi ⟨v5, v6, v7, v8, v9, ps, rfl, hg', bt', hp, hup, hmem, hlen⟩
    have npf : pf ≠ g := nb_new hg n1
    obtain ⟨low, hl1, hl2, hlm⟩ : ∃ low : Nat, 1 ≤ low ∧ low ≤ 1000 ∧ ((ps = [] ∧ low = 1) ∨ (ps ≠ [] ∧ ps[ps.length - 1]? = some low)) ∧ ∀ p ∈ ps, p ≤ low := by
      by_cases e : ps = []
      · exact ⟨1, by decide, by decide, .inl ⟨e, rfl⟩, by simp [e]⟩
      · obtain ⟨low, hlow⟩ : ∃ low, ps[ps.length - 1]? = some low := ⟨ps[ps.length - 1]'(by have := List.length_pos_iff.mpr e; omega), List.getElem?_eq_getElem _⟩
        have hb := hmem low (List.mem_of_getElem? hlow)
        refine ⟨low, hb.1, hb.2, .inr ⟨e, hlow⟩, fun p hp => ?_⟩
        obtain ⟨j, hj⟩ := List.getElem?_of_mem hp
        obtain ⟨hj1, rfl⟩ := List.getElem?_eq_some_iff.mp hj
        obtain ⟨hj2, rfl⟩ := List.getElem?_eq_some_iff.mp hlow
        by_cases ej : j = ps.length - 1
        · subst ej
          exact Nat.le_refl _
        · exact List.pairwise_iff_getElem.mp hup j _ hj1 hj2 (by omega)
    have fin : ∀ (H2 : Hp) (z : Int), (low : Int) ≤ z → Bw H2 g → But g H H2 → H2 pf = some (.lst (intsN ps)) → tyV K "list" (V.ref pf) H2 ∧ ∃ x, H2 pf = some (HO.lst x) ∧ x.length < sizeLine ∧ Bw (upd H2 pf (HO.lst (x ++ [V.int (if 1000 < z then 1000 else z)]))) g ∧ But g H (upd H2 pf (HO.lst (x ++ [V.int (if 1000 < z then 1000 else z)]))) ∧
        ∃ x_4 : List Nat, upd H2 pf (HO.lst (x ++ [V.int (if 1000 < z then 1000 else z)])) pf = some (HO.lst (intsN x_4)) ∧ List.Pairwise (fun x1 x2 => x1 ≤ x2) x_4 ∧ (∀ (p : Nat), p ∈ x_4 → 1 ≤ p ∧ p ≤ 1000) ∧ x_4.length = i + 1 := by
      intro H2 z hz hg2 bt2 hp2
      obtain ⟨v, hv, hv1, hv2⟩ : ∃ v : Nat, (if 1000 < z then 1000 else z) = (v : Nat) ∧ low ≤ v ∧ v ≤ 1000 := ⟨(min z 1000).toNat, by split <;> omega, by omega, by omega⟩
      rw [hv]
      refine ⟨.inl ⟨rfl, _, sqL hp2⟩, _, hp2, Nat.lt_of_le_of_lt (show _ ≤ 100 by rw [intsN_len]; omega) (by decide), ?_, ?_, ps ++ [v], by rw [upd_same, intsN_append]; rfl, ?_, fun p hp => ?_, by simp [hlen]⟩
      · obtain ⟨x, y, z, e⟩ := hg2
        exact ⟨x, y, z, (upd_ne npf.symm).trans e⟩
      · exact fun c o nc hc => (upd_ne (ne_of_none hc n1)).trans (bt2 c o nc hc)
      · exact List.pairwise_append.mpr ⟨hup, by simp, fun a ha b hb => by
          cases (show b = v by simpa using hb)
          exact Nat.le_trans (hlm.2 a ha) hv1⟩
      · rcases List.mem_append.mp hp with h | h
        · exact hmem p h
        · cases (show p = v by simpa using h)
          exact ⟨by omega, hv2⟩
    simp [tRet, tRetN, tSeq, tNext, tNever, tDrop, tIfS, tAsg, tPar, tAug, tAugS, gName, gNil, gCons, gTup, gSub, tAndV, tOrV, tNotV, tAnd, tOr, tNot, tB, tTest, tYes, tIf, tCall, tCallK, tCallN, tMake, tProp, tMeth, getSp, tCB, tCons, tNil, tVar, tC, tOp, tUn, tChain, tLst, tTup, tFld, sFld, tBM, tBM0, tSl, tPart, tNoPart, rI0, rI, rU, rEq, rNe, rIsi, tCut, tCutR, tCutS, rIntI, tSlH, tSlS, rSumH, rTupH, rSortH, tLstRg, tRg1, tRg2, rIxH, rIxHT, rLenH, rLenHT, rIxL, rIxT, rIx, rCat, rRep, rSetL, rAppend, rSum, rMax, rMin, rEqD, rNeD, rSlL, rPopAt, rSorted, rAll, rAny, rReprS, rNext, tCutT, rCatHT, rCatA, rSlA, RT.iRevA, scal, L2.start, List.replicate, and_assoc, CDiv, CMul, CPow, ipI, rSetBg, rSortedBg, rLenA, rSumA, NT.rSetN, NT.rSortN, rExtend, rSetLw, rSortedSet, iAnyS, rMinT, rLtU, rIsiI, RZ.iZipA, tDNewK, tDGet, tDGet1, tDGet2, sDPut, rSortedDA, rSortedSetA, rCntT, iZipM, rSortTI, tBMF, rLenF, rSumF, rSetF, rTupF, tTupF, gUnl, tDisp, tPairs, tLock, iItems]
    intro pe n9
    generalize eH9 : upd H' pe _ = H9
    have s9 : Same H' H9 := by rw [← eH9]; exact same_new n9
    have h9 := (congrFun eH9 pe).symm.trans upd_same
    clear eH9
    have hpa := s9 _ _ hp
    rw [intsN_ints] at hpa
    have hpb := s9 _ _ hp
    refine ⟨_, dpL hpa, _, dpL (ns := []) h9, shapedL _, shapedL _, ?_⟩
    rw [eqv_lst]
    have hgb := hg'.same s9
    have cutE : cutV (intsN ps) none (some (if n < (intsN ps).length then ((intsN ps).length : Int) - n else 0)) = intsN (ps.take (ps.length - n)) := by
      have em : (if n < (intsN ps).length then (((intsN ps).length : Int) - n) else 0) = ((ps.length - n : Nat) : Int) := by
        rw [intsN_len]
        split <;> omega
      rw [em, cut_take, intsN_take]
    have hS : (ps.take (ps.length - n)).sum ≤ 100000 := by
      have h1 := (⟨by omega, hup, hmem⟩ : PurseL ps).whole
      have h2 := KU.take_mono (l := ps) (i := ps.length - n) (j := ps.length) (by omega)
      rw [List.take_length] at h2
      omega
    rcases hlm.1 with ⟨e, e1⟩ | ⟨e, hlow⟩
    · refine .inl ⟨by subst e; simp, ?_⟩
      refine ⟨_, hpb, _, sqL hpb, fun p1 np1 => ?_⟩
      rw [cutE]
      have s10 := same_new (o := HO.lst (intsN (ps.take (ps.length - n)))) np1
      refine ⟨(ps.take (ps.length - n)).map fun (p : Nat) => (p : Int), by rw [upd_same, intsN_ints], ?_⟩
      generalize upd H9 p1 (HO.lst (intsN (ps.take (ps.length - n)))) = H10 at s10 ⊢
      rw [sum_castN]
      subst e1
      generalize (ps.take (ps.length - n)).sum = S at hS ⊢
      obtain ⟨hi2, hh, hh1⟩ : ∃ hi2 : Nat, (if (1 : Int) < 1 + (S : Nat) then 1 + ((S : Nat) : Int) else 1) = (hi2 : Nat) ∧ 1 ≤ hi2 := ⟨1 + S, by split <;> omega, by omega⟩
      simp only [hh]
      have btt : ∀ H5, But g H10 H5 → But g H H5 ∧ H5 pf = some (.lst (intsN ps)) := fun H5 b => ⟨bt'.trans ((But.of (s9.trans s10)).trans b), b _ _ npf (s10 _ _ hpb)⟩
      refine ⟨g, 8, rfl, hgb.same s10, by decide, by decide, fun r H4 r0 r1 hg4 bt4 => ⟨g, hi2, rfl, hg4, by omega, by first | omega | (rw [← hh]; split <;> omega), fun r2 H5 r20 r21 hg5 bt5 => ⟨_, rfl, _, rfl, ?_⟩⟩⟩
      obtain ⟨b1, b2⟩ := btt H5 (bt4.trans bt5)
      by_cases h4 : 4 < r
      · rw [if_pos h4]
        refine ⟨_, rfl, ?_⟩
        by_cases h7 : r < 7
        · rw [if_pos h7]
          refine ⟨rfl, ?_⟩
          rw [if_neg (fun z => by injection z with z; omega)]
          first | exact fin H5 hi2 (by omega) hg5 b1 b2
        · rw [if_neg h7]
          refine ⟨rfl, ?_⟩
          rw [if_neg (fun z => by injection z with z; omega)]
          first | exact fin H5 1 (by omega) hg5 b1 b2
      · rw [if_neg h4]
        refine ⟨rfl, ?_⟩
        by_cases h44 : V.int r = V.int 4
        · rw [if_pos h44]
          refine ⟨g, 2, rfl, hg5, by decide, by decide, fun r3 H6 r30 r31 hg6 bt6 => ⟨_, rfl, ?_⟩⟩
          obtain ⟨b3, b4⟩ := btt H6 (bt4.trans (bt5.trans bt6))
          first | exact fin H6 (hi2 + 1 + r3) (by omega) hg6 b3 b4
        · rw [if_neg h44]
          first | exact fin H5 (1 + r2) (by omega) hg5 b1 b2
    · refine .inr ⟨by simpa using e, ?_⟩
      have hat : atI (intsN ps) (-1) = some (V.int (low : Nat)) := by
        refine atI_last ?_
        unfold intsN
        rw [List.length_map, List.getElem?_map, hlow]
        rfl
      refine ⟨_, hpb, _, hat, _, hpb, _, sqL hpb, fun p1 np1 => ?_⟩
      rw [cutE]
      have s10 := same_new (o := HO.lst (intsN (ps.take (ps.length - n)))) np1
      refine ⟨(ps.take (ps.length - n)).map fun (p : Nat) => (p : Int), by rw [upd_same, intsN_ints], _, rfl, ?_⟩
      generalize upd H9 p1 (HO.lst (intsN (ps.take (ps.length - n)))) = H10 at s10 ⊢
      rw [sum_castN]
      generalize (ps.take (ps.length - n)).sum = S at hS ⊢
      obtain ⟨hi2, hh, hh1⟩ : ∃ hi2 : Nat, (if (low : Int) < 1 + (S : Nat) then 1 + ((S : Nat) : Int) else (low : Int)) = (hi2 : Nat) ∧ low ≤ hi2 ∧ hi2 ≤ 200000 := ⟨max low (1 + S), by split <;> omega, by omega, by omega⟩
      simp only [hh]
      have btt : ∀ H5, But g H10 H5 → But g H H5 ∧ H5 pf = some (.lst (intsN ps)) := fun H5 b => ⟨bt'.trans ((But.of (s9.trans s10)).trans b), b _ _ npf (s10 _ _ hpb)⟩
      refine ⟨g, 8, rfl, hgb.same s10, by decide, by decide, fun r H4 r0 r1 hg4 bt4 => ⟨_, rfl, g, _, rfl, hg4, by omega, by omega, fun r2 H5 r20 r21 hg5 bt5 => ⟨_, rfl, _, rfl, _, rfl, ?_⟩⟩⟩
      obtain ⟨b1, b2⟩ := btt H5 (bt4.trans bt5)
      by_cases h4 : 4 < r
      · rw [if_pos h4]
        refine ⟨_, rfl, ?_⟩
        by_cases h7 : r < 7
        · rw [if_pos h7]
          refine ⟨rfl, ?_⟩
          rw [if_neg (fun z => by injection z with z; omega)]
          first | exact fin H5 hi2 (by omega) hg5 b1 b2
        · rw [if_neg h7]
          refine ⟨rfl, ?_⟩
          rw [if_neg (fun z => by injection z with z; omega)]
          obtain ⟨g1, g2⟩ := fin H5 low (by omega) hg5 b1 b2
          exact ⟨g1, _, rfl, g2⟩
      · rw [if_neg h4]
        refine ⟨rfl, ?_⟩
        by_cases h44 : V.int r = V.int 4
        · rw [if_pos h44]
          refine ⟨g, 2, rfl, hg5, by decide, by decide, fun r3 H6 r30 r31 hg6 bt6 => ⟨_, rfl, ?_⟩⟩
          obtain ⟨b3, b4⟩ := btt H6 (bt4.trans (bt5.trans bt6))
          first | exact fin H6 (hi2 + 1 + r3) (by omega) hg6 b3 b4
        · rw [if_neg h44]
          first | exact fin H5 (low + r2) (by omega) hg5 b1 b2
  · rintro σ H' ⟨v5, v6, v7, v8, v9, ps, rfl, hg', bt', hp, hup, hmem, hlen⟩
    simp [tRet, tRetN, tSeq, tNext, tNever, tDrop, tIfS, tAsg, tPar, tAug, tAugS, gName, gNil, gCons, gTup, gSub, tAndV, tOrV, tNotV, tAnd, tOr, tNot, tB, tTest, tYes, tIf, tCall, tCallK, tCallN, tMake, tProp, tMeth, getSp, tCB, tCons, tNil, tVar, tC, tOp, tUn, tChain, tLst, tTup, tFld, sFld, tBM, tBM0, tSl, tPart, tNoPart, rI0, rI, rU, rEq, rNe, rIsi, tCut, tCutR, tCutS, rIntI, tSlH, tSlS, rSumH, rTupH, rSortH, tLstRg, tRg1, tRg2, rIxH, rIxHT, rLenH, rLenHT, rIxL, rIxT, rIx, rCat, rRep, rSetL, rAppend, rSum, rMax, rMin, rEqD, rNeD, rSlL, rPopAt, rSorted, rAll, rAny, rReprS, rNext, tCutT, rCatHT, rCatA, rSlA, RT.iRevA, scal, L2.start, List.replicate, and_assoc, CDiv, CMul, CPow, ipI, rSetBg, rSortedBg, rLenA, rSumA, NT.rSetN, NT.rSortN, rExtend, rSetLw, rSortedSet, iAnyS, rMinT, rLtU, rIsiI, RZ.iZipA, tDNewK, tDGet, tDGet1, tDGet2, sDPut, rSortedDA, rSortedSetA, rCntT, iZipM, rSortTI, tBMF, rLenF, rSumF, rSetF, rTupF, tTupF, gUnl, tDisp, tPairs, tLock, iItems]
    have hP : PurseL ps := ⟨by omega, hup, hmem⟩
    refine ⟨_, hp, fun p od np hod => ?_⟩
    obtain ⟨x, y, z, hge⟩ := hg'
    exact q p ps _ (bt'.free hge np) (nb_new ⟨x, y, z, hge⟩ np) (Bw.same ⟨x, y, z, hge⟩ (same_new np)) (bt'.trans (But.of (same_new np))) (FT.new hod) hP hlen

end
end Kx

-- SXEXT: rSetBg, rSortedBg, rLenA, rSumA, NT.rSetN, NT.rSortN, rExtend, rSetLw, rSortedSet, iAnyS, rMinT, rLtU, rIsiI, RZ.iZipA, tDNewK, tDGet, tDGet1, tDGet2, sDPut, rSortedDA, rSortedSetA, rCntT, iZipM, rSortTI, tBMF, rLenF, rSumF, rSetF, rTupF, tTupF, gUnl, tDisp, tPairs, tLock, iItems
namespace Kx
open PySem L2 MG KM
section
variable {P : Program} {w : World} {K : PySem.W.Frag} {mg : Str → Option Value} {base : Heap} {f : Addr} {fd : FuncData} {C : Addr}
abbrev s_l_left : Stmt := top 21
abbrev N_l_left : List Str := ["_law_pieces", "_law_lost", "_law_found", "_law_turn", "_law_fresh", "_law_some", "_law_k"]
theorem sc_l_left : FnScope N_l_left ["_law_pieces", "_law_lost"] (defScope s_l_left) := ⟨rfl, rfl, rfl, by decide +kernel, rfl, by decide +kernel, by decide +kernel⟩
theorem ok_l_left (F : FnP K "_law_left" "_law_left" s_l_left f fd) (B : Bi mg) :
    FnOk P w K mg base CX0 1 f fd ["_law_pieces", "_law_lost"] sp_l_left38 := by
  refine okF F sc_l_left (fun vs H Q E h => by repeat (first | (obtain ⟨rfl, _⟩ := h; rfl) | obtain ⟨_, h⟩ := h)) (fun cdv A outer s H vs Q E hr h => ?_)
  obtain ⟨a, ps, n, rfl, ht, hl, hn, hnl, q⟩ := h
  refine ⟨_, (pss_cons (ps_set (i := 2) sc_l_left.nd rfl (Or.inl rfl) (pe_lst (pa_cons (pv 0) pa_nil)))
    (pss_cons (ps_for PassesOwn.never rfl (pi_range1 (by rfl) B.b_range (pa_cons (pv 1) pa_nil)) (pg_name (i := 3) sc_l_left.nd rfl (Or.inl rfl))
      (pss_cons (ps_set (i := 4) sc_l_left.nd rfl (Or.inl rfl) (pe_lst pa_nil))
      (pss_cons (ps_for PassesOwn.never rfl (pi_list (pv 2)) (pg_name (i := 5) sc_l_left.nd rfl (Or.inr rfl))
        (pss_one (ps_expr (pe_bm PySem.F.plainAttrs_list PySem.F.slot_list_extend PySem.F.type_list_extend mt_extend (pv 4) (pa_cons (pe_lc (own := [("_law_k", 6)]) (g := gName 6) (tt := tYes) (te := (tOp (rCatA K) (tSl (rSlA K) (tVar 5) tNoPart (tPart (tVar 6))) (tSl (rSlA K) (tVar 5) (tPart (tOp _ (tVar 6) (tC (.int 1)))) tNoPart))) (by rfl) sc_l_left.nd (pi_range1 (by rfl) B.b_range (pa_cons (pe_callB len_A (by rfl) B.b_len (by decide +kernel) (pa_cons (pv 5) pa_nil)) pa_nil)) (blkOk_by (own := [("_law_k", 6)]) (N := N_l_left) (sc := defScope s_l_left) (by decide +kernel)) (fun _ _ _ _ _ => pg_name (i := 6) sc_l_left.nd rfl (Or.inl rfl)) (fun _ _ _ _ _ => pts_nil) (fun _ _ _ _ _ => (pe_op op_catA (by exact (pe_slice sl_tupA (pv 5) po_none (po_some (pv 6)))) (by exact (pe_slice sl_tupA (pv 5) (po_some (pe_op op_add (pv 6) pe_int)) po_none))))) pa_nil)))))
      (pss_one (ps_set (i := 2) sc_l_left.nd rfl (Or.inl rfl) (pe_callB (NT.cr_sortN rfl hr.units) (by rfl) B.b_sorted (by decide +kernel) (pa_cons (pe_callTy (NT.cr_setN rfl hr.units) (by rfl) B.b_set (by decide +kernel) (pa_cons (pv 4) pa_nil)) pa_nil)))))))
    (pss_one (ps_ret (pv 2))))), ?_⟩
  simp [tRet, tRetN, tSeq, tNext, tNever, tDrop, tIfS, tAsg, tPar, tAug, tAugS, gName, gNil, gCons, gTup, gSub, tAndV, tOrV, tNotV, tAnd, tOr, tNot, tB, tTest, tYes, tIf, tCall, tCallK, tCallN, tMake, tProp, tMeth, getSp, tCB, tCons, tNil, tVar, tC, tOp, tUn, tChain, tLst, tTup, tFld, sFld, tBM, tBM0, tSl, tPart, tNoPart, rI0, rI, rU, rEq, rNe, rIsi, tCut, tCutR, tCutS, rIntI, tSlH, tSlS, rSumH, rTupH, rSortH, tLstRg, tRg1, tRg2, rIxH, rIxHT, rLenH, rLenHT, rIxL, rIxT, rIx, rCat, rRep, rSetL, rAppend, rSum, rMax, rMin, rEqD, rNeD, rSlL, rPopAt, rSorted, rAll, rAny, rReprS, rNext, tCutT, rCatHT, rCatA, rSlA, RT.iRevA, scal, L2.start, List.replicate, and_assoc, CDiv, CMul, CPow, ipI, rSetBg, rSortedBg, rLenA, rSumA, NT.rSetN, NT.rSortN, rExtend, rSetLw, rSortedSet, iAnyS, rMinT, rLtU, rIsiI, RZ.iZipA, tDNewK, tDGet, tDGet1, tDGet2, sDPut, rSortedDA, rSortedSetA, rCntT, iZipM, rSortTI, tBMF, rLenF, rSumF, rSetF, rTupF, tTupF, gUnl, tDisp, tPairs, tLock, iItems]
  refine ⟨by decide, ?_⟩
  intro p0 n1
  generalize eH1 : upd H p0 _ = H1
  have s1 : Same H H1 := by rw [← eH1]; exact same_new n1
  have h1 := (congrFun eH1 p0).symm.trans upd_same
  clear eH1
  refine ⟨_, rfl, n, rfl, by omega, by omega, for_range (lo := 0) (n := n) (fun i σ H' => ∃ (p : Addr) (R : List (Addr × List Nat)) (v3 v4 v5 : Option V), σ = [some (.ref a), some (.int (n : Nat)), some (.ref p), v3, v4, v5, none] ∧ Same H H' ∧ H p = none ∧ H' p = some (.lst (R.map fun r => V.ref r.1)) ∧ (∀ r ∈ R, TqA H' r.1 (intsN r.2)) ∧ (∀ m, (∃ r ∈ R, r.2 = m) ↔ m.Sublist ps ∧ m.length + i = ps.length) ∧ R.length ≤ 924) ⟨p0, [(a, ps)], none, none, none, rfl, s1, n1, h1, fun r hr => ?_, fun m => ?_, by simp⟩ ?_ ?_⟩
  · cases (show r = (a, ps) by simpa using hr)
    exact ht.same s1
  · simp only [List.mem_cons, List.not_mem_nil, or_false, exists_eq_left, Nat.add_zero]
    exact ⟨fun e => e ▸ ⟨List.Sublist.refl _, rfl⟩, fun ⟨h1, h2⟩ => (h1.eq_of_length h2).symm⟩
  · rintro i σ H' hi ⟨p, R, v3, v4, v5, rfl, s', np, hp, hR, hm, hl2⟩
    simp [tRet, tRetN, tSeq, tNext, tNever, tDrop, tIfS, tAsg, tPar, tAug, tAugS, gName, gNil, gCons, gTup, gSub, tAndV, tOrV, tNotV, tAnd, tOr, tNot, tB, tTest, tYes, tIf, tCall, tCallK, tCallN, tMake, tProp, tMeth, getSp, tCB, tCons, tNil, tVar, tC, tOp, tUn, tChain, tLst, tTup, tFld, sFld, tBM, tBM0, tSl, tPart, tNoPart, rI0, rI, rU, rEq, rNe, rIsi, tCut, tCutR, tCutS, rIntI, tSlH, tSlS, rSumH, rTupH, rSortH, tLstRg, tRg1, tRg2, rIxH, rIxHT, rLenH, rLenHT, rIxL, rIxT, rIx, rCat, rRep, rSetL, rAppend, rSum, rMax, rMin, rEqD, rNeD, rSlL, rPopAt, rSorted, rAll, rAny, rReprS, rNext, tCutT, rCatHT, rCatA, rSlA, RT.iRevA, scal, L2.start, List.replicate, and_assoc, CDiv, CMul, CPow, ipI, rSetBg, rSortedBg, rLenA, rSumA, NT.rSetN, NT.rSortN, rExtend, rSetLw, rSortedSet, iAnyS, rMinT, rLtU, rIsiI, RZ.iZipA, tDNewK, tDGet, tDGet1, tDGet2, sDPut, rSortedDA, rSortedSetA, rCntT, iZipM, rSortTI, tBMF, rLenF, rSumF, rSetF, rTupF, tTupF, gUnl, tDisp, tPairs, tLock, iItems]
    intro pf n2
    generalize eH2 : upd H' pf _ = H2
    have s2 : Same H' H2 := by rw [← eH2]; exact same_new n2
    have h2 := (congrFun eH2 pf).symm.trans upd_same
    clear eH2
    refine ⟨_, rfl, p, rfl, ⟨_, sqL (s2 _ _ hp)⟩, for_list (xs := R.map fun r => V.ref r.1) (fun j σ H3 => ∃ (v5 : Option V) (F : List (Addr × List Nat)), σ = [some (.ref a), some (.int (n : Nat)), some (.ref p), some (.int (i : Int)), some (.ref pf), v5, none] ∧ Same H' H3 ∧ H3 pf = some (.lst (F.map fun r => V.ref r.1)) ∧ (∀ r ∈ F, TqA H3 r.1 (intsN r.2)) ∧ (∀ m, (∃ r ∈ F, r.2 = m) ↔ ∃ r ∈ R.take j, ∃ k, k < r.2.length ∧ m = r.2.eraseIdx k) ∧ F.length ≤ 12 * j) ⟨v5, [], rfl, s2, h2, by simp, by simp, by simp⟩ (fun j σ H3 _ ⟨_, _, _, s3, _⟩ => sqL (s3 _ _ hp)) ?_ ?_⟩
    · rintro j x σ H3 hx ⟨v5, F, rfl, s3, hF, hFt, hFm, hFl⟩
      obtain ⟨r, hr, rfl⟩ : ∃ r, R[j]? = some r ∧ x = V.ref r.1 := by
        rw [List.getElem?_map] at hx
        cases e : R[j]? with
        | none => rw [e] at hx; cases hx
        | some r => rw [e] at hx; exact ⟨r, rfl, by simpa using hx.symm⟩
      have hrR := List.mem_of_getElem? hr
      have hrt := (hR r hrR).same s3
      have hrl : r.2.length ≤ 12 := by
        have := (hm r.2).mp ⟨r, hrR, rfl⟩
        have := this.1.length_le
        omega
      simp [tRet, tRetN, tSeq, tNext, tNever, tDrop, tIfS, tAsg, tPar, tAug, tAugS, gName, gNil, gCons, gTup, gSub, tAndV, tOrV, tNotV, tAnd, tOr, tNot, tB, tTest, tYes, tIf, tCall, tCallK, tCallN, tMake, tProp, tMeth, getSp, tCB, tCons, tNil, tVar, tC, tOp, tUn, tChain, tLst, tTup, tFld, sFld, tBM, tBM0, tSl, tPart, tNoPart, rI0, rI, rU, rEq, rNe, rIsi, tCut, tCutR, tCutS, rIntI, tSlH, tSlS, rSumH, rTupH, rSortH, tLstRg, tRg1, tRg2, rIxH, rIxHT, rLenH, rLenHT, rIxL, rIxT, rIx, rCat, rRep, rSetL, rAppend, rSum, rMax, rMin, rEqD, rNeD, rSlL, rPopAt, rSorted, rAll, rAny, rReprS, rNext, tCutT, rCatHT, rCatA, rSlA, RT.iRevA, scal, L2.start, List.replicate, and_assoc, CDiv, CMul, CPow, ipI, rSetBg, rSortedBg, rLenA, rSumA, NT.rSetN, NT.rSortN, rExtend, rSetLw, rSortedSet, iAnyS, rMinT, rLtU, rIsiI, RZ.iZipA, tDNewK, tDGet, tDGet1, tDGet2, sDPut, rSortedDA, rSortedSetA, rCntT, iZipM, rSortTI, tBMF, rLenF, rSumF, rSetF, rTupF, tTupF, gUnl, tDisp, tPairs, tLock, iItems]
      have hil : (intsN r.2).length = r.2.length := intsN_len _
      refine ⟨.inl ⟨rfl, _, sqL hF⟩, _, rfl, r.1, intsN r.2, rfl, hrt, _, rfl, by omega, by omega, fun D nD => lc_range (lo := 0) (fun k H4 => Same H3 H4 ∧ ∃ G : List (Addr × List Nat), H4 D = some (.lst (G.map fun r => V.ref r.1)) ∧ (∀ g ∈ G, TqA H4 g.1 (intsN g.2)) ∧ G.map (·.2) = (List.range k).map (r.2.eraseIdx ·)) ⟨same_new nD, [], upd_same, by simp, rfl⟩ ?_ ?_⟩
      · rintro k H4 hk ⟨s4, G, hG, hGt, hGe⟩
        have hk' : k < r.2.length := by omega
        have ht4 := hrt.same s4
        have fin := fun (Hc : Hp) (pc : Addr) (sc : Same H4 Hc) (hpc : TqA Hc pc (intsN (r.2.eraseIdx k))) => left_fin (G := G) nD (s4.trans sc) (sc _ _ hG) (fun g hg => (hGt g hg).same sc) hGe hpc (by omega)
        simp [tRet, tRetN, tSeq, tNext, tNever, tDrop, tIfS, tAsg, tPar, tAug, tAugS, gName, gNil, gCons, gTup, gSub, tAndV, tOrV, tNotV, tAnd, tOr, tNot, tB, tTest, tYes, tIf, tCall, tCallK, tCallN, tMake, tProp, tMeth, getSp, tCB, tCons, tNil, tVar, tC, tOp, tUn, tChain, tLst, tTup, tFld, sFld, tBM, tBM0, tSl, tPart, tNoPart, rI0, rI, rU, rEq, rNe, rIsi, tCut, tCutR, tCutS, rIntI, tSlH, tSlS, rSumH, rTupH, rSortH, tLstRg, tRg1, tRg2, rIxH, rIxHT, rLenH, rLenHT, rIxL, rIxT, rIx, rCat, rRep, rSetL, rAppend, rSum, rMax, rMin, rEqD, rNeD, rSlL, rPopAt, rSorted, rAll, rAny, rReprS, rNext, tCutT, rCatHT, rCatA, rSlA, RT.iRevA, scal, L2.start, List.replicate, and_assoc, CDiv, CMul, CPow, ipI, rSetBg, rSortedBg, rLenA, rSumA, NT.rSetN, NT.rSortN, rExtend, rSetLw, rSortedSet, iAnyS, rMinT, rLtU, rIsiI, RZ.iZipA, tDNewK, tDGet, tDGet1, tDGet2, sDPut, rSortedDA, rSortedSetA, rCntT, iZipM, rSortTI, tBMF, rLenF, rSumF, rSetF, rTupF, tTupF, gUnl, tDisp, tPairs, tLock, iItems, wipe]
        refine ⟨intsN r.2, ht4.t, fun _ e1 => ?_, fun _ pa na => ⟨intsN r.2, (ht4.same (same_new na)).t, fun e1 => ?_, fun _ pb nb => ?_⟩⟩
        · exfalso
          rw [HT.sIx_nat] at e1
          omega
        · exfalso
          rw [show ((k : Int) + 1) = ((k + 1 : Nat) : Int) by omega, HT.sIx_nat] at e1
          omega
        · have sa := same_new (o := HO.tup (cutV (intsN r.2) none (some (k : Int)))) na
          have sb := same_new (o := HO.tup (cutV (intsN r.2) (some ((k : Int) + 1)) none)) nb
          have ea : upd H4 pa (HO.tup (cutV (intsN r.2) none (some (k : Int)))) pa = some (.tup (intsN (r.2.take k))) := by rw [upd_same, cut_take, intsN_take]
          have eb : upd (upd H4 pa (HO.tup (cutV (intsN r.2) none (some (k : Int))))) pb (HO.tup (cutV (intsN r.2) (some ((k : Int) + 1)) none)) pb = some (.tup (intsN (r.2.drop (k + 1)))) := by
            rw [upd_same, show ((k : Int) + 1) = ((k + 1 : Nat) : Int) by omega, cut_dropF]
            unfold intsN
            rw [List.map_drop]
          generalize upd H4 pa (HO.tup (cutV (intsN r.2) none (some (k : Int)))) = Ha at sa ea sb eb nb ⊢
          generalize upd Ha pb (HO.tup (cutV (intsN r.2) (some ((k : Int) + 1)) none)) = Hb at sb eb ⊢
          refine ⟨intsN (r.2.take k), sqT (sb _ _ ea), intsN (r.2.drop (k + 1)), sqT eb, ?_, fun e => ?_, fun e e2 => ?_, fun e e2 pc nc => ?_⟩
          · rw [intsN_len, intsN_len, List.length_take, List.length_drop]
            exact Nat.le_trans (show _ ≤ 12 by omega) (by decide)
          · refine fin _ pb (sa.trans sb) (.inl ?_)
            rw [eb, ← cut_both, e]
            rfl
          · refine fin _ pa (sa.trans sb) (.inl ?_)
            rw [sb _ _ ea, ← cut_both, e2, List.append_nil]
          · refine fin _ pc ((sa.trans sb).trans (same_new nc)) (.inl ?_)
            rw [upd_same, cut_both]
      · rintro H4 ⟨s4, G, hG, hGt, hGe⟩
        rw [hil, Int.toNat_natCast] at hGe
        simp [tRet, tRetN, tSeq, tNext, tNever, tDrop, tIfS, tAsg, tPar, tAug, tAugS, gName, gNil, gCons, gTup, gSub, tAndV, tOrV, tNotV, tAnd, tOr, tNot, tB, tTest, tYes, tIf, tCall, tCallK, tCallN, tMake, tProp, tMeth, getSp, tCB, tCons, tNil, tVar, tC, tOp, tUn, tChain, tLst, tTup, tFld, sFld, tBM, tBM0, tSl, tPart, tNoPart, rI0, rI, rU, rEq, rNe, rIsi, tCut, tCutR, tCutS, rIntI, tSlH, tSlS, rSumH, rTupH, rSortH, tLstRg, tRg1, tRg2, rIxH, rIxHT, rLenH, rLenHT, rIxL, rIxT, rIx, rCat, rRep, rSetL, rAppend, rSum, rMax, rMin, rEqD, rNeD, rSlL, rPopAt, rSorted, rAll, rAny, rReprS, rNext, tCutT, rCatHT, rCatA, rSlA, RT.iRevA, scal, L2.start, List.replicate, and_assoc, CDiv, CMul, CPow, ipI, rSetBg, rSortedBg, rLenA, rSumA, NT.rSetN, NT.rSortN, rExtend, rSetLw, rSortedSet, iAnyS, rMinT, rLtU, rIsiI, RZ.iZipA, tDNewK, tDGet, tDGet1, tDGet2, sDPut, rSortedDA, rSortedSetA, rCntT, iZipM, rSortTI, tBMF, rLenF, rSumF, rSetF, rTupF, tTupF, gUnl, tDisp, tPairs, tLock, iItems]
        have hGl : G.length = r.2.length := by
          have := congrArg List.length hGe
          simpa using this
        have hF4 := s4 _ _ hF
        have hjl : j < R.length := (List.getElem?_eq_some_iff.mp hr).1
        refine ⟨_, hF4, _, hG, ?_, Same.updN (s3.trans s4) n2, F ++ G, by rw [upd_same, List.map_append], fun a b hab => ?_, left_more hr hFm hGe, ?_⟩
        · rw [List.length_map, List.length_map]
          exact Nat.le_trans (show _ ≤ 12000 by omega) (by decide)
        · rcases List.mem_append.mp hab with h | h
          · exact ((hFt _ h).same s4).upd hF4
          · exact (hGt _ h).upd hF4
        · rw [List.length_append]
          omega
    · rintro σ H3 ⟨v5, F, rfl, s3, hF, hFt, hFm, hFl⟩
      rw [List.length_map] at hFl
      rw [List.length_map, List.take_length] at hFm
      have hFs : ∀ m, (∃ r ∈ F, r.2 = m) ↔ m.Sublist ps ∧ m.length + (i + 1) = ps.length := fun m => by
        rw [hFm, left_next]
        constructor
        · rintro ⟨r, hr, k, hk, e⟩
          exact ⟨r.2, (hm r.2).mp ⟨r, hr, rfl⟩, k, hk, e⟩
        · rintro ⟨m', h', k, hk, e⟩
          obtain ⟨r, hr, rfl⟩ := (hm m').mpr h'
          exact ⟨r, hr, k, hk, e⟩
      simp [tRet, tRetN, tSeq, tNext, tNever, tDrop, tIfS, tAsg, tPar, tAug, tAugS, gName, gNil, gCons, gTup, gSub, tAndV, tOrV, tNotV, tAnd, tOr, tNot, tB, tTest, tYes, tIf, tCall, tCallK, tCallN, tMake, tProp, tMeth, getSp, tCB, tCons, tNil, tVar, tC, tOp, tUn, tChain, tLst, tTup, tFld, sFld, tBM, tBM0, tSl, tPart, tNoPart, rI0, rI, rU, rEq, rNe, rIsi, tCut, tCutR, tCutS, rIntI, tSlH, tSlS, rSumH, rTupH, rSortH, tLstRg, tRg1, tRg2, rIxH, rIxHT, rLenH, rLenHT, rIxL, rIxT, rIx, rCat, rRep, rSetL, rAppend, rSum, rMax, rMin, rEqD, rNeD, rSlL, rPopAt, rSorted, rAll, rAny, rReprS, rNext, tCutT, rCatHT, rCatA, rSlA, RT.iRevA, scal, L2.start, List.replicate, and_assoc, CDiv, CMul, CPow, ipI, rSetBg, rSortedBg, rLenA, rSumA, NT.rSetN, NT.rSortN, rExtend, rSetLw, rSortedSet, iAnyS, rMinT, rLtU, rIsiI, RZ.iZipA, tDNewK, tDGet, tDGet1, tDGet2, sDPut, rSortedDA, rSortedSetA, rCntT, iZipM, rSortTI, tBMF, rLenF, rSumF, rSetF, rTupF, tTupF, gUnl, tDisp, tPairs, tLock, iItems]
      refine ⟨nks F, by rw [nks_refs]; exact sqL hF, fun x y hxy => ?_, few_nkK (ps := ps) (j := ps.length - (i + 1)) hl fun r hr => have h := (hFs r.2).mp ⟨r, hr, rfl⟩; ⟨h.1, by have := h.2; omega⟩, fun c L nc g1 g2 nd => ?_⟩
      · obtain ⟨r, hr, e⟩ := nks_mem.mp hxy
        cases e
        exact keyT_nk (hFt r hr)
      have sc := same_new (o := NT.SetNO w c L) nc
      have g1' : ∀ p ∈ L, p ∈ nks F := fun p hp => g1 p.1 p.2 hp
      have g2' : ∀ p ∈ nks F, p.2 ∈ L.map (·.2) := fun p hp => let ⟨x, hx⟩ := g2 p.1 p.2 hp; List.mem_map.mpr ⟨_, hx, rfl⟩
      refine ⟨L, upd_same, fun x y hxy => ?_, can_nk fun p hp => ?_, few_nkK (ps := ps) (j := ps.length - (i + 1)) hl (fun r hr => have h := (hFs r.2).mp ⟨r, hr, rfl⟩; ⟨h.1, by have := h.2; omega⟩) L nd g1', fun M p2 sd np2 => ?_⟩
      · obtain ⟨r, hr, e⟩ := nks_mem.mp (g1 _ _ hxy)
        cases e
        exact keyT_nk ((hFt r hr).same sc)
      · obtain ⟨r, hr, e⟩ := nks_mem.mp (g1' p hp)
        exact ⟨r.2, e ▸ rfl⟩
      obtain ⟨R', rfl, hRF, hRm, hRn⟩ := rows_sorted g1' g2' nd sd
      have st := (s3.trans sc).trans (same_new (o := HO.lst ((nks R').map fun q => V.ref q.1)) np2)
      have sq := (sc.trans (same_new (o := HO.lst ((nks R').map fun q => V.ref q.1)) np2))
      refine ⟨s'.trans st, (s'.trans (s3.trans sc)).free np2, R', by rw [upd_same, nks_refs], fun x y hxy => (hFt _ (hRF _ hxy)).same sq, fun m => ?_, ?_⟩
      · have := (hRm m).trans (hFs m)
        rw [← this]
        exact ⟨fun ⟨x, hx⟩ => ⟨_, hx, rfl⟩, fun ⟨r, hr, e⟩ => ⟨r.1, e ▸ hr⟩⟩
      · have := rows_fewK (j := ps.length - (i + 1)) hl hRn fun r hr => have h := (hFs r.2).mp ⟨r, hRF r hr, rfl⟩; ⟨h.1, by have := h.2; omega⟩
        exact this
  · rintro σ H' ⟨p, R, v3, v4, v5, rfl, s', np, hp, hR, hm, hl2⟩
    exact ⟨_, rfl, q p R H' np s' hp hR hm hl2⟩

end
end Kx

-- SXEXT: rSetBg, rSortedBg, rLenA, rSumA, NT.rSetN, NT.rSortN, rExtend, rSetLw, rSortedSet, iAnyS, rMinT, rLtU, rIsiI, RZ.iZipA, tDNewK, tDGet, tDGet1, tDGet2, sDPut, rSortedDA, rSortedSetA, rCntT, iZipM, rSortTI, tBMF, rLenF, rSumF, rSetF, rTupF, tTupF, gUnl, tDisp, tPairs, tLock, iItems
namespace Kx
open PySem L2 MG KM
section
variable {P : Program} {w : World} {K : PySem.W.Frag} {mg : Str → Option Value} {base : Heap} {f : Addr} {fd : FuncData} {C : Addr}
abbrev s_l_sums : Stmt := top 22
abbrev N_l_sums : List Str := ["_law_pieces", "_law_found", "_law_piece", "_law_total"]
theorem sc_l_sums : FnScope N_l_sums ["_law_pieces"] (defScope s_l_sums) := ⟨rfl, rfl, rfl, by decide +kernel, rfl, by decide +kernel, by decide +kernel⟩
theorem ok_l_sums (F : FnP K "_law_sums" "_law_sums" s_l_sums f fd) (B : Bi mg) :
    FnOk P w K mg base CX0 1 f fd ["_law_pieces"] sp_l_sums38 := by
  refine okF F sc_l_sums (fun vs H Q E h => by repeat (first | (obtain ⟨rfl, _⟩ := h; rfl) | obtain ⟨_, h⟩ := h)) (fun cdv A outer s H vs Q E hr h => ?_)
  obtain ⟨a, ps, rfl, ht, hl, q⟩ := h
  refine ⟨_, (pss_cons (ps_set (i := 1) sc_l_sums.nd rfl (Or.inl rfl) (pe_lst (pa_cons pe_int pa_nil)))
    (pss_cons (ps_for PassesOwn.never rfl (pi_tup (pv 0)) (pg_name (i := 2) sc_l_sums.nd rfl (Or.inr rfl))
      (pss_one (ps_set (i := 1) sc_l_sums.nd rfl (Or.inl rfl) (pe_callB (sortedBg rfl) (by rfl) B.b_sorted (by decide +kernel) (pa_cons (pe_callTy (set_Bg rfl) (by rfl) B.b_set (by decide +kernel) (pa_cons (pe_op op_cat (pv 1) (pe_lc (own := [("_law_total", 3)]) (g := gName 3) (tt := tYes)  (by rfl) sc_l_sums.nd (pi_list (pv 1)) (blkOk_by (own := [("_law_total", 3)]) (N := N_l_sums) (sc := defScope s_l_sums) (by decide +kernel)) (fun _ _ _ _ _ => pg_name (i := 3) sc_l_sums.nd rfl (Or.inl rfl)) (fun _ _ _ _ _ => pts_nil) (fun _ _ _ _ _ => (pe_op op_add (pv 3) (pv 2))))) pa_nil)) pa_nil)))))
    (pss_one (ps_ret (pv 1))))), ?_⟩
  simp [tRet, tRetN, tSeq, tNext, tNever, tDrop, tIfS, tAsg, tPar, tAug, tAugS, gName, gNil, gCons, gTup, gSub, tAndV, tOrV, tNotV, tAnd, tOr, tNot, tB, tTest, tYes, tIf, tCall, tCallK, tCallN, tMake, tProp, tMeth, getSp, tCB, tCons, tNil, tVar, tC, tOp, tUn, tChain, tLst, tTup, tFld, sFld, tBM, tBM0, tSl, tPart, tNoPart, rI0, rI, rU, rEq, rNe, rIsi, tCut, tCutR, tCutS, rIntI, tSlH, tSlS, rSumH, rTupH, rSortH, tLstRg, tRg1, tRg2, rIxH, rIxHT, rLenH, rLenHT, rIxL, rIxT, rIx, rCat, rRep, rSetL, rAppend, rSum, rMax, rMin, rEqD, rNeD, rSlL, rPopAt, rSorted, rAll, rAny, rReprS, rNext, tCutT, rCatHT, rCatA, rSlA, RT.iRevA, scal, L2.start, List.replicate, and_assoc, CDiv, CMul, CPow, ipI, rSetBg, rSortedBg, rLenA, rSumA, NT.rSetN, NT.rSortN, rExtend, rSetLw, rSortedSet, iAnyS, rMinT, rLtU, rIsiI, RZ.iZipA, tDNewK, tDGet, tDGet1, tDGet2, sDPut, rSortedDA, rSortedSetA, rCntT, iZipM, rSortTI, tBMF, rLenF, rSumF, rSetF, rTupF, tTupF, gUnl, tDisp, tPairs, tLock, iItems]
  refine ⟨by decide, ?_⟩
  intro p0 n1
  generalize eH1 : upd H p0 _ = H1
  have s1 : Same H H1 := by rw [← eH1]; exact same_new n1
  have h1 := (congrFun eH1 p0).symm.trans upd_same
  clear eH1
  have hz0 : ∀ z : Int, z ∈ [(0 : Int)] ↔ Price [] [] z := fun z => by
    constructor
    · intro h
      have : z = 0 := by simpa using h
      exact ⟨0, 0, .nil, .nil, by omega⟩
    · rintro ⟨x, y, hx, hy, rfl⟩
      cases hx
      cases hy
      simp
  refine ⟨_, rfl, a, rfl, ⟨_, (ht.same s1).t⟩, for_tup (xs := intsN ps) (fun i σ H' => ∃ (p : Addr) (v3 v4 : Option V) (zs : List Int), σ = [some (.ref a), some (.ref p), v3, v4] ∧ Same H H' ∧ H p = none ∧ H' p = some (.lst (zs.map V.int)) ∧ zs.Pairwise (· < ·) ∧ (∀ z, z ∈ zs ↔ Price (ps.take i) [] z) ∧ zs.length ≤ 2 ^ i) ⟨p0, none, none, [0], rfl, s1, n1, h1, by simp, hz0, by simp⟩ (fun i σ H' _ ⟨_, _, _, _, _, s', _⟩ => (ht.same s').t) ?_ ?_⟩
  · rintro i x σ H' hx ⟨p, v3, v4, zs, rfl, s', np, hp, hup, hmem, hln⟩
    obtain ⟨c, hc, rfl⟩ := intsN_at hx
    have hilt := (List.getElem?_eq_some_iff.mp hc).1
    have h2i : 2 ^ (i) ≤ 2048 := Nat.pow_le_pow_right (n := 2) (by decide) (show i ≤ 11 by omega)
    simp [tRet, tRetN, tSeq, tNext, tNever, tDrop, tIfS, tAsg, tPar, tAug, tAugS, gName, gNil, gCons, gTup, gSub, tAndV, tOrV, tNotV, tAnd, tOr, tNot, tB, tTest, tYes, tIf, tCall, tCallK, tCallN, tMake, tProp, tMeth, getSp, tCB, tCons, tNil, tVar, tC, tOp, tUn, tChain, tLst, tTup, tFld, sFld, tBM, tBM0, tSl, tPart, tNoPart, rI0, rI, rU, rEq, rNe, rIsi, tCut, tCutR, tCutS, rIntI, tSlH, tSlS, rSumH, rTupH, rSortH, tLstRg, tRg1, tRg2, rIxH, rIxHT, rLenH, rLenHT, rIxL, rIxT, rIx, rCat, rRep, rSetL, rAppend, rSum, rMax, rMin, rEqD, rNeD, rSlL, rPopAt, rSorted, rAll, rAny, rReprS, rNext, tCutT, rCatHT, rCatA, rSlA, RT.iRevA, scal, L2.start, List.replicate, and_assoc, CDiv, CMul, CPow, ipI, rSetBg, rSortedBg, rLenA, rSumA, NT.rSetN, NT.rSortN, rExtend, rSetLw, rSortedSet, iAnyS, rMinT, rLtU, rIsiI, RZ.iZipA, tDNewK, tDGet, tDGet1, tDGet2, sDPut, rSortedDA, rSortedSetA, rCntT, iZipM, rSortTI, tBMF, rLenF, rSumF, rSetF, rTupF, tTupF, gUnl, tDisp, tPairs, tLock, iItems]
    refine ⟨_, rfl, p, rfl, ⟨_, sqL hp⟩, fun D nD => lc_list (xs := zs.map V.int) (fun j H2 => Same H' H2 ∧ H2 D = some (.lst (((zs.map fun z => z + (c : Int)).take j).map V.int))) ⟨same_new nD, upd_same⟩ (fun j H2 _ ⟨s2, _⟩ => sqL (s2 _ _ hp)) ?_ ?_⟩
    · rintro j x H2 hx2 ⟨s2, hD⟩
      obtain ⟨z, hz, rfl⟩ := int_at hx2
      simp [tRet, tRetN, tSeq, tNext, tNever, tDrop, tIfS, tAsg, tPar, tAug, tAugS, gName, gNil, gCons, gTup, gSub, tAndV, tOrV, tNotV, tAnd, tOr, tNot, tB, tTest, tYes, tIf, tCall, tCallK, tCallN, tMake, tProp, tMeth, getSp, tCB, tCons, tNil, tVar, tC, tOp, tUn, tChain, tLst, tTup, tFld, sFld, tBM, tBM0, tSl, tPart, tNoPart, rI0, rI, rU, rEq, rNe, rIsi, tCut, tCutR, tCutS, rIntI, tSlH, tSlS, rSumH, rTupH, rSortH, tLstRg, tRg1, tRg2, rIxH, rIxHT, rLenH, rLenHT, rIxL, rIxT, rIx, rCat, rRep, rSetL, rAppend, rSum, rMax, rMin, rEqD, rNeD, rSlL, rPopAt, rSorted, rAll, rAny, rReprS, rNext, tCutT, rCatHT, rCatA, rSlA, RT.iRevA, scal, L2.start, List.replicate, and_assoc, CDiv, CMul, CPow, ipI, rSetBg, rSortedBg, rLenA, rSumA, NT.rSetN, NT.rSortN, rExtend, rSetLw, rSortedSet, iAnyS, rMinT, rLtU, rIsiI, RZ.iZipA, tDNewK, tDGet, tDGet1, tDGet2, sDPut, rSortedDA, rSortedSetA, rCntT, iZipM, rSortTI, tBMF, rLenF, rSumF, rSetF, rTupF, tTupF, gUnl, tDisp, tPairs, tLock, iItems, wipe]
      refine ⟨_, hD, Nat.lt_of_le_of_lt (show _ ≤ 4096 by simp; omega) (by decide), Same.updN s2 nD, ?_⟩
      have e : (zs.map fun z => z + (c : Int))[j]? = some (z + (c : Int)) := by rw [List.getElem?_map, hz]; rfl
      rw [upd_same]
      simp [List.take_add_one, List.map_take, hz]
    · rintro H2 ⟨s2, hD⟩
      rw [List.length_map, show zs.length = (zs.map fun z => z + (c : Int)).length by simp, List.take_length] at hD
      refine ⟨D, rfl, _, s2 _ _ hp, _, hD, Nat.le_trans (show _ ≤ 4096 by simp; omega) (by decide), fun p3 n3 => ⟨zs ++ zs.map fun z => z + (c : Int), by rw [upd_same, List.map_append], by simp; omega, fun p4 cc n4 hcc => ⟨_, _, upd_same, fun ns p5 hup5 hmem5 hlen5 n5 => ?_⟩⟩⟩
      have st := ((s'.trans s2).trans (same_new n3)).trans (same_new (o := SetB w p4 (fun j => decide (j ∈ zs ++ zs.map fun z => z + (c : Int))) cc) n4)
      refine ⟨st.trans (same_new n5), st.free n5, ns, upd_same, hup5, fun z => ?_, ?_⟩
      · rw [hmem5 z, price_buy hc, decide_eq_true_iff, List.mem_append, hmem, ← hmem (z - (c : Int))]
        refine or_congr Iff.rfl ?_
        rw [List.mem_map]
        constructor
        · rintro ⟨y, hy, rfl⟩
          rw [show (y + (c : Int)) - (c : Int) = y by omega]
          exact hy
        · intro h
          exact ⟨_, h, by omega⟩
      · rw [List.length_append, List.length_map] at hcc
        rw [show i + 1 = i.succ from rfl, Nat.pow_succ]
        omega
  · rintro σ H' ⟨p, v3, v4, zs, rfl, s', np, hp, hup, hmem, hln⟩
    rw [intsN_len, List.take_length] at hmem
    rw [intsN_len] at hln
    have h2i : 2 ^ ps.length ≤ 4096 := Nat.pow_le_pow_right (n := 2) (by decide) hl
    exact ⟨_, rfl, q p zs H' np s' hp hup hmem (by omega)⟩

end
end Kx

-- SXEXT: rSetBg, rSortedBg, rLenA, rSumA, NT.rSetN, NT.rSortN, rExtend, rSetLw, rSortedSet, iAnyS, rMinT, rLtU, rIsiI, RZ.iZipA, tDNewK, tDGet, tDGet1, tDGet2, sDPut, rSortedDA, rSortedSetA, rCntT, iZipM, rSortTI, tBMF, rLenF, rSumF, rSetF, rTupF, tTupF, gUnl, tDisp, tPairs, tLock, iItems
namespace Kx
open PySem L2 MG KM
section
variable {P : Program} {w : World} {K : PySem.W.Frag} {mg : Str → Option Value} {base : Heap} {f : Addr} {fd : FuncData} {C : Addr}
abbrev s_l_full : Stmt := top 23
abbrev N_l_full : List Str := ["_law_pieces", "_law_lost", "_law_some"]
theorem sc_l_full : FnScope N_l_full ["_law_pieces", "_law_lost"] (defScope s_l_full) := ⟨rfl, rfl, rfl, by decide +kernel, rfl, by decide +kernel, by decide +kernel⟩
theorem ok_l_full (F : FnP K "_law_full" "_law_full" s_l_full f fd) (B : Bi mg) (C_l_left : Cal P w K mg base 1 "_law_left" ["_law_pieces", "_law_lost"] sp_l_left38) (C_l_sums : Cal P w K mg base 1 "_law_sums" ["_law_pieces"] sp_l_sums38) :
    FnOk P w K mg base CX0 2 f fd ["_law_pieces", "_law_lost"] sp_l_full38 := by
  refine okF F sc_l_full (fun vs H Q E h => by repeat (first | (obtain ⟨rfl, _⟩ := h; rfl) | obtain ⟨_, h⟩ := h)) (fun cdv A outer s H vs Q E hr h => ?_)
  obtain ⟨a, ps, n, rfl, ht, hs, hl, hn, q⟩ := h
  refine ⟨_, (pss_cons (ps_if (pt_cmpR op_le (pe_callB len_A (by rfl) B.b_len (by decide +kernel) (pa_cons (pv 0) pa_nil)) (pv 1) (nomark _))
      (pss_one (ps_ret pe_bl))
      pss_nil)
    (pss_cons (ps_for PassesOwn.never rfl (pi_list (pe_cal C_l_left hr (pa_cons (pv 0) (pa_cons (pv 1) pa_nil)))) (pg_name (i := 2) sc_l_full.nd rfl (Or.inl rfl))
      (pss_one (ps_if (pt_cmpR op_ne (pe_callB len_H (by rfl) B.b_len (by decide +kernel) (pa_cons (pe_cal C_l_sums hr (pa_cons (pv 2) pa_nil)) pa_nil)) (pe_op op_add (pe_callB (sum_A rfl) (by rfl) B.b_sum (by decide +kernel) (pa_cons (pv 2) pa_nil)) pe_int) (nomark _))
        (pss_one (ps_ret pe_bl))
        pss_nil)))
    (pss_one (ps_ret pe_bl)))), ?_⟩
  simp [tRet, tRetN, tSeq, tNext, tNever, tDrop, tIfS, tAsg, tPar, tAug, tAugS, gName, gNil, gCons, gTup, gSub, tAndV, tOrV, tNotV, tAnd, tOr, tNot, tB, tTest, tYes, tIf, tCall, tCallK, tCallN, tMake, tProp, tMeth, getSp, tCB, tCons, tNil, tVar, tC, tOp, tUn, tChain, tLst, tTup, tFld, sFld, tBM, tBM0, tSl, tPart, tNoPart, rI0, rI, rU, rEq, rNe, rIsi, tCut, tCutR, tCutS, rIntI, tSlH, tSlS, rSumH, rTupH, rSortH, tLstRg, tRg1, tRg2, rIxH, rIxHT, rLenH, rLenHT, rIxL, rIxT, rIx, rCat, rRep, rSetL, rAppend, rSum, rMax, rMin, rEqD, rNeD, rSlL, rPopAt, rSorted, rAll, rAny, rReprS, rNext, tCutT, rCatHT, rCatA, rSlA, RT.iRevA, scal, L2.start, List.replicate, and_assoc, CDiv, CMul, CPow, ipI, rSetBg, rSortedBg, rLenA, rSumA, NT.rSetN, NT.rSortN, rExtend, rSetLw, rSortedSet, iAnyS, rMinT, rLtU, rIsiI, RZ.iZipA, tDNewK, tDGet, tDGet1, tDGet2, sDPut, rSortedDA, rSortedSetA, rCntT, iZipM, rSortTI, tBMF, rLenF, rSumF, rSetF, rTupF, tTupF, gUnl, tDisp, tPairs, tLock, iItems]
  refine ⟨_, ht, ?_⟩
  rw [intsN_len]
  split
  · rename_i hle
    exact q false H (Same.refl _) ⟨nofun, fun h => by omega⟩
  rename_i hlt
  have hnl : n < ps.length := by omega
  have key := KU.full_iff (K := n) hs hnl
  refine ⟨_, rfl, _, rfl, a, ps, n, rfl, ht, hl, hn, hnl, fun p R H1 np s1 hp hR hm hRl => ⟨p, rfl, ⟨_, sqL hp⟩, for_list (xs := R.map fun r => V.ref r.1) (fun i σ H' => ∃ v2 : Option V, σ = [some (.ref a), some (.int (n : Nat)), v2] ∧ Same H1 H' ∧ ∀ r ∈ R.take i, KU.Whole r.2) ⟨none, rfl, Same.refl H1, by simp⟩ (fun i σ H' _ ⟨_, _, s', _⟩ => sqL (s' _ _ hp)) ?_ ?_⟩⟩
  · rintro i x σ H' hx ⟨v2, rfl, s', hw⟩
    obtain ⟨r, hr, rfl⟩ : ∃ r, R[i]? = some r ∧ x = V.ref r.1 := by
      rw [List.getElem?_map] at hx
      cases e : R[i]? with
      | none => rw [e] at hx; cases hx
      | some r => rw [e] at hx; exact ⟨r, rfl, by simpa using hx.symm⟩
    have hrR := List.mem_of_getElem? hr
    have hrt := (hR r hrR).same s'
    have hrs := (hm r.2).mp ⟨r, hrR, rfl⟩
    simp [tRet, tRetN, tSeq, tNext, tNever, tDrop, tIfS, tAsg, tPar, tAug, tAugS, gName, gNil, gCons, gTup, gSub, tAndV, tOrV, tNotV, tAnd, tOr, tNot, tB, tTest, tYes, tIf, tCall, tCallK, tCallN, tMake, tProp, tMeth, getSp, tCB, tCons, tNil, tVar, tC, tOp, tUn, tChain, tLst, tTup, tFld, sFld, tBM, tBM0, tSl, tPart, tNoPart, rI0, rI, rU, rEq, rNe, rIsi, tCut, tCutR, tCutS, rIntI, tSlH, tSlS, rSumH, rTupH, rSortH, tLstRg, tRg1, tRg2, rIxH, rIxHT, rLenH, rLenHT, rIxL, rIxT, rIx, rCat, rRep, rSetL, rAppend, rSum, rMax, rMin, rEqD, rNeD, rSlL, rPopAt, rSorted, rAll, rAny, rReprS, rNext, tCutT, rCatHT, rCatA, rSlA, RT.iRevA, scal, L2.start, List.replicate, and_assoc, CDiv, CMul, CPow, ipI, rSetBg, rSortedBg, rLenA, rSumA, NT.rSetN, NT.rSortN, rExtend, rSetLw, rSortedSet, iAnyS, rMinT, rLtU, rIsiI, RZ.iZipA, tDNewK, tDGet, tDGet1, tDGet2, sDPut, rSortedDA, rSortedSetA, rCntT, iZipM, rSortTI, tBMF, rLenF, rSumF, rSetF, rTupF, tTupF, gUnl, tDisp, tPairs, tLock, iItems]
    refine ⟨r.1, r.2, rfl, hrt, by have := hrs.1.length_le; omega, fun c zs H2 nc s2 hc hup hmem hzl => ?_⟩
    have hwl := whole_len hup hmem
    refine ⟨c, rfl, _, hc, r.2.map fun (p : Nat) => (p : Int), by rw [← intsN_ints]; exact hrt.same s2, ?_⟩
    rw [sum_castN, List.length_map]
    by_cases he : zs.length = r.2.sum + 1
    · refine .inl ⟨by omega, s'.trans s2, fun x y hxy => ?_⟩
      rw [KW.take_succ_of' hr] at hxy
      rcases List.mem_append.mp hxy with h | h
      · exact hw _ h
      · cases (show (x, y) = r by simpa using h)
        exact hwl.mp he
    · refine .inr ⟨by omega, q false H2 ((s1.trans s').trans s2) ⟨nofun, fun h => ?_⟩⟩
      exact absurd (hwl.mpr (key.mpr h.2 r.2 hrs.1 hrs.2)) he
  · rintro σ H' ⟨v2, rfl, s', hw⟩
    rw [List.length_map, List.take_length] at hw
    refine q true H' (s1.trans s') ⟨fun _ => ⟨hnl, key.mp fun m h1 h2 => ?_⟩, fun _ => rfl⟩
    obtain ⟨r, hr, rfl⟩ := (hm m).mpr ⟨h1, h2⟩
    exact hw r hr

end
end Kx

-- SXEXT: rSetBg, rSortedBg, rLenA, rSumA, NT.rSetN, NT.rSortN, rExtend, rSetLw, rSortedSet, iAnyS, rMinT, rLtU, rIsiI, RZ.iZipA, tDNewK, tDGet, tDGet1, tDGet2, sDPut, rSortedDA, rSortedSetA, rCntT, iZipM, rSortTI, tBMF, rLenF, rSumF, rSetF, rTupF, tTupF, gUnl, tDisp, tPairs, tLock, iItems
namespace Kx
open PySem L2 MG KM
section
variable {P : Program} {w : World} {K : PySem.W.Frag} {mg : Str → Option Value} {base : Heap} {f : Addr} {fd : FuncData} {C : Addr}
abbrev s_l_asked : Stmt := top 24
abbrev N_l_asked : List Str := ["_law_pieces", "_law_lost", "_law_due", "_law_told"]
theorem sc_l_asked : FnScope N_l_asked ["_law_pieces", "_law_lost"] (defScope s_l_asked) := ⟨rfl, rfl, rfl, by decide +kernel, rfl, by decide +kernel, by decide +kernel⟩
theorem ok_l_asked (F : FnP K "_law_asked" "_law_asked" s_l_asked f fd) (C_l_full : Cal P w K mg base 2 "_law_full" ["_law_pieces", "_law_lost"] sp_l_full38) (K_is_full_lost_purse : CalK P w K mg base 5 "is_full" ["purse", "lost"] sp_is_full 0 ["lost", "purse"] (fun _ zs => gP [1, 0] zs)) (C_is_full : Cal P w K mg base 5 "is_full" ["purse", "lost"] sp_is_full) (B : Bi mg) :
    FnOk P w K mg base CX0 6 f fd ["_law_pieces", "_law_lost"] sp_l_asked38 := by
  refine okF F sc_l_asked (fun vs H Q E h => by repeat (first | (obtain ⟨rfl, _⟩ := h; rfl) | obtain ⟨_, h⟩ := h)) (fun cdv A outer s H vs Q E hr h => ?_)
  obtain ⟨a, ps, n, rfl, ha, hP, hn, q⟩ := h
  refine ⟨_, (pss_cons (ps_set (i := 2) sc_l_asked.nd rfl (Or.inl rfl) (pe_cal C_l_full hr (pa_cons (pv 0) (pa_cons (pv 1) pa_nil))))
    (pss_cons (ps_for PassesOwn.never rfl (pi_list (pe_lst (pa_cons (pe_cal C_is_full hr (pa_cons (pv 0) (pa_cons (pv 1) pa_nil))) (pa_cons (pe_calK0 K_is_full_lost_purse hr (pk_cons (pv 1) (pk_cons (pv 0) pk_nil))) pa_nil)))) (pg_name (i := 3) sc_l_asked.nd rfl (Or.inl rfl))
      (pss_one (ps_if (PW.pt (pw_or (pt_not (pt_val (pe_callB call_isi (by rfl) B.b_isinstance (by decide +kernel) (pa_cons (pv 3) (pa_cons (pe_bltn (v := .ty "bool") (by rfl) B.b_bool (by decide +kernel) rfl) pa_nil))))) (pw_or1 (pt_cmpR op_ne (pv 3) (pv 2) (nomark _)))))
        (pss_one (ps_ret pe_bl))
        pss_nil)))
    (pss_one (ps_ret (pe_or (pe_not (pv 2)) (pe_or (pe_cmpR op_eq (pv 1) pe_int (nomark _)) (pe_one (pe_cmpR op_isB (pe_cal C_is_full hr (pa_cons (pv 0) (pa_cons (pe_op op_sub (pv 1) pe_int) pa_nil))) pe_bl (nomark _))))))))), ?_⟩
  simp [tRet, tRetN, tSeq, tNext, tNever, tDrop, tIfS, tAsg, tPar, tAug, tAugS, gName, gNil, gCons, gTup, gSub, tAndV, tOrV, tNotV, tAnd, tOr, tNot, tB, tTest, tYes, tIf, tCall, tCallK, tCallN, tMake, tProp, tMeth, getSp, tCB, tCons, tNil, tVar, tC, tOp, tUn, tChain, tLst, tTup, tFld, sFld, tBM, tBM0, tSl, tPart, tNoPart, rI0, rI, rU, rEq, rNe, rIsi, tCut, tCutR, tCutS, rIntI, tSlH, tSlS, rSumH, rTupH, rSortH, tLstRg, tRg1, tRg2, rIxH, rIxHT, rLenH, rLenHT, rIxL, rIxT, rIx, rCat, rRep, rSetL, rAppend, rSum, rMax, rMin, rEqD, rNeD, rSlL, rPopAt, rSorted, rAll, rAny, rReprS, rNext, tCutT, rCatHT, rCatA, rSlA, RT.iRevA, scal, L2.start, List.replicate, and_assoc, CDiv, CMul, CPow, ipI, rSetBg, rSortedBg, rLenA, rSumA, NT.rSetN, NT.rSortN, rExtend, rSetLw, rSortedSet, iAnyS, rMinT, rLtU, rIsiI, RZ.iZipA, tDNewK, tDGet, tDGet1, tDGet2, sDPut, rSortedDA, rSortedSetA, rCntT, iZipM, rSortTI, tBMF, rLenF, rSumF, rSetF, rTupF, tTupF, gUnl, tDisp, tPairs, tLock, iItems]
  refine ⟨a, ps, n, rfl, .inr ha, hP.up, hP.few, hn, fun d H1 s1 hd => ?_⟩
  have ha1 := ha.same s1
  refine ⟨_, rfl, _, rfl, a, ps, n, rfl, ha1, hP, hn, fun b1 H2 s2 hb1 => ⟨_, rfl, _, rfl, rfl, rfl, a, ps, n, rfl, ha1.same s2, hP, hn, fun b2 H3 s3 hb2 => ⟨(show 2 ≤ sizeLine by decide), fun l nl => ?_⟩⟩⟩
  obtain rfl : b1 = d := Bool.eq_iff_iff.mpr (hb1.trans hd.symm)
  obtain rfl : b2 = b1 := Bool.eq_iff_iff.mpr (hb2.trans hd.symm)
  have s4 := same_new (o := HO.lst [V.bl b2, V.bl b2]) nl
  have h4 : upd H3 l (HO.lst [V.bl b2, V.bl b2]) l = some (.lst [V.bl b2, V.bl b2]) := upd_same
  generalize upd H3 l (HO.lst [V.bl b2, V.bl b2]) = H4 at s4 h4 ⊢
  have ha4 := ((ha1.same s2).same s3).same s4
  refine ⟨l, rfl, ⟨_, sqL h4⟩, for_list (xs := [V.bl b2, V.bl b2]) (fun i σ H' => ∃ v3 : Option V, σ = [some (.ref a), some (.int (n : Nat)), some (.bl b2), v3] ∧ Same H4 H') ⟨none, rfl, Same.refl _⟩ (fun i σ H' _ ⟨_, _, s'⟩ => sqL (s' _ _ h4)) ?_ ?_⟩
  · rintro i x σ H' hx ⟨v3, rfl, s'⟩
    obtain rfl : x = V.bl b2 := by
      have := List.mem_of_getElem? hx
      simpa using this
    simp [tRet, tRetN, tSeq, tNext, tNever, tDrop, tIfS, tAsg, tPar, tAug, tAugS, gName, gNil, gCons, gTup, gSub, tAndV, tOrV, tNotV, tAnd, tOr, tNot, tB, tTest, tYes, tIf, tCall, tCallK, tCallN, tMake, tProp, tMeth, getSp, tCB, tCons, tNil, tVar, tC, tOp, tUn, tChain, tLst, tTup, tFld, sFld, tBM, tBM0, tSl, tPart, tNoPart, rI0, rI, rU, rEq, rNe, rIsi, tCut, tCutR, tCutS, rIntI, tSlH, tSlS, rSumH, rTupH, rSortH, tLstRg, tRg1, tRg2, rIxH, rIxHT, rLenH, rLenHT, rIxL, rIxT, rIx, rCat, rRep, rSetL, rAppend, rSum, rMax, rMin, rEqD, rNeD, rSlL, rPopAt, rSorted, rAll, rAny, rReprS, rNext, tCutT, rCatHT, rCatA, rSlA, RT.iRevA, scal, L2.start, List.replicate, and_assoc, CDiv, CMul, CPow, ipI, rSetBg, rSortedBg, rLenA, rSumA, NT.rSetN, NT.rSortN, rExtend, rSetLw, rSortedSet, iAnyS, rMinT, rLtU, rIsiI, RZ.iZipA, tDNewK, tDGet, tDGet1, tDGet2, sDPut, rSortedDA, rSortedSetA, rCntT, iZipM, rSortTI, tBMF, rLenF, rSumF, rSetF, rTupF, tTupF, gUnl, tDisp, tPairs, tLock, iItems]
    exact ⟨_, _, .ty _, .base (.bl _), .inr ⟨kit_ty (by decide +kernel), s'⟩⟩
  · rintro σ H' ⟨v3, rfl, s'⟩
    have ha5 := ha4.same s'
    have st := (s1.trans s2).trans (s3.trans (s4.trans s'))
    simp [tRet, tRetN, tSeq, tNext, tNever, tDrop, tIfS, tAsg, tPar, tAug, tAugS, gName, gNil, gCons, gTup, gSub, tAndV, tOrV, tNotV, tAnd, tOr, tNot, tB, tTest, tYes, tIf, tCall, tCallK, tCallN, tMake, tProp, tMeth, getSp, tCB, tCons, tNil, tVar, tC, tOp, tUn, tChain, tLst, tTup, tFld, sFld, tBM, tBM0, tSl, tPart, tNoPart, rI0, rI, rU, rEq, rNe, rIsi, tCut, tCutR, tCutS, rIntI, tSlH, tSlS, rSumH, rTupH, rSortH, tLstRg, tRg1, tRg2, rIxH, rIxHT, rLenH, rLenHT, rIxL, rIxT, rIx, rCat, rRep, rSetL, rAppend, rSum, rMax, rMin, rEqD, rNeD, rSlL, rPopAt, rSorted, rAll, rAny, rReprS, rNext, tCutT, rCatHT, rCatA, rSlA, RT.iRevA, scal, L2.start, List.replicate, and_assoc, CDiv, CMul, CPow, ipI, rSetBg, rSortedBg, rLenA, rSumA, NT.rSetN, NT.rSortN, rExtend, rSetLw, rSortedSet, iAnyS, rMinT, rLtU, rIsiI, RZ.iZipA, tDNewK, tDGet, tDGet1, tDGet2, sDPut, rSortedDA, rSortedSetA, rCntT, iZipM, rSortTI, tBMF, rLenF, rSumF, rSetF, rTupF, tTupF, gUnl, tDisp, tPairs, tLock, iItems]
    cases b2 with
    | false => exact .inl ⟨rfl, q H' st⟩
    | true =>
      refine .inr ⟨rfl, ?_⟩
      split
      · exact q H' st
      · rename_i hn0
        refine ⟨a, ps, n - 1, by rw [show ((n : Int) - 1) = ((n - 1 : Nat) : Int) by omega], ha5, hP, by omega, fun b6 H6 s6 hb6 => .inr ⟨?_, q H6 (st.trans s6)⟩⟩
        obtain ⟨h1, h2⟩ := hd.mp rfl
        rw [hb6.mpr ⟨by omega, h2.less⟩]

end
end Kx

-- SXEXT: rSetBg, rSortedBg, rLenA, rSumA, NT.rSetN, NT.rSortN, rExtend, rSetLw, rSortedSet, iAnyS, rMinT, rLtU, rIsiI, RZ.iZipA, tDNewK, tDGet, tDGet1, tDGet2, sDPut, rSortedDA, rSortedSetA, rCntT, iZipM, rSortTI, tBMF, rLenF, rSumF, rSetF, rTupF, tTupF, gUnl, tDisp, tPairs, tLock, iItems
namespace Kx
open PySem L2 MG KM
section
variable {P : Program} {w : World} {K : PySem.W.Frag} {mg : Str → Option Value} {base : Heap} {f : Addr} {fd : FuncData} {C : Addr}
abbrev s_l_right : Stmt := top 25
abbrev N_l_right : List Str := ["_law_well_here", "_law_lost", "_law_few", "_law_many"]
theorem sc_l_right : FnScope N_l_right ["_law_well_here"] (defScope s_l_right) := ⟨rfl, rfl, rfl, by decide +kernel, rfl, by decide +kernel, by decide +kernel⟩
theorem ok_l_right (F : FnP K "_law_right" "_law_right" s_l_right f fd) (C_l_dip : Cal P w K mg base 1 "_law_dip" ["_law_well_here", "_law_many"] sp_l_dip) (C_l_grown : Cal P w K mg base 2 "_law_grown" ["_law_well_here", "_law_many", "_law_lost", "_law_strict"] sp_l_grown38) (B : Bi mg) (C_is_full : Cal P w K mg base 5 "is_full" ["purse", "lost"] sp_is_full) (C_l_asked : Cal P w K mg base 6 "_law_asked" ["_law_pieces", "_law_lost"] sp_l_asked38) :
    FnOk P w K mg base CX0 7 f fd ["_law_well_here"] sp_drawn := by
  refine okF F sc_l_right (fun vs H Q E h => by repeat (first | (obtain ⟨rfl, _⟩ := h; rfl) | obtain ⟨_, h⟩ := h)) (fun cdv A outer s H vs Q E hr h => ?_)
  obtain ⟨g, rfl, hg, q⟩ := h
  refine ⟨_, (pss_cons (ps_set (i := 1) sc_l_right.nd rfl (Or.inl rfl) (pe_cal C_l_dip hr (pa_cons (pv 0) (pa_cons (pe_ix ix_H (pe_lst (pa_cons pe_int (pa_cons pe_int (pa_cons pe_int pa_nil)))) (pe_cal C_l_dip hr (pa_cons (pv 0) (pa_cons pe_int pa_nil))) (fun _ _ => rfl)) pa_nil))))
    (pss_cons (ps_set (i := 2) sc_l_right.nd rfl (Or.inl rfl) (pe_cal C_l_grown hr (pa_cons (pv 0) (pa_cons (pe_cal C_l_dip hr (pa_cons (pv 0) (pa_cons pe_int pa_nil))) (pa_cons (pe_ix ix_H (pe_lst (pa_cons (pv 1) (pa_cons (pe_callB (call_min2 rfl) (by rfl) B.b_min (by decide +kernel) (pa_cons (pv 1) (pa_cons pe_int pa_nil))) pa_nil))) (pe_cal C_l_dip hr (pa_cons (pv 0) (pa_cons pe_int pa_nil))) (fun _ _ => rfl)) (pa_cons pe_bl pa_nil))))))
    (pss_cons (ps_if (PW.pt (pw_or (pt_not (pt_val (pe_cal C_l_asked hr (pa_cons (pv 2) (pa_cons (pv 1) pa_nil))))) (pw_or1 (pt_val (pe_cal C_is_full hr (pa_cons (pe_tupF pa_nil) (pa_cons (pv 1) pa_nil)))))))
      (pss_one (ps_ret pe_bl))
      pss_nil)
    (pss_cons (ps_set (i := 3) sc_l_right.nd rfl (Or.inl rfl) (pe_op op_add pe_int (pe_cal C_l_dip hr (pa_cons (pv 0) (pa_cons pe_int pa_nil)))))
    (pss_cons (ps_set (i := 1) sc_l_right.nd rfl (Or.inl rfl) (pe_ix ix_H (pe_lst (pa_cons (pe_cal C_l_dip hr (pa_cons (pv 0) (pa_cons pe_int pa_nil))) (pa_cons (pe_op op_sub (pe_op op_sub (pv 3) pe_int) (pe_cal C_l_dip hr (pa_cons (pv 0) (pa_cons pe_int pa_nil)))) (pa_cons (pv 3) pa_nil)))) (pe_op op_fdiv (pe_cal C_l_dip hr (pa_cons (pv 0) (pa_cons pe_int pa_nil))) pe_int) (fun _ _ => rfl)))
    (pss_one (ps_ret (pe_cal C_l_asked hr (pa_cons (pe_cal C_l_grown hr (pa_cons (pv 0) (pa_cons (pv 3) (pa_cons (pe_ix ix_H (pe_lst (pa_cons (pv 1) (pa_cons (pe_callB (call_min2 rfl) (by rfl) B.b_min (by decide +kernel) (pa_cons (pv 1) (pa_cons pe_int pa_nil))) pa_nil))) (pe_cal C_l_dip hr (pa_cons (pv 0) (pa_cons pe_int pa_nil))) (fun _ _ => rfl)) (pa_cons pe_bl pa_nil))))) (pa_cons (pe_callB (call_min2 rfl) (by rfl) B.b_min (by decide +kernel) (pa_cons (pv 1) (pa_cons pe_int pa_nil))) pa_nil)))))))))), ?_⟩
  simp [tRet, tRetN, tSeq, tNext, tNever, tDrop, tIfS, tAsg, tPar, tAug, tAugS, gName, gNil, gCons, gTup, gSub, tAndV, tOrV, tNotV, tAnd, tOr, tNot, tB, tTest, tYes, tIf, tCall, tCallK, tCallN, tMake, tProp, tMeth, getSp, tCB, tCons, tNil, tVar, tC, tOp, tUn, tChain, tLst, tTup, tFld, sFld, tBM, tBM0, tSl, tPart, tNoPart, rI0, rI, rU, rEq, rNe, rIsi, tCut, tCutR, tCutS, rIntI, tSlH, tSlS, rSumH, rTupH, rSortH, tLstRg, tRg1, tRg2, rIxH, rIxHT, rLenH, rLenHT, rIxL, rIxT, rIx, rCat, rRep, rSetL, rAppend, rSum, rMax, rMin, rEqD, rNeD, rSlL, rPopAt, rSorted, rAll, rAny, rReprS, rNext, tCutT, rCatHT, rCatA, rSlA, RT.iRevA, scal, L2.start, List.replicate, and_assoc, CDiv, CMul, CPow, ipI, rSetBg, rSortedBg, rLenA, rSumA, NT.rSetN, NT.rSortN, rExtend, rSetLw, rSortedSet, iAnyS, rMinT, rLtU, rIsiI, RZ.iZipA, tDNewK, tDGet, tDGet1, tDGet2, sDPut, rSortedDA, rSortedSetA, rCntT, iZipM, rSortTI, tBMF, rLenF, rSumF, rSetF, rTupF, tTupF, gUnl, tDisp, tPairs, tLock, iItems]
  refine ⟨by decide, fun p np => ?_⟩
  have npg := nb_new hg np
  have s1 := same_new (o := HO.lst [V.int 3, V.int 4, V.int 10]) np
  have h1 : upd H p (HO.lst [V.int 3, V.int 4, V.int 10]) p = some (.lst [V.int 3, V.int 4, V.int 10]) := upd_same
  generalize upd H p (HO.lst [V.int 3, V.int 4, V.int 10]) = H1 at s1 h1 ⊢
  refine ⟨g, 3, rfl, hg.same s1, by decide, by decide, fun r H2 r0 r1 hg2 bt2 => ?_⟩
  have hp2 := bt2 _ _ npg h1
  obtain ⟨k, hk, hk1, hk2⟩ : ∃ k : Nat, atI [V.int 3, V.int 4, V.int 10] r = some (.int (k : Nat)) ∧ 1 ≤ k ∧ k ≤ 10 := by
    obtain rfl | rfl | rfl : r = 0 ∨ r = 1 ∨ r = 2 := by omega
    · exact ⟨3, rfl, by decide, by decide⟩
    · exact ⟨4, rfl, by decide, by decide⟩
    · exact ⟨10, rfl, by decide, by decide⟩
  refine ⟨_, _, rfl, hp2, _, hk, g, k, rfl, hg2, by omega, by omega, fun x H3 x0 x1 hg3 bt3 => ⟨g, 9, rfl, hg3, by decide, by decide, fun y H4 y0 y1 hg4 bt4 => ⟨_, rfl, by decide, fun p5 np5 => ?_⟩⟩⟩
  obtain ⟨n, rfl⟩ : ∃ n : Nat, x = n := ⟨x.toNat, by omega⟩
  obtain ⟨m, rfl⟩ : ∃ m : Nat, y = m := ⟨y.toNat, by omega⟩
  obtain ⟨n4, hn4, hn5⟩ : ∃ n4 : Nat, (if (4 : Int) < (n : Nat) then 4 else ((n : Nat) : Int)) = (n4 : Nat) ∧ n4 ≤ 12 := ⟨min n 4, by split <;> omega, by omega⟩
  rw [hn4]
  have np5g := nb_new hg4 np5
  have s5 := same_new (o := HO.lst [V.int (n : Nat), V.int (n4 : Nat)]) np5
  have h5 : upd H4 p5 (HO.lst [V.int (n : Nat), V.int (n4 : Nat)]) p5 = some (.lst [V.int (n : Nat), V.int (n4 : Nat)]) := upd_same
  generalize upd H4 p5 (HO.lst [V.int (n : Nat), V.int (n4 : Nat)]) = H5 at s5 h5 ⊢
  refine ⟨g, 2, rfl, hg4.same s5, by decide, by decide, fun r' H6 r0' r1' hg6 bt6 => ?_⟩
  obtain ⟨k', hk', hk1'⟩ : ∃ k : Nat, atI [V.int (n : Nat), V.int (n4 : Nat)] r' = some (.int (k : Nat)) ∧ k ≤ 12 := by
    obtain rfl | rfl : r' = 0 ∨ r' = 1 := by omega
    · exact ⟨n, rfl, by omega⟩
    · exact ⟨n4, rfl, hn5⟩
  refine ⟨_, _, rfl, bt6 _ _ np5g h5, _, hk', g, m, k', rfl, hg6, by omega, hk1', fun t ps H7 nt ntg hg7 bt7 hF hP hlen => ⟨t, ps, n, rfl, hF, hP, by omega, fun H8 s8 => .inr ⟨rfl, fun pe od npe hod => ?_⟩⟩⟩
  have bt08 : But g H H8 := (But.of s1).trans (bt2.trans (bt3.trans (bt4.trans ((But.of s5).trans (bt6.trans (bt7.trans (But.of s8)))))))
  have hg8 := hg7.same s8
  have s9 := same_new (o := HO.frz od (HO.tup [])) npe
  refine ⟨pe, [], n, rfl, FT.new hod, ⟨by simp, by simp, by simp⟩, by omega, fun b H10 s10 hb => ?_⟩
  obtain rfl : b = false := by
    cases b with
    | false => rfl
    | true => exact absurd (hb.mp rfl).1 (by simp)
  have hg10 := hg8.same (s9.trans s10)
  have bt10 := bt08.trans (But.of (s9.trans s10))
  refine .inl ⟨rfl, g, 4, rfl, hg10, by decide, by decide, fun r2 H11 r20 r21 hg11 bt11 => ?_⟩
  obtain ⟨mm, rfl⟩ : ∃ mm : Nat, r2 = mm := ⟨r2.toNat, by omega⟩
  refine ⟨_, rfl, g, 3, rfl, hg11, by decide, by decide, fun ra Ha ra0 ra1 hga bta => ⟨g, 2, rfl, hga, by decide, by decide, fun rb Hb rb0 rb1 hgb btb => ⟨_, rfl, by decide, fun pc npc => ?_⟩⟩⟩
  obtain ⟨xa, rfl⟩ : ∃ xa : Nat, ra = xa := ⟨ra.toNat, by omega⟩
  obtain ⟨xb, hxb, hxb2⟩ : ∃ xb : Nat, (9 : Int) + (mm : Nat) - 1 - rb = (xb : Nat) ∧ xb ≤ 12 := ⟨(9 + (mm : Int) - 1 - rb).toNat, by omega, by omega⟩
  obtain ⟨xc, hxc, hxc2⟩ : ∃ xc : Nat, (9 : Int) + (mm : Nat) = (xc : Nat) ∧ xc ≤ 12 := ⟨9 + mm, by omega, by omega⟩
  rw [hxb, hxc]
  have npcg := nb_new hgb npc
  have sc := same_new (o := HO.lst [V.int (xa : Nat), V.int (xb : Nat), V.int (xc : Nat)]) npc
  have hc : upd Hb pc (HO.lst [V.int (xa : Nat), V.int (xb : Nat), V.int (xc : Nat)]) pc = some (.lst [V.int (xa : Nat), V.int (xb : Nat), V.int (xc : Nat)]) := upd_same
  generalize upd Hb pc (HO.lst [V.int (xa : Nat), V.int (xb : Nat), V.int (xc : Nat)]) = Hc at sc hc ⊢
  refine ⟨g, 10, rfl, hgb.same sc, by decide, by decide, fun rd Hd rd0 rd1 hgd btd => ?_⟩
  obtain ⟨kd, hkd, hkd2⟩ : ∃ k : Nat, atI [V.int (xa : Nat), V.int (xb : Nat), V.int (xc : Nat)] (rd / 4) = some (.int (k : Nat)) ∧ k ≤ 12 := by
    obtain e | e | e : rd / 4 = 0 ∨ rd / 4 = 1 ∨ rd / 4 = 2 := by omega
    · rw [e]; exact ⟨xa, rfl, by omega⟩
    · rw [e]; exact ⟨xb, rfl, hxb2⟩
    · rw [e]; exact ⟨xc, rfl, hxc2⟩
  obtain ⟨k3, hk3, hk32⟩ : ∃ k : Nat, (if (3 : Int) < (kd : Nat) then 3 else ((kd : Nat) : Int)) = (k : Nat) ∧ k ≤ 12 := ⟨min kd 3, by split <;> omega, by omega⟩
  obtain ⟨k11, hk11, hk112⟩ : ∃ k : Nat, (if (11 : Int) < (kd : Nat) then 11 else ((kd : Nat) : Int)) = (k : Nat) ∧ k ≤ 11 := ⟨min kd 11, by split <;> omega, by omega⟩
  refine ⟨_, rfl, _, btd _ _ npcg hc, _, hkd, _, rfl, by decide, fun pe2 npe2 => ?_⟩
  rw [hk3]
  have npe2g := nb_new hgd npe2
  have se := same_new (o := HO.lst [V.int (kd : Nat), V.int (k3 : Nat)]) npe2
  have he : upd Hd pe2 (HO.lst [V.int (kd : Nat), V.int (k3 : Nat)]) pe2 = some (.lst [V.int (kd : Nat), V.int (k3 : Nat)]) := upd_same
  generalize upd Hd pe2 (HO.lst [V.int (kd : Nat), V.int (k3 : Nat)]) = He at se he ⊢
  refine ⟨g, 2, rfl, hgd.same se, by decide, by decide, fun rf Hf rf0 rf1 hgf btf => ?_⟩
  obtain ⟨kf, hkf, hkf2⟩ : ∃ k : Nat, atI [V.int (kd : Nat), V.int (k3 : Nat)] rf = some (.int (k : Nat)) ∧ k ≤ 12 := by
    obtain rfl | rfl : rf = 0 ∨ rf = 1 := by omega
    · exact ⟨kd, rfl, hkd2⟩
    · exact ⟨k3, rfl, hk32⟩
  refine ⟨_, _, rfl, btf _ _ npe2g he, _, hkf, g, xc, kf, rfl, hgf, hxc2, hkf2, fun t2 ps2 Hg nt2 nt2g hgg btg hF2 hP2 hlen2 => ⟨_, rfl, t2, ps2, k11, by rw [hk11], hF2, hP2, hk112, fun Hh sh => ?_⟩⟩
  exact q Hh (hgg.same sh) (bt10.trans (bt11.trans (bta.trans (btb.trans ((But.of sc).trans (btd.trans ((But.of se).trans (btf.trans (btg.trans (But.of sh))))))))))

end
end Kx

-- SXEXT: rSetBg, rSortedBg, rLenA, rSumA, NT.rSetN, NT.rSortN, rExtend, rSetLw, rSortedSet, iAnyS, rMinT, rLtU, rIsiI, RZ.iZipA, tDNewK, tDGet, tDGet1, tDGet2, sDPut, rSortedDA, rSortedSetA, rCntT, iZipM, rSortTI, tBMF, rLenF, rSumF, rSetF, rTupF, tTupF, gUnl, tDisp, tPairs, tLock, iItems
namespace Kx
open PySem L2 MG KM
section
variable {P : Program} {w : World} {K : PySem.W.Frag} {mg : Str → Option Value} {base : Heap} {f : Addr} {fd : FuncData} {C : Addr}
abbrev s_law : Stmt := top 26
abbrev N_law : List Str := ["_law_script", "_law_k"]
theorem sc_law : FnScope N_law ["_law_script"] (defScope s_law) := ⟨rfl, rfl, rfl, by decide +kernel, rfl, by decide +kernel, by decide +kernel⟩
theorem ok_law (F : FnP K "law" "law" s_law f fd) (C_is_full : Cal P w K mg base 5 "is_full" ["purse", "lost"] sp_is_full) (B : Bi mg) (C_l_right : Cal P w K mg base 7 "_law_right" ["_law_well_here"] sp_drawn) (C_l_well : Cal P w K mg base 1 "_law_well" ["_law_script", "_law_k"] (sp_l_bowl K)) :
    FnOk P w K mg base CX0 8 f fd ["_law_script"] (sp_law K) := by
  refine okF F sc_law (fun vs H Q E h => by repeat (first | (obtain ⟨rfl, _⟩ := h; rfl) | obtain ⟨_, h⟩ := h)) (fun cdv A outer s H vs Q E hr h => ?_)
  obtain ⟨a, ns, rfl, ha, hn, q⟩ := h
  refine ⟨_, (pss_cons (ps_if (PW.pt (pw_or (pt_not (pt_val (pe_cal C_is_full hr (pa_cons (pe_tupF (pa_cons pe_int (pa_cons pe_int (pa_cons pe_int pa_nil)))) (pa_cons pe_int pa_nil))))) (pw_or (pt_not (pt_val (pe_cal C_is_full hr (pa_cons (pe_tupF (pa_cons pe_int (pa_cons pe_int (pa_cons pe_int (pa_cons pe_int pa_nil))))) (pa_cons pe_int pa_nil))))) (pw_or (pt_val (pe_cal C_is_full hr (pa_cons (pe_tupF (pa_cons pe_int (pa_cons pe_int (pa_cons pe_int pa_nil)))) (pa_cons pe_int pa_nil)))) (pw_or1 (pt_val (pe_cal C_is_full hr (pa_cons (pe_tupF (pa_cons pe_int (pa_cons pe_int (pa_cons pe_int pa_nil)))) (pa_cons pe_int pa_nil)))))))))
      (pss_one (ps_ret pe_bl))
      pss_nil)
    (pss_one (ps_ret (pe_callB (cr_all rfl) (by rfl) B.b_all (by decide +kernel) (pa_cons (pe_lc (own := [("_law_k", 1)]) (g := gName 1) (tt := tYes) (te := (tCall (sp_drawn) [] E0 (tCons (tCall (sp_l_bowl K) [] E0 (tCons (tVar 0) (tCons (tVar 1) tNil))) tNil))) (by rfl) sc_law.nd (pi_range1 (by rfl) B.b_range (pa_cons (pe_callB (call_max2 rfl) (by rfl) B.b_max (by decide +kernel) (pa_cons pe_int (pa_cons (pe_callB (call_min2 rfl) (by rfl) B.b_min (by decide +kernel) (pa_cons (pe_callB call_len_seq (by rfl) B.b_len (by decide +kernel) (pa_cons (pv 0) pa_nil)) (pa_cons pe_int pa_nil))) pa_nil))) pa_nil)) (blkOk_by (own := [("_law_k", 1)]) (N := N_law) (sc := defScope s_law) (by decide +kernel)) (fun _ _ _ _ _ => pg_name (i := 1) sc_law.nd rfl (Or.inl rfl)) (fun _ _ _ _ _ => pts_nil) (fun _ _ _ _ _ => (by exact (pe_cal C_l_right hr (pa_cons (by exact (pe_cal C_l_well hr (pa_cons (pv 0) (pa_cons (pv 1) pa_nil)))) pa_nil))))) pa_nil))))), ?_⟩
  simp [tRet, tRetN, tSeq, tNext, tNever, tDrop, tIfS, tAsg, tPar, tAug, tAugS, gName, gNil, gCons, gTup, gSub, tAndV, tOrV, tNotV, tAnd, tOr, tNot, tB, tTest, tYes, tIf, tCall, tCallK, tCallN, tMake, tProp, tMeth, getSp, tCB, tCons, tNil, tVar, tC, tOp, tUn, tChain, tLst, tTup, tFld, sFld, tBM, tBM0, tSl, tPart, tNoPart, rI0, rI, rU, rEq, rNe, rIsi, tCut, tCutR, tCutS, rIntI, tSlH, tSlS, rSumH, rTupH, rSortH, tLstRg, tRg1, tRg2, rIxH, rIxHT, rLenH, rLenHT, rIxL, rIxT, rIx, rCat, rRep, rSetL, rAppend, rSum, rMax, rMin, rEqD, rNeD, rSlL, rPopAt, rSorted, rAll, rAny, rReprS, rNext, tCutT, rCatHT, rCatA, rSlA, RT.iRevA, scal, L2.start, List.replicate, and_assoc, CDiv, CMul, CPow, ipI, rSetBg, rSortedBg, rLenA, rSumA, NT.rSetN, NT.rSortN, rExtend, rSetLw, rSortedSet, iAnyS, rMinT, rLtU, rIsiI, RZ.iZipA, tDNewK, tDGet, tDGet1, tDGet2, sDPut, rSortedDA, rSortedSetA, rCntT, iZipM, rSortTI, tBMF, rLenF, rSumF, rSetF, rTupF, tTupF, gUnl, tDisp, tPairs, tLock, iItems]
  refine ⟨by decide, fun p1 o1 n1 d1 => ?_⟩
  have s1 := same_new (o := HO.frz o1 (HO.tup [V.int 1, V.int 2, V.int 4])) n1
  have P : ∀ ps : List Nat, purseB ps = true → PurseL ps := fun ps h => purseB_is h
  refine ⟨p1, [1, 2, 4], 0, rfl, FT.new d1, P _ (by decide +kernel), by decide, fun b1 H1 t1 hb1 => .inr ⟨?_, by decide, fun p2 o2 n2 d2 => ?_⟩⟩
  · rw [hb1.mpr ⟨by decide, fullB38 (by decide +kernel)⟩]
  have s2 := same_new (o := HO.frz o2 (HO.tup [V.int 1, V.int 1, V.int 2, V.int 3])) n2
  refine ⟨p2, [1, 1, 2, 3], 1, rfl, FT.new d2, P _ (by decide +kernel), by decide, fun b2 H2 t2 hb2 => .inr ⟨?_, by decide, fun p3 o3 n3 d3 => ?_⟩⟩
  · rw [hb2.mpr ⟨by decide, fullB38 (by decide +kernel)⟩]
  have s3 := same_new (o := HO.frz o3 (HO.tup [V.int 1, V.int 2, V.int 5])) n3
  refine ⟨p3, [1, 2, 5], 0, rfl, FT.new d3, P _ (by decide +kernel), by decide, fun b3 H3 t3 hb3 => .inl ⟨?_, by decide, fun p4 o4 n4 d4 => ?_⟩⟩
  · cases b3 with
    | false => rfl
    | true =>
      have := (hb3.mp rfl).2 2 5 rfl
      exact absurd this (by decide)
  have s4 := same_new (o := HO.frz o4 (HO.tup [V.int 1, V.int 2, V.int 3])) n4
  refine ⟨p4, [1, 2, 3], 1, rfl, FT.new d4, P _ (by decide +kernel), by decide, fun b4 H4 t4 hb4 => .inl ⟨?_, ?_⟩⟩
  · cases b4 with
    | false => rfl
    | true =>
      have := (hb4.mp rfl).2 1 2 rfl
      exact absurd this (by decide)
  have s04 : Same H H4 := s1.trans (t1.trans (s2.trans (t2.trans (s3.trans (t3.trans (s4.trans t4))))))
  have ha4 := s04.seq ha
  refine ⟨_, rfl, a, rfl, _, .inl ha4, _, _, rfl, _, _, rfl, _, rfl, ?_, ?_, fun D nD => lc_range (lo := 0) (fun i H1 => Same H4 H1 ∧ H1 D = some (.lst ((List.replicate i true).map V.bl))) ⟨same_new nD, upd_same⟩ ?_ ?_⟩
  · split <;> split <;> omega
  · split <;> split <;> omega
  · rintro i H1 hi ⟨s1, h1⟩
    have hi100 : i < 100 := by
      revert hi
      split <;> split <;> omega
    simp [tRet, tRetN, tSeq, tNext, tNever, tDrop, tIfS, tAsg, tPar, tAug, tAugS, gName, gNil, gCons, gTup, gSub, tAndV, tOrV, tNotV, tAnd, tOr, tNot, tB, tTest, tYes, tIf, tCall, tCallK, tCallN, tMake, tProp, tMeth, getSp, tCB, tCons, tNil, tVar, tC, tOp, tUn, tChain, tLst, tTup, tFld, sFld, tBM, tBM0, tSl, tPart, tNoPart, rI0, rI, rU, rEq, rNe, rIsi, tCut, tCutR, tCutS, rIntI, tSlH, tSlS, rSumH, rTupH, rSortH, tLstRg, tRg1, tRg2, rIxH, rIxHT, rLenH, rLenHT, rIxL, rIxT, rIx, rCat, rRep, rSetL, rAppend, rSum, rMax, rMin, rEqD, rNeD, rSlL, rPopAt, rSorted, rAll, rAny, rReprS, rNext, tCutT, rCatHT, rCatA, rSlA, RT.iRevA, scal, L2.start, List.replicate, and_assoc, CDiv, CMul, CPow, ipI, rSetBg, rSortedBg, rLenA, rSumA, NT.rSetN, NT.rSortN, rExtend, rSetLw, rSortedSet, iAnyS, rMinT, rLtU, rIsiI, RZ.iZipA, tDNewK, tDGet, tDGet1, tDGet2, sDPut, rSortedDA, rSortedSetA, rCntT, iZipM, rSortTI, tBMF, rLenF, rSumF, rSetF, rTupF, tTupF, gUnl, tDisp, tPairs, tLock, iItems, wipe, sp_l_bowl, sp_drawn]
    refine ⟨ns, i, rfl, s1.seq ha4, hn, hi100, fun b H2 nb s2 hb2 => ⟨hb2, fun H3 hb3 bt3 => ?_⟩⟩
    have s3 : Same H1 H3 := fun c o hc => bt3 c o (ne_of_none hc nb) (s2 c o hc)
    refine ⟨_, s3 _ _ h1, Nat.lt_of_le_of_lt (show _ ≤ 100 by simp; omega) (by decide), ?_, ?_⟩
    · intro c o hc
      rw [upd_ne (ne_of_none hc nD)]
      exact s3 _ _ (s1 _ _ hc)
    · rw [upd_same, ← List.replicate_succ, List.replicate_succ']
      simp
  · rintro H1 ⟨s1, h1⟩
    refine ⟨D, rfl, _, sqL h1, ?_⟩
    have e : ∀ k, (List.replicate k true).all id = true := fun k => by induction k <;> simp_all [List.replicate_succ]
    rw [e]
    exact q H1

end
end Kx

-- SXEXT: rSetBg, rSortedBg, rLenA, rSumA, NT.rSetN, NT.rSortN, rExtend, rSetLw, rSortedSet, iAnyS, rMinT, rLtU, rIsiI, RZ.iZipA, tDNewK, tDGet, tDGet1, tDGet2, sDPut, rSortedDA, rSortedSetA, rCntT, iZipM, rSortTI, tBMF, rLenF, rSumF, rSetF, rTupF, tTupF, gUnl, tDisp, tPairs, tLock, iItems
namespace Kx
open PySem L2 MG KM
def fn : List Dm := [⟨(atG "is_integer"), "is_integer", "is_integer", s_is_integer⟩,
  ⟨(atG "is_between"), "is_between", "is_between", s_is_between⟩,
  ⟨(atG "is_purse"), "is_purse", "is_purse", s_is_purse⟩,
  ⟨(atG "check_purse"), "check_purse", "check_purse", s_check_purse⟩,
  ⟨(atG "check_number"), "check_number", "check_number", s_check_number⟩,
  ⟨(atG "check_lost"), "check_lost", "check_lost", s_check_lost⟩,
  ⟨(atG "without_last"), "without_last", "without_last", s_without_last⟩,
  ⟨(atG "first_too_great"), "first_too_great", "first_too_great", s_first_too_great⟩,
  ⟨(atG "is_full"), "is_full", "is_full", s_is_full⟩,
  ⟨(atG "_law_dip"), "_law_dip", "_law_dip", s_l_dip⟩,
  ⟨(atG "_law_grown"), "_law_grown", "_law_grown", s_l_grown⟩,
  ⟨(atG "_law_left"), "_law_left", "_law_left", s_l_left⟩,
  ⟨(atG "_law_sums"), "_law_sums", "_law_sums", s_l_sums⟩,
  ⟨(atG "_law_full"), "_law_full", "_law_full", s_l_full⟩,
  ⟨(atG "_law_asked"), "_law_asked", "_law_asked", s_l_asked⟩,
  ⟨(atG "_law_right"), "_law_right", "_law_right", s_l_right⟩,
  ⟨(atG "_law_well"), "_law_well", "_law_well", s_l_well⟩,
  ⟨(atG "law"), "law", "law", s_law⟩]
def fa : List He.Fa := [.glo "is_integer", .glo "is_between", .glo "is_purse", .glo "check_purse", .glo "check_number", .glo "check_lost", .glo "without_last", .glo "first_too_great", .glo "is_full", .glo "_law_dip", .glo "_law_grown", .glo "_law_left", .glo "_law_sums", .glo "_law_full", .glo "_law_asked", .glo "_law_right", .glo "_law_well", .glo "law", .free "isinstance", .free "int", .free "bool", .free "str", .free "tuple", .free "list", .free "len", .free "enumerate", .free "range", .free "zip", .free "reversed", .free "divmod", .free "abs", .free "sorted", .free "sum", .free "repr", .free "all", .free "any", .free "min", .free "max", .free "set", .free "dict", .int "MOST_PIECES" (12), .int "MOST_PIECE" (1000)]
def exOwn (K : PySem.W.Frag) : Bool := true
def ex (K : PySem.W.Frag) : Bool := exOwn K
abbrev R : PySem.W.OpenRow := PySem.W.OpenLaw.row PySem.Challenge.rw_mintlots_k38_whole_full_purses_by_all_lo
abbrev hk : PySem.W.Hook := hookM 7 fa fn ex
def ob (s : PySem.W.SharedT) : Bool × List He.FnW := obsMG 7 fa fn ex (HandSHeadRun.getT s)
theorem ob_eq (s : PySem.W.SharedT) : ob s = hk.obs s.abs := obsMG_eq (HandSHeadRun.getT_eq s)
abbrev loose : List Str := (["WrongValue", "InvalidNumber", "InvalidPurse", "MOST_PIECE", "MOST_PIECES", "is_integer", "is_between", "check_number", "check_lost", "is_purse", "check_purse", "without_last", "first_too_great", "is_full", "_law_well", "_law_dip", "_law_grown", "_law_left", "_law_sums", "_law_full"] : List Str) ++ (["_law_asked", "_law_right"] : List Str)
theorem run (w : World) : HandSHeadRun.RunEq R (PySem.W.view R.prog [26]) hk ob 4000 loose w := by
  intro os
  kernel_rfl
theorem facts {P : Program} {w : World} {K : PySem.W.Frag} {h : Heap} {mg : Str → Option Value} {f : Addr} (X : K.In h) (G : h.Ns mainGlobals mg) (hfa : mg ("law" : Str) = some (.ref f)) (c : SaysM fa fn ex K) :
    ∃ fd : FuncData, (∀ (s : Shared) (v : Value), BindsTo s fd ⟨[v], []⟩ [("_law_script", v)]) ∧ ∀ base : Heap, K.In base → base.Ns mainGlobals mg → GFn P w K mg base CX0 8 f fd ["_law_script"] (sp_law K) := by
  obtain ⟨fd0, F0⟩ := c.def_ 0
  obtain ⟨fd1, F1⟩ := c.def_ 1
  obtain ⟨fd2, F2⟩ := c.def_ 2
  obtain ⟨fd3, F3⟩ := c.def_ 3
  obtain ⟨fd4, F4⟩ := c.def_ 4
  obtain ⟨fd5, F5⟩ := c.def_ 5
  obtain ⟨fd6, F6⟩ := c.def_ 6
  obtain ⟨fd7, F7⟩ := c.def_ 7
  obtain ⟨fd8, F8⟩ := c.def_ 8
  obtain ⟨fd9, F9⟩ := c.def_ 9
  obtain ⟨fd10, F10⟩ := c.def_ 10
  obtain ⟨fd11, F11⟩ := c.def_ 11
  obtain ⟨fd12, F12⟩ := c.def_ 12
  obtain ⟨fd13, F13⟩ := c.def_ 13
  obtain ⟨fd14, F14⟩ := c.def_ 14
  obtain ⟨fd15, F15⟩ := c.def_ 15
  obtain ⟨fd16, F16⟩ := c.def_ 16
  obtain ⟨fd17, F17⟩ := c.def_ 17
  have b0 : Binds K fd0 ["value"] [] := bindsP F0 fun _ _ _ _ _ _ us hl => match us, hl with | [_], _ => rfl
  have b1 : Binds K fd1 ["value", "low", "high"] [] := bindsP F1 fun _ _ _ _ _ _ us hl => match us, hl with | [_, _, _], _ => rfl
  have b2 : Binds K fd2 ["value"] [] := bindsP F2 fun _ _ _ _ _ _ us hl => match us, hl with | [_], _ => rfl
  have b3 : Binds K fd3 ["purse"] [] := bindsP F3 fun _ _ _ _ _ _ us hl => match us, hl with | [_], _ => rfl
  have b4 : Binds K fd4 ["number", "low", "high"] [] := bindsP F4 fun _ _ _ _ _ _ us hl => match us, hl with | [_, _, _], _ => rfl
  have b5 : Binds K fd5 ["lost"] [] := bindsP F5 fun _ _ _ _ _ _ us hl => match us, hl with | [_], _ => rfl
  have b6 : Binds K fd6 ["pieces", "lost"] [] := bindsP F6 fun _ _ _ _ _ _ us hl => match us, hl with | [_, _], _ => rfl
  have b7 : Binds K fd7 ["purse", "lost"] [] := bindsP F7 fun _ _ _ _ _ _ us hl => match us, hl with | [_, _], _ => rfl
  have b8 : Binds K fd8 ["purse", "lost"] [] := bindsP F8 fun _ _ _ _ _ _ us hl => match us, hl with | [_, _], _ => rfl
  have b9 : Binds K fd9 ["_law_well_here", "_law_many"] [] := bindsP F9 fun _ _ _ _ _ _ us hl => match us, hl with | [_, _], _ => rfl
  have b10 : Binds K fd10 ["_law_well_here", "_law_many", "_law_lost", "_law_strict"] [] := bindsP F10 fun _ _ _ _ _ _ us hl => match us, hl with | [_, _, _, _], _ => rfl
  have b11 : Binds K fd11 ["_law_pieces", "_law_lost"] [] := bindsP F11 fun _ _ _ _ _ _ us hl => match us, hl with | [_, _], _ => rfl
  have b12 : Binds K fd12 ["_law_pieces"] [] := bindsP F12 fun _ _ _ _ _ _ us hl => match us, hl with | [_], _ => rfl
  have b13 : Binds K fd13 ["_law_pieces", "_law_lost"] [] := bindsP F13 fun _ _ _ _ _ _ us hl => match us, hl with | [_, _], _ => rfl
  have b14 : Binds K fd14 ["_law_pieces", "_law_lost"] [] := bindsP F14 fun _ _ _ _ _ _ us hl => match us, hl with | [_, _], _ => rfl
  have b15 : Binds K fd15 ["_law_well_here"] [] := bindsP F15 fun _ _ _ _ _ _ us hl => match us, hl with | [_], _ => rfl
  have b16 : Binds K fd16 ["_law_script", "_law_k"] [] := bindsP F16 fun _ _ _ _ _ _ us hl => match us, hl with | [_, _], _ => rfl
  have b17 : Binds K fd17 ["_law_script"] [] := bindsP F17 fun _ _ _ _ _ _ us hl => match us, hl with | [_], _ => rfl
  have g_is_integer : mg "is_integer" = some (.ref (He.ga K "is_integer")) := He.glo_ok X G (c.fact 0)
  have g_is_between : mg "is_between" = some (.ref (He.ga K "is_between")) := He.glo_ok X G (c.fact 1)
  have g_is_purse : mg "is_purse" = some (.ref (He.ga K "is_purse")) := He.glo_ok X G (c.fact 2)
  have g_check_purse : mg "check_purse" = some (.ref (He.ga K "check_purse")) := He.glo_ok X G (c.fact 3)
  have g_check_number : mg "check_number" = some (.ref (He.ga K "check_number")) := He.glo_ok X G (c.fact 4)
  have g_check_lost : mg "check_lost" = some (.ref (He.ga K "check_lost")) := He.glo_ok X G (c.fact 5)
  have g_without_last : mg "without_last" = some (.ref (He.ga K "without_last")) := He.glo_ok X G (c.fact 6)
  have g_first_too_great : mg "first_too_great" = some (.ref (He.ga K "first_too_great")) := He.glo_ok X G (c.fact 7)
  have g_is_full : mg "is_full" = some (.ref (He.ga K "is_full")) := He.glo_ok X G (c.fact 8)
  have g__law_dip : mg "_law_dip" = some (.ref (He.ga K "_law_dip")) := He.glo_ok X G (c.fact 9)
  have g__law_grown : mg "_law_grown" = some (.ref (He.ga K "_law_grown")) := He.glo_ok X G (c.fact 10)
  have g__law_left : mg "_law_left" = some (.ref (He.ga K "_law_left")) := He.glo_ok X G (c.fact 11)
  have g__law_sums : mg "_law_sums" = some (.ref (He.ga K "_law_sums")) := He.glo_ok X G (c.fact 12)
  have g__law_full : mg "_law_full" = some (.ref (He.ga K "_law_full")) := He.glo_ok X G (c.fact 13)
  have g__law_asked : mg "_law_asked" = some (.ref (He.ga K "_law_asked")) := He.glo_ok X G (c.fact 14)
  have g__law_right : mg "_law_right" = some (.ref (He.ga K "_law_right")) := He.glo_ok X G (c.fact 15)
  have g__law_well : mg "_law_well" = some (.ref (He.ga K "_law_well")) := He.glo_ok X G (c.fact 16)
  have g_law : mg "law" = some (.ref (He.ga K "law")) := He.glo_ok X G (c.fact 17)
  have c_MOST_PIECES := He.int_ok X G (c.fact 40)
  have c_MOST_PIECE := He.int_ok X G (c.fact 41)
  have B : Bi mg := ⟨He.free_ok X G (c.fact 18), He.free_ok X G (c.fact 19), He.free_ok X G (c.fact 20), He.free_ok X G (c.fact 21), He.free_ok X G (c.fact 22), He.free_ok X G (c.fact 23), He.free_ok X G (c.fact 24), He.free_ok X G (c.fact 25), He.free_ok X G (c.fact 26), He.free_ok X G (c.fact 27), He.free_ok X G (c.fact 28), He.free_ok X G (c.fact 29), He.free_ok X G (c.fact 30), He.free_ok X G (c.fact 31), He.free_ok X G (c.fact 32), He.free_ok X G (c.fact 33), He.free_ok X G (c.fact 34), He.free_ok X G (c.fact 35), He.free_ok X G (c.fact 36), He.free_ok X G (c.fact 37), He.free_ok X G (c.fact 38), He.free_ok X G (c.fact 39)⟩
  have e := hfa.symm.trans g_law
  cases e
  refine ⟨fd17, fun s v => ?_, fun base KB GB => ?_⟩
  · exact bindsA F17 (ps := ["_law_script"]) (fun _ _ _ _ _ _ us hl => match us, hl with | [_], _ => rfl) s [v] rfl
  · have k_is_integer := ok_is_integer (P := P) (w := w) (K := K) (mg := mg) (base := base) F0 B
    have o_is_integer := calOf g_is_integer F0 b0 k_is_integer
    have k_is_between := ok_is_between (P := P) (w := w) (K := K) (mg := mg) (base := base) F1 o_is_integer
    have o_is_between := calOf g_is_between F1 b1 k_is_between
    have k_is_purse := ok_is_purse (P := P) (w := w) (K := K) (mg := mg) (base := base) F2 B c_MOST_PIECES o_is_between c_MOST_PIECE
    have o_is_purse := calOf g_is_purse F2 b2 k_is_purse
    have k_check_purse := ok_check_purse (P := P) (w := w) (K := K) (mg := mg) (base := base) F3 o_is_purse
    have o_check_purse := calOf g_check_purse F3 b3 k_check_purse
    have k_check_number := ok_check_number (P := P) (w := w) (K := K) (mg := mg) (base := base) F4 o_is_between
    have o_check_number := calOf g_check_number F4 b4 k_check_number
    have k_check_lost := ok_check_lost (P := P) (w := w) (K := K) (mg := mg) (base := base) F5 o_check_number c_MOST_PIECES
    have o_check_lost := calOf g_check_lost F5 b5 k_check_lost
    have k_without_last := ok_without_last (P := P) (w := w) (K := K) (mg := mg) (base := base) F6 B
    have o_without_last := calOf g_without_last F6 b6 k_without_last
    have k_first_too_great := ok_first_too_great (P := P) (w := w) (K := K) (mg := mg) (base := base) F7 B o_without_last
    have o_first_too_great := calOf g_first_too_great F7 b7 k_first_too_great
    have k_is_full := ok_is_full (P := P) (w := w) (K := K) (mg := mg) (base := base) F8 o_check_purse o_check_lost o_first_too_great B
    have o_is_full := calOf g_is_full F8 b8 k_is_full
    have k_l_dip := ok_l_dip (P := P) (w := w) (K := K) (mg := mg) (base := base) F9 B
    have o_l_dip := calOf g__law_dip F9 b9 k_l_dip
    have k_l_grown := ok_l_grown (P := P) (w := w) (K := K) (mg := mg) (base := base) F10 B o_l_dip
    have o_l_grown := calOf g__law_grown F10 b10 k_l_grown
    have k_l_left := ok_l_left (P := P) (w := w) (K := K) (mg := mg) (base := base) F11 B
    have o_l_left := calOf g__law_left F11 b11 k_l_left
    have k_l_sums := ok_l_sums (P := P) (w := w) (K := K) (mg := mg) (base := base) F12 B
    have o_l_sums := calOf g__law_sums F12 b12 k_l_sums
    have k_l_full := ok_l_full (P := P) (w := w) (K := K) (mg := mg) (base := base) F13 B o_l_left o_l_sums
    have o_l_full := calOf g__law_full F13 b13 k_l_full
    have q1 : CalK P w K mg base 5 "is_full" ["purse", "lost"] _ 0 ["lost", "purse"] (fun _ zs => gP [1, 0] zs) := ⟨_, fd8, fun _ ws => gP [1, 0] ws, g_is_full, F8.kp, bindsK F8 (fun _ _ _ _ _ _ us ws h1 h2 => match us, h1, ws, h2 with | [], _, [_, _], _ => rfl) (fun _ z => pick_vals z _), k_is_full⟩
    have k_l_asked := ok_l_asked (P := P) (w := w) (K := K) (mg := mg) (base := base) F14 o_l_full q1 o_is_full B
    have o_l_asked := calOf g__law_asked F14 b14 k_l_asked
    have k_l_right := ok_l_right (P := P) (w := w) (K := K) (mg := mg) (base := base) F15 o_l_dip o_l_grown B o_is_full o_l_asked
    have o_l_right := calOf g__law_right F15 b15 k_l_right
    have k_l_well := ok_l_well (P := P) (w := w) (K := K) (mg := mg) (base := base) F16 B
    have o_l_well := calOf g__law_well F16 b16 k_l_well
    exact GFn.of (ok_law F17 o_is_full B o_l_right o_l_well)
end Kx
open PySem PySem.W PySem.Calls PyProof.Rows
theorem PySem.Challenge.cw_mintlots_k38_whole_full_purses_by_all_lo_holds : PySem.Challenge.rw_mintlots_k38_whole_full_purses_by_all_lo.Holds := by
  w_on; o_law
  refine HandSHeadRun.head_any (r := OpenLaw.row PySem.Challenge.rw_mintlots_k38_whole_full_purses_by_all_lo) (q := view (OpenLaw.row PySem.Challenge.rw_mintlots_k38_whole_full_purses_by_all_lo).prog [26]) (H := Kx.hk) (ob := Kx.ob) (M := 4000) (loose := Kx.loose)
    (d := HandSHeadRun.topDef (OpenLaw.row PySem.Challenge.rw_mintlots_k38_whole_full_purses_by_all_lo).prog 26) (kwd := []) Kx.ob_eq (by kernel_rfl) (fun s => by kernel_rfl) Kx.run (by kernel_rfl) (by kernel_rfl) (by kernel_rfl) (by rfl) (by first | assumption | decide +kernel) (by decide +kernel) ⟨rfl, rfl, rfl, rfl, rfl, by decide +kernel⟩ ?hw ?hc
  case hw => w_witness2
  case hc =>
    refine MG.law_end (l := PySem.Challenge.rw_mintlots_k38_whole_full_purses_by_all_lo) (n := 63) (k := 8) (x := "_law_script") (C := L2.CX0) rfl (by decide) (by kernel_rfl) ⟨rfl, by decide, by decide⟩ ?F (fun _ _ _ _ z => z)
    intro w mg fa h Y G hmg0
    obtain ⟨K, KX, c⟩ := Y
    have hmg : mg ("law" : PySem.Str) = some (.ref fa) := by
      have e : (HandSHeadRun.topDef (OpenLaw.row PySem.Challenge.rw_mintlots_k38_whole_full_purses_by_all_lo).prog 26).name = ("law" : PySem.Str) := by kernel_rfl
      rw [← e]
      exact hmg0
    obtain ⟨fd, hb, hF⟩ := Kx.facts (P := (PySem.Challenge.rw_mintlots_k38_whole_full_purses_by_all_lo).prog) (w := w) KX G hmg c
    exact ⟨K, fd, Kx.sp_law K, KX, hb, fun H a ns hl _ _ hS => ⟨a, ns, rfl, hS, hl, fun _ => rfl⟩, hF⟩

