import PyProof.Rows.All
import Wide.All
import OpenK.AllK
import Wide.FinOn
import HandS.Lambda
import HandS.Base
import HandS.Exc
import HandS.ExcOwn
import HandS.TryOnly
import HandS.WordsExc
import HandS.TupAny
import HandS.Call
import HandS.List
import HandS.Comp
import HandS.Ends
import HandS.Dict
import HandS.Iter
import HandS.Text
import HandS.More
import HandS.Star
import HandS.SortInts
import HandS.Words
import HandS.Conv
import HandS.Wide
import HandS.Style
import HandS.Zip
import HandS.IsInst
import HandS.Walk
import HandS.ExcIs
import HandS.ExcValue
import HandS.SetFor
import PyProof.TypeEq
import PyProof.ReprRoads
import PyProof.ReprLen
import KE.KDictZip
import PyProof.ListNew
import HandS.Keys
import HandS.DictTup
import HandS.SortOrd
import HandS.ListItems
import KE.GoesMore
import PyProof.EnumMake
import HandS.EndTab
import HandS.Strs
import PyProof.WalksMore
import PyProof.Rows.SumAny
import KE.GoesZip
import HandS.Replace
import HandS.DictComp
import PySem.Challenge.RW_foldvat_k37_beginnings_told
set_option Elab.async false
set_option linter.all false
set_option maxRecDepth 100000
set_option maxHeartbeats 4000000
/-! The mathematics of layers: what a ground's steps add up to, and what a fold leaves of them. -/
namespace Fv
abbrev Steps := List (Int × Int)
/-- the sum of the changes at columns up to x -/
def psum : Steps → Int → Int
  | [], _ => 0
  | p :: r, x => (if p.1 ≤ x then p.2 else 0) + psum r x
theorem psum_app : ∀ (a b : Steps) (x : Int), psum (a ++ b) x = psum a x + psum b x
  | [], b, x => by simp [psum]
  | p :: r, b, x => by
    show (if p.1 ≤ x then p.2 else 0) + psum (r ++ b) x = (if p.1 ≤ x then p.2 else 0) + psum r x + psum b x
    rw [psum_app r b x]; omega
theorem psum_perm {a b : Steps} (h : a.Perm b) (x : Int) : psum a x = psum b x := by
  induction h with
  | nil => rfl
  | cons p _ ih => simp only [psum, ih]
  | swap p q r => simp only [psum]; omega
  | trans _ _ h1 h2 => rw [h1, h2]
theorem psum_out : ∀ (a : Steps) (x : Int), (∀ p ∈ a, x < p.1) → psum a x = 0
  | [], _, _ => rfl
  | p :: r, x, h => by
    have h1 : ¬ p.1 ≤ x := by have := h p List.mem_cons_self; omega
    simp only [psum, if_neg h1, psum_out r x fun q hq => h q (List.mem_cons_of_mem _ hq)]
    rfl
/-- as it is written in the code: the list of changes at columns up to x, added up -/
theorem psum_filter : ∀ (a : Steps) (x : Int), ((a.filter fun p => decide (p.1 ≤ x)).map (·.2)).sum = psum a x
  | [], _ => rfl
  | p :: r, x => by
    by_cases h : p.1 ≤ x
    · have e : (p :: r).filter (fun p => decide (p.1 ≤ x)) = p :: r.filter (fun p => decide (p.1 ≤ x)) := by simp [List.filter_cons, h]
      rw [e]
      simp only [psum, if_pos h, List.map_cons, List.sum_cons, psum_filter r x]
    · have e : (p :: r).filter (fun p => decide (p.1 ≤ x)) = r.filter (fun p => decide (p.1 ≤ x)) := by simp [List.filter_cons, h]
      rw [e]
      simp only [psum, if_neg h, psum_filter r x]
      omega

/-! ### the dict of changes -/
def getI (c : Steps) (k : Int) : Option Int := (c.find? fun p => decide (p.1 = k)).map (·.2)
def putI (c : Steps) (k v : Int) : Steps := if (c.any fun p => decide (p.1 = k)) = true then c.map fun p => if p.1 = k then (p.1, v) else p else c ++ [(k, v)]
theorem getI_nil {k : Int} : getI [] k = none := rfl
theorem getI_pos {p : Int × Int} {r : Steps} {k : Int} (e : p.1 = k) : getI (p :: r) k = some p.2 := by simp [getI, List.find?_cons, e]
theorem getI_neg {p : Int × Int} {r : Steps} {k : Int} (e : ¬ p.1 = k) : getI (p :: r) k = getI r k := by simp [getI, List.find?_cons, e]
theorem getI_any (k : Int) : ∀ c : Steps, (c.any fun p => decide (p.1 = k)) = (getI c k).isSome
  | [] => rfl
  | p :: r => by
    by_cases h : p.1 = k
    · rw [getI_pos h]; simp [h]
    · rw [getI_neg h, ← getI_any k r]; simp [h]
theorem getI_none : ∀ (c : Steps) (k : Int), getI c k = none → k ∉ c.map (·.1)
  | [], _, _ => by simp
  | p :: r, k, h => by
    by_cases e : p.1 = k
    · rw [getI_pos e] at h; cases h
    · rw [getI_neg e] at h
      have ih := getI_none r k h
      intro hm
      rcases List.mem_cons.mp hm with hm | hm
      · exact e hm.symm
      · exact ih hm
theorem getI_some : ∀ (c : Steps) (k v : Int), getI c k = some v → (k, v) ∈ c
  | [], _, _, h => by cases h
  | p :: r, k, v, h => by
    by_cases e : p.1 = k
    · rw [getI_pos e] at h
      have : p.2 = v := Option.some.inj h
      rw [← e, ← this]; exact List.mem_cons_self
    · rw [getI_neg e] at h
      exact List.mem_cons_of_mem _ (getI_some r k v h)
theorem getI_mem : ∀ (c : Steps), (c.map (·.1)).Nodup → ∀ (k v : Int), (k, v) ∈ c → getI c k = some v
  | [], _, _, _, h => by cases h
  | p :: r, nd, k, v, h => by
    have nd' := List.nodup_cons.mp nd
    rcases List.mem_cons.mp h with e | h
    · rw [← e]; exact getI_pos rfl
    · have hk : k ∈ r.map (·.1) := List.mem_map.mpr ⟨(k, v), h, rfl⟩
      have ne : ¬ p.1 = k := fun e => nd'.1 (by show p.1 ∈ r.map (·.1); rw [e]; exact hk)
      rw [getI_neg ne]
      exact getI_mem r nd'.2 k v h
theorem map_put_keys (k v : Int) : ∀ c : Steps, (c.map fun p => if p.1 = k then (p.1, v) else p).map (·.1) = c.map (·.1)
  | [] => rfl
  | p :: r => by
    simp only [List.map_cons, map_put_keys k v r]
    congr 1
    by_cases h : p.1 = k
    · rw [if_pos h]
    · rw [if_neg h]
theorem putI_keys (c : Steps) (k v : Int) : (putI c k v).map (·.1) = if (getI c k).isSome = true then c.map (·.1) else c.map (·.1) ++ [k] := by
  unfold putI
  rw [getI_any]
  by_cases h : (getI c k).isSome = true
  · rw [if_pos h, if_pos h, map_put_keys]
  · rw [if_neg h, if_neg h, List.map_append]; rfl
theorem putI_nodup {c : Steps} (k v : Int) (nd : (c.map (·.1)).Nodup) : ((putI c k v).map (·.1)).Nodup := by
  rw [putI_keys]
  by_cases h : (getI c k).isSome = true
  · rw [if_pos h]; exact nd
  · rw [if_neg h]
    have hn : getI c k = none := by
      cases e : getI c k with
      | none => rfl
      | some w => rw [e] at h; exact absurd rfl h
    have hm := getI_none c k hn
    rw [List.nodup_append]
    refine ⟨nd, by simp, fun a ha b hb => ?_⟩
    have eb : b = k := by simpa using hb
    rw [eb]
    exact fun e => hm (e ▸ ha)
theorem putI_length (c : Steps) (k v : Int) : (putI c k v).length ≤ c.length + 1 := by
  unfold putI
  split
  · rw [List.length_map]; omega
  · rw [List.length_append]; exact Nat.le_refl _
theorem putI_mem {c : Steps} {k v : Int} : ∀ p ∈ putI c k v, p.1 = k ∨ p ∈ c := by
  intro p hp
  unfold putI at hp
  split at hp
  · obtain ⟨q, hq, e⟩ := List.mem_map.mp hp
    by_cases h : q.1 = k
    · rw [if_pos h] at e; rw [← e]; exact .inl h
    · rw [if_neg h] at e; rw [← e]; exact .inr hq
  · rcases List.mem_append.mp hp with h | h
    · exact .inr h
    · have : p = (k, v) := by simpa using h
      rw [this]; exact .inl rfl
theorem psum_map_put (k v : Int) (x : Int) : ∀ (c : Steps) (w : Int), (c.map (·.1)).Nodup → getI c k = some w →
    psum (c.map fun p => if p.1 = k then (p.1, v) else p) x = psum c x + (if k ≤ x then v - w else 0)
  | [], _, _, h => by cases h
  | p :: r, w, nd, h => by
    have nd' := List.nodup_cons.mp nd
    by_cases e : p.1 = k
    · rw [getI_pos e] at h
      have hw : p.2 = w := Option.some.inj h
      have hr : (r.map fun p => if p.1 = k then (p.1, v) else p) = r := by
        conv => rhs; rw [← List.map_id r]
        refine List.map_congr_left fun q hq => ?_
        have : ¬ q.1 = k := fun e2 => nd'.1 (by show p.1 ∈ r.map (·.1); rw [e, ← e2]; exact List.mem_map.mpr ⟨q, hq, rfl⟩)
        rw [if_neg this]; rfl
      simp only [List.map_cons, psum, hr, if_pos e]
      rw [e]
      by_cases hx : k ≤ x
      · simp only [if_pos hx]; omega
      · simp only [if_neg hx]; omega
    · rw [getI_neg e] at h
      have ih := psum_map_put k v x r w nd'.2 h
      simp only [List.map_cons, psum, if_neg e, ih]
      omega
theorem psum_putI {c : Steps} {k d : Int} (nd : (c.map (·.1)).Nodup) (x : Int) : psum (putI c k ((getI c k).getD 0 + d)) x = psum c x + (if k ≤ x then d else 0) := by
  unfold putI
  rw [getI_any]
  cases e : getI c k with
  | none =>
    rw [if_neg (by simp)]
    rw [psum_app]
    simp only [psum, Option.getD_none]
    split <;> omega
  | some w =>
    rw [if_pos (by rfl)]
    rw [psum_map_put k _ x c w nd e]
    simp only [Option.getD_some]
    split <;> omega

/-! ### rows of keys that rise, and what is not nought -/
def leftOf (c : Steps) (ys : List Int) : Steps := ((ys.map fun k => (k, (getI c k).getD 0)).filter fun p => decide (p.2 ≠ 0))
theorem psum_filter0 : ∀ (a : Steps) (x : Int), psum (a.filter fun p => decide (p.2 ≠ 0)) x = psum a x
  | [], _ => rfl
  | p :: r, x => by
    by_cases h : p.2 = 0
    · have e : (p :: r).filter (fun p => decide (p.2 ≠ 0)) = r.filter (fun p => decide (p.2 ≠ 0)) := by simp [List.filter_cons, h]
      rw [e]
      simp only [psum, psum_filter0 r x, h]
      split <;> omega
    · have e : (p :: r).filter (fun p => decide (p.2 ≠ 0)) = p :: r.filter (fun p => decide (p.2 ≠ 0)) := by simp [List.filter_cons, h]
      rw [e]
      simp only [psum, psum_filter0 r x]
theorem map_getI {c : Steps} (nd : (c.map (·.1)).Nodup) : (c.map (·.1)).map (fun k => (k, (getI c k).getD 0)) = c := by
  rw [List.map_map]
  conv => rhs; rw [← List.map_id c]
  refine List.map_congr_left fun p hp => ?_
  have := getI_mem c nd p.1 p.2 hp
  show (p.1, (getI c p.1).getD 0) = p
  rw [this]; rfl
theorem psum_leftOf {c : Steps} {ys : List Int} (nd : (c.map (·.1)).Nodup) (hp : ys.Perm (c.map (·.1))) (x : Int) : psum (leftOf c ys) x = psum c x := by
  unfold leftOf
  rw [psum_filter0]
  have h := psum_perm (hp.map fun k => (k, (getI c k).getD 0)) x
  rw [h, map_getI nd]
theorem pairwise_lt_of {ys : List Int} (h1 : ys.Pairwise (· ≤ ·)) (h2 : ys.Nodup) : ys.Pairwise (· < ·) := by
  have := List.Pairwise.and h1 h2
  exact this.imp fun {a b} ⟨x, y⟩ => by
    have : a ≠ b := y
    omega
/-- columns that rise, no change that is nought -/
structure Neat (s : Steps) : Prop where
  up : (s.map (·.1)).Pairwise (· < ·)
  nz : ∀ p ∈ s, p.2 ≠ 0
theorem leftOf_neat {c : Steps} {ys : List Int} (nd : (c.map (·.1)).Nodup) (hp : ys.Perm (c.map (·.1))) (hs : ys.Pairwise (· ≤ ·)) : Neat (leftOf c ys) := by
  have ny : ys.Nodup := hp.symm.nodup nd
  have hl := pairwise_lt_of hs ny
  refine ⟨?_, fun p h => ?_⟩
  · have hsub : ((leftOf c ys).map (·.1)).Sublist ys := by
      unfold leftOf
      have h1 := (List.filter_sublist (p := fun p : Int × Int => decide (p.2 ≠ 0)) (l := ys.map fun k => (k, (getI c k).getD 0))).map (·.1)
      have e : (ys.map fun k => (k, (getI c k).getD 0)).map (·.1) = ys := by
        rw [List.map_map]
        conv => rhs; rw [← List.map_id ys]
        exact List.map_congr_left fun _ _ => rfl
      rw [e] at h1
      exact h1
    exact hl.sublist hsub
  · unfold leftOf at h
    have := (List.mem_filter.mp h).2
    simpa using this
theorem leftOf_mem {c : Steps} {ys : List Int} (hp : ys.Perm (c.map (·.1))) : ∀ p ∈ leftOf c ys, p.1 ∈ c.map (·.1) := by
  intro p h
  unfold leftOf at h
  obtain ⟨k, hk, e⟩ := List.mem_map.mp (List.mem_filter.mp h).1
  rw [← e]
  exact hp.mem_iff.mp hk
theorem leftOf_length {c : Steps} {ys : List Int} (hp : ys.Perm (c.map (·.1))) : (leftOf c ys).length ≤ c.length := by
  unfold leftOf
  refine Nat.le_trans (List.length_filter_le _ _) ?_
  rw [List.length_map, hp.length_eq, List.length_map]
  exact Nat.le_refl _

/-! ### grounds -/
abbrev Ht := Int → Int
/-- the steps tell the heights h of w columns -/
structure GOk (w : Int) (h : Ht) (s : Steps) : Prop where
  neat : Neat s
  inn : ∀ p ∈ s, 0 ≤ p.1 ∧ p.1 < w
  pos : 1 ≤ w
  sum : ∀ x, 0 ≤ x → x < w → psum s x = h x
  out : ∀ x, (x < 0 ∨ w ≤ x) → h x = 0
/-- what a fold at the line c (a turn: c = 0) makes of heights -/
def foldW (w c : Int) : Int := if w - c > c then w - c else c
def shiftOf (w c : Int) : Int := if w - 2 * c > 0 then w - 2 * c else 0
def foldH (w : Int) (h : Ht) (c : Int) : Ht := fun x => if x < 0 ∨ foldW w c ≤ x then 0 else h (x - shiftOf w c) + h (2 * c - 1 - (x - shiftOf w c))
theorem fold_shift (w c : Int) : foldW w c - shiftOf w c = c := by
  unfold foldW shiftOf
  split <;> split <;> omega
/-- what one step puts into the dict -/
def addI (c : Steps) (k d : Int) : Steps := putI c k ((getI c k).getD 0 + d)
def turnOf (line shift : Int) (c : Steps) (p : Int × Int) : Steps :=
  if p.1 < line then addI c (p.1 + shift) p.2 else if p.1 > line then addI c (2 * line - p.1 + shift) (-p.2) else c
def changesOf (line shift : Int) (ps : Steps) : Steps := ps.foldl (turnOf line shift) []
/-- what is put in, before it is gathered -/
def rawOf (line shift : Int) (p : Int × Int) : Steps :=
  if p.1 < line then [(p.1 + shift, p.2)] else if p.1 > line then [(2 * line - p.1 + shift, -p.2)] else []
structure Gath (line shift : Int) (ps : Steps) (c : Steps) : Prop where
  nd : (c.map (·.1)).Nodup
  sum : ∀ x, psum c x = psum (ps.flatMap (rawOf line shift)) x
  len : c.length ≤ ps.length
  mem : ∀ k ∈ c.map (·.1), ∃ p ∈ ps, (p.1 < line ∧ k = p.1 + shift) ∨ (line < p.1 ∧ k = 2 * line - p.1 + shift)
theorem gath_nil {line shift : Int} : Gath line shift [] [] := ⟨by simp, fun _ => rfl, Nat.le_refl _, fun k h => by cases h⟩
theorem addI_mem {c : Steps} {k d : Int} : ∀ j ∈ (addI c k d).map (·.1), j = k ∨ j ∈ c.map (·.1) := by
  intro j hj
  obtain ⟨p, hp, e⟩ := List.mem_map.mp hj
  rcases putI_mem p hp with h | h
  · exact .inl (by rw [← e, h])
  · exact .inr (by rw [← e]; exact List.mem_map.mpr ⟨p, h, rfl⟩)
theorem psum_one {k d x : Int} : psum [(k, d)] x = if k ≤ x then d else 0 := by
  simp only [psum]; omega
theorem gath_turn {line shift : Int} {ps c : Steps} {p : Int × Int} (g : Gath line shift ps c) : Gath line shift (ps ++ [p]) (turnOf line shift c p) := by
  have em : ∀ k ∈ c.map (·.1), ∃ q ∈ ps ++ [p], (q.1 < line ∧ k = q.1 + shift) ∨ (line < q.1 ∧ k = 2 * line - q.1 + shift) := fun k hk => by
    obtain ⟨q, hq, r⟩ := g.mem k hk
    exact ⟨q, List.mem_append_left _ hq, r⟩
  have ef : ∀ x, psum ((ps ++ [p]).flatMap (rawOf line shift)) x = psum c x + psum (rawOf line shift p) x := fun x => by
    rw [List.flatMap_append, psum_app, g.sum]
    simp
  have hl : c.length ≤ ps.length := g.len
  unfold turnOf
  by_cases h1 : p.1 < line
  · rw [if_pos h1]
    refine ⟨putI_nodup _ _ g.nd, fun x => ?_, ?_, fun k hk => ?_⟩
    · rw [ef, show rawOf line shift p = [(p.1 + shift, p.2)] from if_pos h1, psum_one]
      exact psum_putI g.nd x
    · rw [List.length_append]
      exact Nat.le_trans (putI_length _ _ _) (Nat.succ_le_succ hl)
    · rcases addI_mem k hk with e | h
      · exact ⟨p, List.mem_append_right _ List.mem_cons_self, .inl ⟨h1, e⟩⟩
      · exact em k h
  · rw [if_neg h1]
    by_cases h2 : p.1 > line
    · rw [if_pos h2]
      refine ⟨putI_nodup _ _ g.nd, fun x => ?_, ?_, fun k hk => ?_⟩
      · rw [ef, show rawOf line shift p = [(2 * line - p.1 + shift, -p.2)] from by unfold rawOf; rw [if_neg h1, if_pos h2], psum_one]
        exact psum_putI g.nd x
      · rw [List.length_append]
        exact Nat.le_trans (putI_length _ _ _) (Nat.succ_le_succ hl)
      · rcases addI_mem k hk with e | h
        · exact ⟨p, List.mem_append_right _ List.mem_cons_self, .inr ⟨h2, e⟩⟩
        · exact em k h
    · rw [if_neg h2]
      refine ⟨g.nd, fun x => ?_, ?_, em⟩
      · rw [ef, show rawOf line shift p = [] from by unfold rawOf; rw [if_neg h1, if_neg h2]]
        simp [psum]
      · rw [List.length_append]; omega
theorem gath_foldl {line shift : Int} : ∀ (qs ps c : Steps), Gath line shift ps c → Gath line shift (ps ++ qs) (qs.foldl (turnOf line shift) c)
  | [], ps, c, g => by rw [List.append_nil]; exact g
  | q :: r, ps, c, g => by
    have := gath_foldl r (ps ++ [q]) _ (gath_turn (p := q) g)
    rw [List.append_assoc] at this
    exact this
theorem gath_all (line shift : Int) (ps : Steps) : Gath line shift ps (changesOf line shift ps) := gath_foldl ps [] [] gath_nil
/-- the sum over what is put in -/
theorem psum_raw (line shift x : Int) : ∀ ps : Steps, psum (ps.flatMap (rawOf line shift)) x =
    psum ps (if x - shift < line then x - shift else line - 1) + (psum ps (if 2 * line - (x - shift) - 1 > line then 2 * line - (x - shift) - 1 else line) - (ps.map (·.2)).sum)
  | [] => by simp [psum]
  | p :: r => by
    rw [List.flatMap_cons, psum_app, psum_raw line shift x r]
    simp only [psum, List.map_cons, List.sum_cons]
    unfold rawOf
    by_cases h1 : p.1 < line
    · rw [if_pos h1, psum_one]
      have e2 : p.1 ≤ (if 2 * line - (x - shift) - 1 > line then 2 * line - (x - shift) - 1 else line) := by split <;> omega
      rw [if_pos e2]
      by_cases e1 : p.1 + shift ≤ x
      · rw [if_pos e1, if_pos (show p.1 ≤ (if x - shift < line then x - shift else line - 1) by split <;> omega)]; omega
      · rw [if_neg e1, if_neg (show ¬ p.1 ≤ (if x - shift < line then x - shift else line - 1) by split <;> omega)]; omega
    · rw [if_neg h1]
      have e1 : ¬ p.1 ≤ (if x - shift < line then x - shift else line - 1) := by split <;> omega
      rw [if_neg e1]
      by_cases h2 : p.1 > line
      · rw [if_pos h2, psum_one]
        by_cases e2 : 2 * line - p.1 + shift ≤ x
        · rw [if_pos e2, if_neg (show ¬ p.1 ≤ (if 2 * line - (x - shift) - 1 > line then 2 * line - (x - shift) - 1 else line) by split <;> omega)]; omega
        · rw [if_neg e2, if_pos (show p.1 ≤ (if 2 * line - (x - shift) - 1 > line then 2 * line - (x - shift) - 1 else line) by split <;> omega)]; omega
      · rw [if_neg h2]
        rw [if_pos (show p.1 ≤ (if 2 * line - (x - shift) - 1 > line then 2 * line - (x - shift) - 1 else line) by split <;> omega)]
        simp only [psum]; omega
theorem psum_all : ∀ (s : Steps) (w x : Int), (∀ p ∈ s, p.1 < w) → w - 1 ≤ x → psum s x = (s.map (·.2)).sum
  | [], _, _, _, _ => rfl
  | p :: r, w, x, h, hx => by
    have := h p List.mem_cons_self
    simp only [psum, List.map_cons, List.sum_cons]
    rw [if_pos (by omega), psum_all r w x (fun q hq => h q (List.mem_cons_of_mem _ hq)) hx]
/-- the ground behind a fold or a turn -/
theorem fold_ok {w c : Int} {h : Ht} {s : Steps} {ys : List Int} (g : GOk w h s) (hc : 0 ≤ c) (hw : c < w)
    (hp : ys.Perm ((changesOf c (shiftOf w c) (s ++ [(w, -h (w - 1))])).map (·.1))) (hs : ys.Pairwise (· ≤ ·)) :
    GOk (foldW w c) (foldH w h c) (leftOf (changesOf c (shiftOf w c) (s ++ [(w, -h (w - 1))])) ys) := by
  have G := gath_all c (shiftOf w c) (s ++ [(w, -h (w - 1))])
  have hpos := g.pos
  have hpos' : 1 ≤ foldW w c := by unfold foldW; split <;> omega
  have S : ∀ x, psum (s ++ [(w, -h (w - 1))]) x = h x := fun x => by
    rw [psum_app, psum_one]
    by_cases h1 : w ≤ x
    · rw [if_pos h1, g.out x (.inr h1), psum_all s w x (fun p hp => (g.inn p hp).2) (by omega), ← psum_all s w (w - 1) (fun p hp => (g.inn p hp).2) (by omega), g.sum (w - 1) (by omega) (by omega)]
      omega
    · rw [if_neg h1]
      by_cases h0 : x < 0
      · rw [g.out x (.inl h0), psum_out s x fun p hp => by have := (g.inn p hp).1; omega]; rfl
      · rw [g.sum x (by omega) (by omega)]; omega
  have tot : ((s ++ [(w, -h (w - 1))]).map (·.2)).sum = 0 := by
    rw [List.map_append, List.sum_append, ← psum_all s w (w - 1) (fun p hp => (g.inn p hp).2) (by omega), g.sum (w - 1) (by omega) (by omega)]
    simp; omega
  refine ⟨leftOf_neat G.nd hp hs, fun p hpm => ?_, hpos', fun x hx0 hx1 => ?_, fun x hx => ?_⟩
  · have hk := leftOf_mem hp p hpm
    obtain ⟨q, hq, r⟩ := G.mem _ hk
    have hq' : 0 ≤ q.1 ∧ q.1 ≤ w := by
      rcases List.mem_append.mp hq with hq | hq
      · have := g.inn q hq; omega
      · have : q = (w, -h (w - 1)) := by simpa using hq
        rw [this]; exact ⟨by omega, Int.le_refl _⟩
    unfold foldW shiftOf at *
    rcases r with ⟨r1, r2⟩ | ⟨r1, r2⟩
    · rw [r2]; constructor
      · split <;> omega
      · split <;> split <;> omega
    · rw [r2]; constructor
      · split <;> omega
      · split <;> split <;> omega
  · rw [psum_leftOf G.nd hp, G.sum, psum_raw, tot, S, S]
    unfold foldH
    rw [if_neg (show ¬ (x < 0 ∨ foldW w c ≤ x) by omega)]
    have hd := fold_shift w c
    have e : x - shiftOf w c < c := by omega
    rw [if_pos e]
    by_cases e2 : 2 * c - (x - shiftOf w c) - 1 > c
    · rw [if_pos e2, show 2 * c - (x - shiftOf w c) - 1 = 2 * c - 1 - (x - shiftOf w c) by omega]; omega
    · rw [if_neg e2, show 2 * c - 1 - (x - shiftOf w c) = c by omega]; omega
  · unfold foldH
    rw [if_pos hx]
theorem flat_ok {w : Int} (h : 1 ≤ w) : GOk w (fun x => if x < 0 ∨ w ≤ x then 0 else 1) [(0, 1)] :=
  ⟨⟨by simp, fun p hp => by have : p = (0, 1) := by simpa using hp
                            rw [this]; decide⟩, fun p hp => by have : p = (0, 1) := by simpa using hp
                                                               rw [this]; exact ⟨Int.le_refl 0, h⟩, h,
    fun x h0 h1 => by rw [if_neg (by omega)]; simp only [psum]; rw [if_pos h0]; rfl, fun x hx => if_pos hx⟩
end Fv

/-! piles of layers, folded one by one, and how many layers lie where -/
namespace Fv
abbrev Pile := List (Int × Bool)
def aboutP (p : Pile) : Pile := p.reverse.map fun q => (q.1, !q.2)
def restP (pls : List Pile) (l far : Nat) : Pile := if far ≤ l then pls.getD (l - far) [] else []
def comesP (pls : List Pile) (l far : Nat) : Pile := if l + far ≤ pls.length then aboutP (pls.getD (l + far - 1) []) else []
def colP (pls : List Pile) (o : Bool) (l far : Nat) : Pile := if o then comesP pls l far ++ restP pls l far else restP pls l far ++ comesP pls l far
def widP (pls : List Pile) (l : Nat) : Nat := if pls.length - l > l then pls.length - l else l
def foundP (pls : List Pile) (o : Bool) (l : Nat) (i : Nat) : List Pile := (List.range i).map fun k => colP pls o l (k + 1)
def foldP (pls : List Pile) (o : Bool) (l : Nat) : List Pile := (foundP pls o l (widP pls l)).reverse
def turnP (pls : List Pile) : List Pile := pls.reverse.map aboutP
theorem aboutP_length (p : Pile) : (aboutP p).length = p.length := by unfold aboutP; rw [List.length_map, List.length_reverse]
/-- how many layers lie at a column -/
def hOf (pls : List Pile) : Ht := fun x => if x < 0 then 0 else ((pls.getD x.toNat []).length : Int)
theorem foldP_length (pls : List Pile) (o : Bool) (l : Nat) : (foldP pls o l).length = widP pls l := by
  unfold foldP foundP; rw [List.length_reverse, List.length_map, List.length_range]
theorem widP_eq (pls : List Pile) {l : Nat} (h : l ≤ pls.length) : ((widP pls l : Nat) : Int) = foldW pls.length l := by
  unfold widP foldW
  split <;> split <;> omega
theorem getD_out {α : Type} {xs : List α} {i : Nat} {d : α} (h : xs.length ≤ i) : xs.getD i d = d := by
  rw [List.getD_eq_getElem?_getD, List.getElem?_eq_none h]; rfl
theorem foldP_at (pls : List Pile) (o : Bool) (l x : Nat) (h : x < widP pls l) : (foldP pls o l).getD x [] = colP pls o l (widP pls l - x) := by
  have hx : (foldP pls o l)[x]? = some (colP pls o l (widP pls l - x)) := by
    unfold foldP foundP
    rw [List.getElem?_reverse (by rw [List.length_map, List.length_range]; exact h), List.length_map, List.length_range, List.getElem?_map, List.getElem?_range (by omega)]
    show some (colP pls o l (widP pls l - 1 - x + 1)) = _
    rw [show widP pls l - 1 - x + 1 = widP pls l - x by omega]
  rw [List.getD_eq_getElem?_getD, hx]; rfl
theorem colP_length (pls : List Pile) (o : Bool) (l far : Nat) : (colP pls o l far).length = (restP pls l far).length + (comesP pls l far).length := by
  unfold colP
  cases o
  · rw [if_neg (by decide), List.length_append]
  · rw [if_pos rfl, List.length_append]; omega
theorem restP_length (pls : List Pile) (l far : Nat) : ((restP pls l far).length : Int) = hOf pls ((l : Int) - far) := by
  unfold restP hOf
  by_cases h : far ≤ l
  · rw [if_pos h, if_neg (by omega), show ((l : Int) - (far : Int)).toNat = l - far by omega]
  · rw [if_neg h, if_pos (by omega)]; rfl
theorem comesP_length (pls : List Pile) (l far : Nat) (hf : 1 ≤ far) : ((comesP pls l far).length : Int) = hOf pls ((l : Int) + far - 1) := by
  unfold comesP hOf
  rw [if_neg (show ¬ ((l : Int) + (far : Int) - 1 < 0) by omega), show ((l : Int) + (far : Int) - 1).toNat = l + far - 1 by omega]
  by_cases h : l + far ≤ pls.length
  · rw [if_pos h, aboutP_length]
  · rw [if_neg h, getD_out (by omega)]
theorem hOf_fold (pls : List Pile) (o : Bool) {l : Nat} (h1 : 1 ≤ l) (h2 : l < pls.length) : hOf (foldP pls o l) = foldH pls.length (hOf pls) l := by
  funext x
  have hw := widP_eq pls (Nat.le_of_lt h2)
  have hs := fold_shift (pls.length : Int) (l : Int)
  unfold foldH
  by_cases hx : x < 0 ∨ foldW pls.length l ≤ x
  · rw [if_pos hx]
    rcases hx with h | h
    · unfold hOf; rw [if_pos h]
    · have hx0 : 0 ≤ x := by omega
      unfold hOf
      rw [if_neg (by omega), getD_out (by rw [foldP_length]; omega)]; rfl
  · rw [if_neg hx]
    have hx' : ¬ x < 0 := fun z => hx (.inl z)
    have hlt : x.toNat < widP pls l := by omega
    have e : hOf (foldP pls o l) x = (((foldP pls o l).getD x.toNat []).length : Int) := by unfold hOf; rw [if_neg hx']
    rw [e, foldP_at _ _ _ _ hlt, colP_length, Int.natCast_add, restP_length, comesP_length _ _ _ (by omega)]
    rw [show (l : Int) - ((widP pls l - x.toNat : Nat) : Int) = x - shiftOf pls.length l by omega, show (l : Int) + ((widP pls l - x.toNat : Nat) : Int) - 1 = 2 * (l : Int) - 1 - (x - shiftOf pls.length l) by omega]
theorem turnP_length (pls : List Pile) : (turnP pls).length = pls.length := by unfold turnP; rw [List.length_map, List.length_reverse]
theorem hOf_turn (pls : List Pile) (h : 1 ≤ pls.length) : hOf (turnP pls) = foldH pls.length (hOf pls) 0 := by
  funext x
  have hw : foldW (pls.length : Int) 0 = pls.length := by unfold foldW; rw [if_pos (by omega)]; omega
  have hs : shiftOf (pls.length : Int) 0 = pls.length := by unfold shiftOf; rw [if_pos (by omega)]; omega
  unfold foldH
  rw [hw, hs]
  by_cases hx : x < 0 ∨ (pls.length : Int) ≤ x
  · rw [if_pos hx]
    rcases hx with h | h
    · unfold hOf; rw [if_pos h]
    · unfold hOf
      rw [if_neg (by omega), getD_out (by rw [turnP_length]; omega)]; rfl
  · rw [if_neg hx]
    have e0 : hOf pls (x - pls.length) = 0 := by unfold hOf; rw [if_pos (by omega)]
    rw [e0, Int.zero_add]
    unfold hOf
    rw [if_neg (by omega), if_neg (by omega)]
    have hxl : x.toNat < pls.length := by omega
    rw [show (2 * 0 - 1 - (x - (pls.length : Int))).toNat = pls.length - 1 - x.toNat by omega]
    have e1 : (turnP pls)[x.toNat]? = some (aboutP (pls.getD (pls.length - 1 - x.toNat) [])) := by
      unfold turnP
      rw [List.getElem?_map, List.getElem?_reverse hxl]
      have h2 : pls.length - 1 - x.toNat < pls.length := by omega
      rw [List.getElem?_eq_getElem h2]
      show some (aboutP _) = _
      rw [List.getD_eq_getElem?_getD, List.getElem?_eq_getElem h2]; rfl
    rw [List.getD_eq_getElem?_getD, e1]
    show ((aboutP _).length : Int) = _
    rw [aboutP_length]
/-- no pile is higher than so many -/
def Low (B : Nat) (pls : List Pile) : Prop := ∀ p ∈ pls, p.length ≤ B
theorem low_getD {B : Nat} {pls : List Pile} (h : Low B pls) (i : Nat) : (pls.getD i []).length ≤ B := by
  by_cases hi : i < pls.length
  · rw [List.getD_eq_getElem?_getD, List.getElem?_eq_getElem hi]
    exact h _ (List.getElem_mem hi)
  · rw [getD_out (by omega)]; exact Nat.zero_le _
theorem low_rest {B : Nat} {pls : List Pile} (h : Low B pls) (l far : Nat) : (restP pls l far).length ≤ B := by
  unfold restP; split
  · exact low_getD h _
  · exact Nat.zero_le _
theorem low_comes {B : Nat} {pls : List Pile} (h : Low B pls) (l far : Nat) : (comesP pls l far).length ≤ B := by
  unfold comesP; split
  · rw [aboutP_length]; exact low_getD h _
  · exact Nat.zero_le _
theorem low_fold {B : Nat} {pls : List Pile} (h : Low B pls) (o : Bool) (l : Nat) : Low (2 * B) (foldP pls o l) := by
  intro p hp
  unfold foldP foundP at hp
  obtain ⟨k, _, rfl⟩ := List.mem_map.mp (List.mem_reverse.mp hp)
  rw [colP_length]
  have h1 := low_rest h l (k + 1)
  have h2 := low_comes h l (k + 1)
  omega
theorem low_turn {B : Nat} {pls : List Pile} (h : Low B pls) : Low (2 * B) (turnP pls) := by
  intro p hp
  unfold turnP at hp
  obtain ⟨q, hq, rfl⟩ := List.mem_map.mp hp
  rw [aboutP_length]
  have := h q (List.mem_reverse.mp hq)
  omega
def flatP (n : Nat) : List Pile := (List.range n).map fun (p : Nat) => [((p : Int), true)]
theorem hOf_flat (n : Nat) : hOf (flatP n) = fun x => if x < 0 ∨ (n : Int) ≤ x then 0 else 1 := by
  funext x
  unfold hOf flatP
  by_cases h0 : x < 0
  · rw [if_pos h0, if_pos (.inl h0)]
  · rw [if_neg h0]
    by_cases h1 : (n : Int) ≤ x
    · rw [if_pos (.inr h1), getD_out (by rw [List.length_map, List.length_range]; omega)]; rfl
    · rw [if_neg (show ¬ (x < 0 ∨ (n : Int) ≤ x) by omega), List.getD_eq_getElem?_getD, List.getElem?_map, List.getElem?_range (show x.toNat < n by omega)]; rfl
end Fv

/-! where a layer lies in piles, and where it comes to -/
namespace Fv
structure Run where
  c : Int
  a : Int
  b : Int
  t : Bool
def carryR (w : Int) (h : Ht) (l : Int) (o : Bool) (r : Run) : Run :=
  if l ≤ r.c then (if o = true then ⟨2 * l - 1 - r.c + shiftOf w l, r.b, r.a + h (2 * l - 1 - r.c), !r.t⟩ else ⟨2 * l - 1 - r.c + shiftOf w l, r.b + h (2 * l - 1 - r.c), r.a, !r.t⟩)
  else (if o = true then ⟨r.c + shiftOf w l, r.a + h (2 * l - 1 - r.c), r.b, r.t⟩ else ⟨r.c + shiftOf w l, r.a, r.b + h (2 * l - 1 - r.c), r.t⟩)
structure LiesAt (pls : List Pile) (x : Int) (r : Run) (c a : Nat) (pile : Pile) : Prop where
  hc : r.c = (c : Int)
  ha : r.a = (a : Int)
  hp : pls[c]? = some pile
  hx : pile[a]? = some (x, !r.t)
  hb : r.b = (pile.length : Int) - 1 - (a : Int)
def Lies (pls : List Pile) (x : Int) (r : Run) : Prop := ∃ c a pile, LiesAt pls x r c a pile
def Uniq (pls : List Pile) : Prop := ∀ (x : Int) (c a c' a' : Nat) (p p' : Pile) (f f' : Bool), pls[c]? = some p → p[a]? = some (x, f) → pls[c']? = some p' → p'[a']? = some (x, f') → c = c' ∧ a = a'
theorem lies_uniq {pls : List Pile} {x : Int} {r r' : Run} (u : Uniq pls) (h : Lies pls x r) (h' : Lies pls x r') : r = r' := by
  obtain ⟨c, a, p, h1, h2, h3, h4, h5⟩ := h
  obtain ⟨c', a', p', g1, g2, g3, g4, g5⟩ := h'
  obtain ⟨rfl, rfl⟩ := u x c a c' a' p p' _ _ h3 h4 g3 g4
  obtain rfl : p = p' := Option.some.inj (h3.symm.trans g3)
  have e := Option.some.inj (h4.symm.trans g4)
  have e2 : (!r.t) = !r'.t := (Prod.mk.inj e).2
  have e3 : r.t = r'.t := by
    generalize r.t = s at e2 ⊢
    generalize r'.t = s' at e2 ⊢
    cases s <;> cases s' <;> simp_all
  obtain ⟨rc, ra, rb, rt⟩ := r
  obtain ⟨sc, sa, sb, st⟩ := r'
  simp only at h1 h2 h5 g1 g2 g5 e3
  subst e3
  rw [h1, h2, h5, g1, g2, g5]
theorem uniq_of_back {pls pls' : List Pile} (f : Run → Run) (u : Uniq pls)
    (back : ∀ (x : Int) (c a : Nat) (p : Pile) (k : Bool), pls'[c]? = some p → p[a]? = some (x, k) → ∃ r, Lies pls x r ∧ (f r).c = (c : Int) ∧ (f r).a = (a : Int)) : Uniq pls' := by
  intro x c a c' a' p p' k k' h1 h2 h3 h4
  obtain ⟨r, l1, e1, e2⟩ := back x c a p k h1 h2
  obtain ⟨r', l2, e3, e4⟩ := back x c' a' p' k' h3 h4
  obtain rfl := lies_uniq u l1 l2
  exact ⟨by omega, by omega⟩
theorem about_at {p : Pile} {j : Nat} (h : j < p.length) : (aboutP p)[j]? = (p[p.length - 1 - j]?).map fun q => (q.1, !q.2) := by
  unfold aboutP
  rw [List.getElem?_map, List.getElem?_reverse h]
theorem getD_of {pls : List Pile} {c : Nat} {p : Pile} (h : pls[c]? = some p) : pls.getD c [] = p := by
  rw [List.getD_eq_getElem?_getD, h]; rfl
theorem fold_get {pls : List Pile} {o : Bool} {l x : Nat} (h : x < widP pls l) : (foldP pls o l)[x]? = some (colP pls o l (widP pls l - x)) := by
  unfold foldP foundP
  rw [List.getElem?_reverse (by rw [List.length_map, List.length_range]; exact h), List.length_map, List.length_range, List.getElem?_map, List.getElem?_range (by omega)]
  show some (colP pls o l (widP pls l - 1 - x + 1)) = _
  rw [show widP pls l - 1 - x + 1 = widP pls l - x by omega]
theorem lies_turn {pls : List Pile} {x : Int} {r : Run} (h : Lies pls x r) : Lies (turnP pls) x (carryR pls.length (hOf pls) 0 true r) := by
  obtain ⟨c, a, p, h1, h2, h3, h4, h5⟩ := h
  have hcl : c < pls.length := (List.getElem?_eq_some_iff.mp h3).1
  have hal : a < p.length := (List.getElem?_eq_some_iff.mp h4).1
  have hs : shiftOf (pls.length : Int) 0 = pls.length := by unfold shiftOf; rw [if_pos (by omega)]; omega
  have hz : hOf pls (2 * 0 - 1 - r.c) = 0 := by unfold hOf; rw [if_pos (by omega)]
  have e : carryR pls.length (hOf pls) 0 true r = ⟨(pls.length : Int) - 1 - c, p.length - 1 - a, a, !r.t⟩ := by
    unfold carryR
    rw [if_pos (by omega), if_pos rfl, hz, hs, h1, h2, h5]
    congr 1 <;> omega
  rw [e]
  refine ⟨pls.length - 1 - c, p.length - 1 - a, aboutP p, ?_, ?_, ?_, ?_, ?_⟩
  · show (pls.length : Int) - 1 - c = _; omega
  · show (p.length : Int) - 1 - a = _; omega
  · unfold turnP
    rw [List.getElem?_map, List.getElem?_reverse (by omega), show pls.length - 1 - (pls.length - 1 - c) = c by omega, h3]; rfl
  · rw [about_at (by omega), show p.length - 1 - (p.length - 1 - a) = a by omega, h4]; rfl
  · show (a : Int) = _
    rw [aboutP_length]; omega
theorem back_turn {pls : List Pile} (x : Int) (c a : Nat) (p : Pile) (k : Bool) (h1 : (turnP pls)[c]? = some p) (h2 : p[a]? = some (x, k)) :
    ∃ r, Lies pls x r ∧ (carryR pls.length (hOf pls) 0 true r).c = (c : Int) ∧ (carryR pls.length (hOf pls) 0 true r).a = (a : Int) := by
  have hcl : c < pls.length := by
    have := (List.getElem?_eq_some_iff.mp h1).1
    rw [turnP_length] at this; exact this
  unfold turnP at h1
  rw [List.getElem?_map, List.getElem?_reverse hcl, List.getElem?_eq_getElem (by omega)] at h1
  obtain rfl := (Option.some.inj h1).symm
  generalize hq : pls[pls.length - 1 - c] = q at *
  have hq' : pls[pls.length - 1 - c]? = some q := by rw [← hq]; exact List.getElem?_eq_getElem _
  have hal : a < q.length := by
    have := (List.getElem?_eq_some_iff.mp h2).1
    rw [aboutP_length] at this; exact this
  rw [about_at hal, List.getElem?_eq_getElem (by omega)] at h2
  have e := Option.some.inj h2
  have e1 : (q[q.length - 1 - a]).1 = x := congrArg Prod.fst e
  have hs : shiftOf (pls.length : Int) 0 = pls.length := by unfold shiftOf; rw [if_pos (by omega)]; omega
  refine ⟨⟨((pls.length - 1 - c : Nat) : Int), ((q.length - 1 - a : Nat) : Int), (a : Int), !(q[q.length - 1 - a]).2⟩, ⟨pls.length - 1 - c, q.length - 1 - a, q, rfl, rfl, hq', ?_, ?_⟩, ?_, ?_⟩
  · rw [List.getElem?_eq_getElem (by omega)]
    show some q[q.length - 1 - a] = some (x, !!(q[q.length - 1 - a]).2)
    rw [Bool.not_not, ← e1]
  · show (a : Int) = _; omega
  · unfold carryR
    rw [if_pos (by show (0 : Int) ≤ ((pls.length - 1 - c : Nat) : Int); omega), if_pos rfl]
    show 2 * 0 - 1 - ((pls.length - 1 - c : Nat) : Int) + shiftOf _ 0 = _
    rw [hs]; omega
  · unfold carryR
    rw [if_pos (by show (0 : Int) ≤ ((pls.length - 1 - c : Nat) : Int); omega), if_pos rfl]
theorem wid_shift {pls : List Pile} {l : Nat} (h : l ≤ pls.length) : (widP pls l : Int) = l + shiftOf pls.length l := by
  have h1 := widP_eq pls h
  have h2 := fold_shift (pls.length : Int) (l : Int)
  omega
theorem hOf_nat {pls : List Pile} {z : Int} {j : Nat} (h : z = (j : Int)) : hOf pls z = ((pls.getD j []).length : Int) := by
  subst h
  unfold hOf
  rw [if_neg (by omega), Int.toNat_natCast]
/-- a layer that stays: the column far from the line -/
theorem lies_fold {pls : List Pile} {o : Bool} {l : Nat} {x : Int} {r : Run} (h1' : 1 ≤ l) (h2' : l < pls.length) (h : Lies pls x r) : Lies (foldP pls o l) x (carryR pls.length (hOf pls) l o r) := by
  obtain ⟨c, a, p, h1, h2, h3, h4, h5⟩ := h
  have hcl : c < pls.length := (List.getElem?_eq_some_iff.mp h3).1
  have hal : a < p.length := (List.getElem?_eq_some_iff.mp h4).1
  have hw := wid_shift (Nat.le_of_lt h2')
  have hW : pls.length - l ≤ widP pls l ∧ l ≤ widP pls l := by unfold widP; split <;> omega
  have hgp := getD_of h3
  by_cases hcl2 : (l : Int) ≤ r.c
  · -- it rides
    have hlc : l ≤ c := by omega
    have hfar : widP pls l - (widP pls l - (c - l + 1)) = c - l + 1 := by omega
    have hcome : comesP pls l (c - l + 1) = aboutP p := by
      unfold comesP
      rw [if_pos (by omega), show l + (c - l + 1) - 1 = c by omega, hgp]
    have hrest : ((restP pls l (c - l + 1)).length : Int) = hOf pls (2 * l - 1 - r.c) := by
      rw [restP_length]; congr 1; omega
    have hget : (aboutP p)[p.length - 1 - a]? = some (x, r.t) := by
      rw [about_at (by omega), show p.length - 1 - (p.length - 1 - a) = a by omega, h4]
      show some (x, !!r.t) = _
      rw [Bool.not_not]
    unfold carryR
    rw [if_pos hcl2]
    cases o with
    | true =>
      rw [if_pos rfl]
      refine ⟨widP pls l - (c - l + 1), p.length - 1 - a, colP pls true l (c - l + 1), by show 2 * (l : Int) - 1 - r.c + _ = _; omega, by show r.b = _; omega, by rw [fold_get (by omega), hfar], ?_, ?_⟩
      · show (if true = true then comesP pls l (c - l + 1) ++ restP pls l (c - l + 1) else _)[_]? = some (x, !!r.t)
        rw [if_pos rfl, hcome, List.getElem?_append_left (by rw [aboutP_length]; omega), hget, Bool.not_not]
      · show r.a + hOf pls (2 * l - 1 - r.c) = _
        rw [colP_length, hcome, aboutP_length, ← hrest]; omega
    | false =>
      rw [if_neg (by decide)]
      refine ⟨widP pls l - (c - l + 1), (restP pls l (c - l + 1)).length + (p.length - 1 - a), colP pls false l (c - l + 1), by show 2 * (l : Int) - 1 - r.c + _ = _; omega, by show r.b + hOf pls (2 * l - 1 - r.c) = _; rw [← hrest]; omega, by rw [fold_get (by omega), hfar], ?_, ?_⟩
      · show (if false = true then _ else restP pls l (c - l + 1) ++ comesP pls l (c - l + 1))[_]? = some (x, !!r.t)
        rw [if_neg (by decide), hcome, List.getElem?_append_right (by omega), show (restP pls l (c - l + 1)).length + (p.length - 1 - a) - (restP pls l (c - l + 1)).length = p.length - 1 - a by omega, hget, Bool.not_not]
      · show r.a = _
        rw [colP_length, hcome, aboutP_length]; omega
  · -- it stays
    have hlc : c < l := by omega
    have hfar : widP pls l - (widP pls l - (l - c)) = l - c := by omega
    have hrest : restP pls l (l - c) = p := by
      unfold restP
      rw [if_pos (by omega), show l - (l - c) = c by omega, hgp]
    have hcome : ((comesP pls l (l - c)).length : Int) = hOf pls (2 * l - 1 - r.c) := by
      rw [comesP_length _ _ _ (by omega)]; congr 1; omega
    unfold carryR
    rw [if_neg hcl2]
    cases o with
    | true =>
      rw [if_pos rfl]
      refine ⟨widP pls l - (l - c), (comesP pls l (l - c)).length + a, colP pls true l (l - c), by show r.c + _ = _; omega, by show r.a + hOf pls (2 * l - 1 - r.c) = _; rw [← hcome]; omega, by rw [fold_get (by omega), hfar], ?_, ?_⟩
      · show (if true = true then comesP pls l (l - c) ++ restP pls l (l - c) else _)[_]? = some (x, !r.t)
        rw [if_pos rfl, List.getElem?_append_right (by omega), show (comesP pls l (l - c)).length + a - (comesP pls l (l - c)).length = a by omega, hrest, h4]
      · show r.b = _
        rw [colP_length, hrest]; omega
    | false =>
      rw [if_neg (by decide)]
      refine ⟨widP pls l - (l - c), a, colP pls false l (l - c), by show r.c + _ = _; omega, by show r.a = _; omega, by rw [fold_get (by omega), hfar], ?_, ?_⟩
      · show (if false = true then _ else restP pls l (l - c) ++ comesP pls l (l - c))[_]? = some (x, !r.t)
        rw [if_neg (by decide), List.getElem?_append_left (by rw [hrest]; omega), hrest, h4]
      · show r.b + hOf pls (2 * l - 1 - r.c) = _
        rw [colP_length, hrest, ← hcome]; omega
theorem back_fold {pls : List Pile} {o : Bool} {l : Nat} (h1' : 1 ≤ l) (h2' : l < pls.length) (x : Int) (c a : Nat) (p : Pile) (k : Bool) (h1 : (foldP pls o l)[c]? = some p) (h2 : p[a]? = some (x, k)) :
    ∃ r, Lies pls x r ∧ (carryR pls.length (hOf pls) l o r).c = (c : Int) ∧ (carryR pls.length (hOf pls) l o r).a = (a : Int) := by
  have hcl : c < widP pls l := by
    have := (List.getElem?_eq_some_iff.mp h1).1
    rw [foldP_length] at this; exact this
  have hw := wid_shift (Nat.le_of_lt h2')
  rw [fold_get hcl] at h1
  obtain rfl := (Option.some.inj h1).symm
  generalize hf : widP pls l - c = far at *
  have hf1 : 1 ≤ far := by omega
  -- where the layer was: in the part that stays, or in the one that rides
  have stays : ∀ j : Nat, (restP pls l far)[j]? = some (x, k) → (o = true → a = (comesP pls l far).length + j) → (o = false → a = j) → ∃ r, Lies pls x r ∧ (carryR pls.length (hOf pls) l o r).c = (c : Int) ∧ (carryR pls.length (hOf pls) l o r).a = (a : Int) := by
    intro j hj ht hfa
    have hle : far ≤ l := by
      unfold restP at hj
      by_cases z : far ≤ l
      · exact z
      · rw [if_neg z] at hj; simp at hj
    have hlt : l - far < pls.length := by omega
    have hr : restP pls l far = pls[l - far] := by
      unfold restP
      rw [if_pos hle, List.getD_eq_getElem?_getD, List.getElem?_eq_getElem hlt]; rfl
    rw [hr] at hj
    have hcome := comesP_length pls l far hf1
    refine ⟨⟨((l - far : Nat) : Int), (j : Int), ((pls[l - far]).length : Int) - 1 - (j : Int), !k⟩, ⟨l - far, j, pls[l - far], rfl, rfl, List.getElem?_eq_getElem hlt, by show _ = some (x, !!k); rw [Bool.not_not]; exact hj, rfl⟩, ?_, ?_⟩
    · unfold carryR
      rw [if_neg (by show ¬ (l : Int) ≤ ((l - far : Nat) : Int); omega)]
      cases o
      · rw [if_neg (by decide)]; show ((l - far : Nat) : Int) + _ = _; omega
      · rw [if_pos rfl]; show ((l - far : Nat) : Int) + _ = _; omega
    · unfold carryR
      rw [if_neg (by show ¬ (l : Int) ≤ ((l - far : Nat) : Int); omega)]
      cases o
      · rw [if_neg (by decide)]; show (j : Int) = _; rw [hfa rfl]
      · rw [if_pos rfl]; show (j : Int) + hOf pls (2 * l - 1 - ((l - far : Nat) : Int)) = _
        rw [ht rfl, show (2 * (l : Int) - 1 - ((l - far : Nat) : Int)) = (l : Int) + far - 1 by omega, ← hcome]; omega
  have rides : ∀ j : Nat, (comesP pls l far)[j]? = some (x, k) → (o = true → a = j) → (o = false → a = (restP pls l far).length + j) → ∃ r, Lies pls x r ∧ (carryR pls.length (hOf pls) l o r).c = (c : Int) ∧ (carryR pls.length (hOf pls) l o r).a = (a : Int) := by
    intro j hj ht hfa
    have hle : l + far ≤ pls.length := by
      unfold comesP at hj
      by_cases z : l + far ≤ pls.length
      · exact z
      · rw [if_neg z] at hj; simp at hj
    have hlt : l + far - 1 < pls.length := by omega
    have hr : comesP pls l far = aboutP pls[l + far - 1] := by
      unfold comesP
      rw [if_pos hle, List.getD_eq_getElem?_getD, List.getElem?_eq_getElem hlt]; rfl
    rw [hr] at hj
    generalize hq : pls[l + far - 1] = q at *
    have hjl : j < q.length := by
      have := (List.getElem?_eq_some_iff.mp hj).1
      rw [aboutP_length] at this; exact this
    rw [about_at hjl, List.getElem?_eq_getElem (by omega)] at hj
    have e := Option.some.inj hj
    have e1 : (q[q.length - 1 - j]).1 = x := congrArg Prod.fst e
    have hrest := restP_length pls l far
    refine ⟨⟨((l + far - 1 : Nat) : Int), ((q.length - 1 - j : Nat) : Int), (j : Int), !(q[q.length - 1 - j]).2⟩, ⟨l + far - 1, q.length - 1 - j, q, rfl, rfl, by rw [← hq]; exact List.getElem?_eq_getElem hlt, ?_, by show (j : Int) = _; omega⟩, ?_, ?_⟩
    · rw [List.getElem?_eq_getElem (by omega)]
      show some q[q.length - 1 - j] = some (x, !!(q[q.length - 1 - j]).2)
      rw [Bool.not_not, ← e1]
    · unfold carryR
      rw [if_pos (by show (l : Int) ≤ ((l + far - 1 : Nat) : Int); omega)]
      cases o
      · rw [if_neg (by decide)]; show 2 * (l : Int) - 1 - ((l + far - 1 : Nat) : Int) + _ = _; omega
      · rw [if_pos rfl]; show 2 * (l : Int) - 1 - ((l + far - 1 : Nat) : Int) + _ = _; omega
    · unfold carryR
      rw [if_pos (by show (l : Int) ≤ ((l + far - 1 : Nat) : Int); omega)]
      cases o
      · rw [if_neg (by decide)]; show (j : Int) + hOf pls (2 * l - 1 - ((l + far - 1 : Nat) : Int)) = _
        rw [hfa rfl, show (2 * (l : Int) - 1 - ((l + far - 1 : Nat) : Int)) = (l : Int) - far by omega, ← hrest]; omega
      · rw [if_pos rfl]; show (j : Int) = _; rw [ht rfl]
  cases o with
  | true =>
    have h2' : (comesP pls l far ++ restP pls l far)[a]? = some (x, k) := h2
    by_cases hz : a < (comesP pls l far).length
    · rw [List.getElem?_append_left hz] at h2'
      exact rides a h2' (fun _ => rfl) (fun z => by cases z)
    · rw [List.getElem?_append_right (by omega)] at h2'
      exact stays _ h2' (fun _ => by omega) (fun z => by cases z)
  | false =>
    have h2' : (restP pls l far ++ comesP pls l far)[a]? = some (x, k) := h2
    by_cases hz : a < (restP pls l far).length
    · rw [List.getElem?_append_left hz] at h2'
      exact stays a h2' (fun z => by cases z) (fun _ => rfl)
    · rw [List.getElem?_append_right (by omega)] at h2'
      exact rides _ h2' (fun z => by cases z) (fun _ => by omega)
theorem uniq_turn {pls : List Pile} (u : Uniq pls) : Uniq (turnP pls) := uniq_of_back _ u back_turn
theorem uniq_fold {pls : List Pile} {o : Bool} {l : Nat} (h1 : 1 ≤ l) (h2 : l < pls.length) (u : Uniq pls) : Uniq (foldP pls o l) := uniq_of_back _ u (back_fold h1 h2)
theorem uniq_flat (n : Nat) : Uniq (flatP n) := by
  intro x c a c' a' p p' f f' h1 h2 h3 h4
  have key : ∀ (c a : Nat) (p : Pile) (f : Bool), (flatP n)[c]? = some p → p[a]? = some (x, f) → (c : Int) = x ∧ a = 0 := by
    intro c a p f h1 h2
    have hc : c < n := by
      have := (List.getElem?_eq_some_iff.mp h1).1
      unfold flatP at this
      rw [List.length_map, List.length_range] at this; exact this
    unfold flatP at h1
    rw [List.getElem?_map, List.getElem?_range hc] at h1
    obtain rfl := (Option.some.inj h1).symm
    have ha : a = 0 := by have := (List.getElem?_eq_some_iff.mp h2).1; simp at this; exact this
    subst ha
    have := Option.some.inj h2
    exact ⟨(Prod.mk.inj this).1, rfl⟩
  obtain ⟨e1, rfl⟩ := key c a p f h1 h2
  obtain ⟨e2, rfl⟩ := key c' a' p' f' h3 h4
  exact ⟨by omega, rfl⟩
theorem lies_flat {n x : Nat} (h : x < n) : Lies (flatP n) x ⟨x, 0, 0, false⟩ := by
  refine ⟨x, 0, [((x : Int), true)], rfl, rfl, ?_, rfl, rfl⟩
  unfold flatP
  rw [List.getElem?_map, List.getElem?_range h]; rfl
end Fv

namespace Fv
open PySem PySem.Spec PyProof.Rows L2
/-! ### heaps: H0 is the part of H that is never changed again -/
structure Ext (H0 H H0' H' : Hp) : Prop where
  grow : Same H0 H0'
  same : Same H H'
  sub : Same H0' H'
  new : ∀ a, H0 a = none → H0' a ≠ none → H a = none
theorem same_new {H : Hp} {p : Addr} {o : HO} (h : H p = none) : Same H (upd H p o) := fun b x e => by
  rw [upd_ne (ne_of_none e h)]
  exact e
theorem same_free {H H' : Hp} {p : Addr} (e : Same H H') (h : H' p = none) : H p = none := e.free h
theorem Ext.refl {H0 H : Hp} (s : Same H0 H) : Ext H0 H H0 H := ⟨Same.refl _, Same.refl _, s, fun a h1 h2 => absurd h1 h2⟩
theorem Ext.trans {H0 H H1 H' H2 H'' : Hp} (a : Ext H0 H H1 H') (b : Ext H1 H' H2 H'') : Ext H0 H H2 H'' :=
  ⟨a.grow.trans b.grow, a.same.trans b.same, b.sub, fun p h1 h2 => by
    by_cases h : H1 p = none
    · exact a.same.free (b.new p h h2)
    · exact a.new p h1 h⟩
theorem Ext.of {H0 H H' : Hp} (s : Same H0 H) (e : Same H H') : Ext H0 H H0 H' := ⟨Same.refl _, e, s.trans e, fun a h1 h2 => absurd h1 h2⟩
/-- an object that is made and never changed -/
theorem Ext.alloc {H0 H H1 H' : Hp} (a : Ext H0 H H1 H') {p : Addr} (o : HO) (h : H' p = none) : Ext H0 H (upd H1 p o) (upd H' p o) := by
  have h1 : H1 p = none := a.sub.free h
  refine ⟨a.grow.trans (same_new h1), a.same.trans (same_new h), fun b x e => ?_, fun b n m => ?_⟩
  · by_cases hb : b = p
    · subst hb; rw [upd_same] at e ⊢; exact e
    · rw [upd_ne hb] at e ⊢; exact a.sub b x e
  · by_cases hb : b = p
    · subst hb; exact a.same.free h
    · rw [upd_ne hb] at m; exact a.new b n m
/-- an object that is made, and may be changed -/
theorem Ext.make {H0 H H1 H' : Hp} (a : Ext H0 H H1 H') {p : Addr} (o : HO) (h : H' p = none) : Ext H0 H H1 (upd H' p o) := by
  have h1 : H1 p = none := a.sub.free h
  exact ⟨a.grow, a.same.trans (same_new h), fun b x e => by rw [upd_ne (ne_of_none e h1)]; exact a.sub b x e, a.new⟩
/-- one that was made since is changed -/
theorem Ext.mut {H0 H H1 H' : Hp} (a : Ext H0 H H1 H') {p : Addr} (o : HO) (h : H p = none) (h1 : H1 p = none) : Ext H0 H H1 (upd H' p o) :=
  ⟨a.grow, fun b x e => by rw [upd_ne (ne_of_none e h)]; exact a.same b x e, fun b x e => by rw [upd_ne (ne_of_none e h1)]; exact a.sub b x e, a.new⟩
/-- one that was made since stays as it is from now on -/
theorem Ext.keep {H0 H H1 H' : Hp} (a : Ext H0 H H1 H') {p : Addr} {o : HO} (h : H p = none) (h1 : H1 p = none) (e : H' p = some o) : Ext H0 H (upd H1 p o) H' :=
  ⟨a.grow.trans (same_new h1), a.same, fun b x q => by
    by_cases hb : b = p
    · subst hb; rw [upd_same] at q; rw [← q]; exact e
    · rw [upd_ne hb] at q; exact a.sub b x q, fun b n m => by
    by_cases hb : b = p
    · subst hb; exact h
    · rw [upd_ne hb] at m; exact a.new b n m⟩
theorem Ext.out {H0 H H1 H' : Hp} (a : Ext H0 H H1 H') {p : Addr} (h : H p ≠ none) (h0 : H0 p = none) : H1 p = none := by
  cases e : H1 p with
  | none => rfl
  | some o => exact absurd (a.new p h0 (by rw [e]; simp)) h

/-! ### data that are read -/
section
variable {K : PySem.W.Frag} {H H' : Hp}
mutual
theorem Dp.mono (e : Same H H') : ∀ {v : V} {d : PyData}, Dp K H v d → Dp K H' v d
  | _, _, .non => .non
  | _, _, .bl b => .bl b
  | _, _, .int i => .int i
  | _, _, .str x => .str x
  | _, _, .lst h r => .lst (e.seq h) (DpAll.mono e r)
  | _, _, .tup h r => .tup (sqt_same e h) (DpAll.mono e r)
theorem DpAll.mono (e : Same H H') : ∀ {vs : List V} {ds : List PyData}, DpAll K H vs ds → DpAll K H' vs ds
  | _, _, .nil => .nil
  | _, _, .cons h r => .cons (Dp.mono e h) (DpAll.mono e r)
theorem sqt_same (e : Same H H') {a : Addr} {xs : List V} (h : SqT K H a xs) : SqT K H' a xs := by
  rcases h with (h | ⟨o, h⟩) | h
  · exact .inl (.inl (e _ _ h))
  · exact .inl (.inr ⟨o, e _ _ h⟩)
  · exact .inr h
end
theorem Dp.inv_int {v : V} {i : Int} (h : Dp K H v (.int i)) : v = .int i := by cases h; rfl
theorem Dp.inv_bl {v : V} {b : Bool} (h : Dp K H v (.bool b)) : v = .bl b := by cases h; rfl
theorem Dp.inv_str {v : V} {x : Str} (h : Dp K H v (.str x)) : v = .str x := by cases h; rfl
theorem Dp.inv_lst {v : V} {ds : List PyData} (h : Dp K H v (.list ds)) : ∃ a xs, v = .ref a ∧ SqL K H a xs ∧ DpAll K H xs ds := by
  cases h with | lst h r => exact ⟨_, _, rfl, h, r⟩
theorem Dp.inv_tup {v : V} {ds : List PyData} (h : Dp K H v (.tuple ds)) : ∃ a xs, v = .ref a ∧ SqT K H a xs ∧ DpAll K H xs ds := by
  cases h with | tup h r => exact ⟨_, _, rfl, h, r⟩
theorem DpAll.inv_cons {vs : List V} {d : PyData} {ds : List PyData} (h : DpAll K H vs (d :: ds)) : ∃ v r, vs = v :: r ∧ Dp K H v d ∧ DpAll K H r ds := by
  cases h with | cons h r => exact ⟨_, _, rfl, h, r⟩
theorem DpAll.inv_nil {vs : List V} (h : DpAll K H vs []) : vs = [] := by cases h; rfl
theorem DpAll.length : ∀ {vs : List V} {ds : List PyData}, DpAll K H vs ds → vs.length = ds.length
  | _, _, .nil => rfl
  | _, _, .cons _ r => congrArg (· + 1) (DpAll.length r)
theorem DpAll.at : ∀ {vs : List V} {ds : List PyData}, DpAll K H vs ds → ∀ {i : Nat} {v : V}, vs[i]? = some v → ∃ d, ds[i]? = some d ∧ Dp K H v d
  | _, _, .nil, _, _, h => by simp at h
  | _, _, .cons h r, 0, _, e => ⟨_, rfl, by have := Option.some.inj e; rw [← this]; exact h⟩
  | _, _, .cons _ r, i + 1, _, e => DpAll.at r (i := i) e
theorem DpAll.of : ∀ {vs : List V} {ds : List PyData}, DpAll K H vs ds → ∀ {i : Nat} {d : PyData}, ds[i]? = some d → ∃ v, vs[i]? = some v ∧ Dp K H v d
  | _, _, .nil, _, _, h => by simp at h
  | _, _, .cons h r, 0, _, e => ⟨_, rfl, by have := Option.some.inj e; rw [← this]; exact h⟩
  | _, _, .cons _ r, i + 1, _, e => DpAll.of r (i := i) e
theorem DpAll.app : ∀ {vs ws : List V} {ds es : List PyData}, DpAll K H vs ds → DpAll K H ws es → DpAll K H (vs ++ ws) (ds ++ es)
  | _, _, _, _, .nil, h => h
  | _, _, _, _, .cons h r, q => .cons h (DpAll.app r q)
theorem DpAll.one {v : V} {d : PyData} (h : Dp K H v d) : DpAll K H [v] [d] := .cons h .nil
theorem DpAll.ints : ∀ (ns : List Int), DpAll K H (ns.map V.int) (ns.map PyData.int)
  | [] => .nil
  | n :: r => .cons (.int n) (DpAll.ints r)
theorem Dp.lst_of {a : Addr} {xs : List V} {ds : List PyData} (h : H a = some (.lst xs)) (r : DpAll K H xs ds) : Dp K H (.ref a) (.list ds) := .lst (SqL.of h) r
theorem Dp.tup_of {a : Addr} {xs : List V} {ds : List PyData} (h : H a = some (.tup xs)) (r : DpAll K H xs ds) : Dp K H (.ref a) (.tuple ds) := .tup (SqT.of h) r
theorem DpAll.take : ∀ (n : Nat) {vs : List V} {ds : List PyData}, DpAll K H vs ds → DpAll K H (vs.take n) (ds.take n)
  | 0, _, _, _ => .nil
  | n + 1, _, _, .nil => .nil
  | n + 1, _, _, .cons h r => .cons h (DpAll.take n r)
theorem DpAll.drop : ∀ (n : Nat) {vs : List V} {ds : List PyData}, DpAll K H vs ds → DpAll K H (vs.drop n) (ds.drop n)
  | 0, _, _, h => h
  | n + 1, _, _, .nil => .nil
  | n + 1, _, _, .cons _ r => DpAll.drop n r
theorem DpAll.rev {vs : List V} {ds : List PyData} (h : DpAll K H vs ds) : DpAll K H vs.reverse ds.reverse := by
  induction h using DpAll.rec (motive_1 := fun _ _ _ => True) with
  | nil => exact .nil
  | cons h r _ ih => rw [List.reverse_cons, List.reverse_cons]; exact DpAll.app ih (DpAll.one h)
  | _ => trivial
/-- the type's name -/
def tyD : PyData → String
  | .none => "NoneType" | .bool _ => "bool" | .int _ => "int" | .str _ => "str" | .list _ => "list" | .tuple _ => "tuple" | .dict _ => "dict"
theorem Dp.ty {v : V} {d : PyData} (h : Dp K H v d) : TyB K H v (tyD d) := by
  cases h with
  | non => exact .non
  | bl b => exact .bl b
  | int i => exact .int i
  | str x => exact .str x
  | lst h _ => exact .lst h
  | tup h _ => exact .tup h
end
end Fv

namespace Fv
open PySem PySem.Spec PyProof.Rows L2
/-- a def of the text, as it stands behind the top -/
def DefAt (K : PySem.W.Frag) (mg : Str → Option Value) (nm : Str) (st : Stmt) (ps : List Str) : Prop :=
  ∃ (f : Addr) (fd : FuncData), mg nm = some (.ref f) ∧ Fun K nm nm st f fd ∧ Binds K fd ps []
/-- a def that keeps its promise -/
def Good (P : Program) (w : World) (K : PySem.W.Frag) (mg : Str → Option Value) (base : Heap) (k : Nat) (nm : Str) (ps : List Str) (sp : Sp) : Prop :=
  ∃ (f : Addr) (fd : FuncData), mg nm = some (.ref f) ∧ PySem.W.keepIn K (.ref f) = true ∧ Binds K fd ps [] ∧ FnOk P w K mg base CX0 k f fd ps sp
section
variable {P : Program} {w : World} {K : PySem.W.Frag} {mg : Str → Option Value} {base : Heap}
theorem Good.of {nm : Str} {st : Stmt} {N ps : List Str} {k : Nat} {sp : Sp} (D : DefAt K mg nm st ps) (S : FnScope N ps (defScope st)) (len : ∀ vs H Q E, sp vs H Q E → vs.length = ps.length)
    (hbody : ∀ (f : Addr) (cdv : Value) (A : Around) (outer : List Env) (s : Shared) (H : Hp) (vs : List V) (Q : VK) (E : XK), Room k (A.deeper (envOfC nm (defScope st) s.heap.objs.size f cdv)) → sp vs H Q E →
      ∃ t, PSs (cxOf CX0 P w K mg base N nm (defScope st) f cdv A outer s H E).nox (defBody st) t ∧ t { nx := fun _ H' => Q .non H', rt := Q } (start N vs) H) :
    Good P w K mg base (k + 1) nm ps sp := by
  obtain ⟨f, fd, hm, F, hb⟩ := D
  exact ⟨f, fd, hm, F.kp, hb, F.ok S len fun cdv A outer s H vs Q E hr h => hbody f cdv A outer s H vs Q E hr h⟩
theorem Good.mono {j k : Nat} {nm : Str} {ps : List Str} {sp : Sp} (h : Good P w K mg base j nm ps sp) (hk : j ≤ k) : Good P w K mg base k nm ps sp := by
  obtain ⟨f, fd, a, b, c, d⟩ := h
  exact ⟨f, fd, a, b, c, d.mono hk⟩
end
/-- the names of Python that the text does not bind -/
structure Bi (mg : Str → Option Value) : Prop where
  n_type : mg "type" = none
  n_int : mg "int" = none
  n_str : mg "str" = none
  n_list : mg "list" = none
  n_tuple : mg "tuple" = none
  n_bool : mg "bool" = none
  n_sum : mg "sum" = none
  n_max : mg "max" = none
  n_min : mg "min" = none
  n_len : mg "len" = none
  n_sorted : mg "sorted" = none
  n_range : mg "range" = none
  n_zip : mg "zip" = none
  n_reversed : mg "reversed" = none
  n_repr : mg "repr" = none
  n_isinstance : mg "isinstance" = none
  n_enumerate : mg "enumerate" = none
  n_abs : mg "abs" = none
  n_set : mg "set" = none
  n_all : mg "all" = none
  n_dict : mg "dict" = none
/-- the constants of the program: FOLDS stands at aF -/
structure Co (K : PySem.W.Frag) (mg : Str → Option Value) (tP tD : Tok) (aF : Addr) : Prop where
  c_MOST_PLACES : mg "MOST_PLACES" = some (.int (10 ^ 30) tP)
  c_MOST_DEEDS : mg "MOST_DEEDS" = some (.int 40 tD)
  c_FOLDS : mg "FOLDS" = some (.ref aF)
  folds : ∀ H : Hp, SqT K H aF [.str "over", .str "under"]
end Fv
namespace Fv
open PySem PySem.Spec PyProof.Rows L2
section
variable {CX : CXT} {P : Program} {w : World} {K : PySem.W.Frag} {mg : Str → Option Value} {base : Heap} {N : List Str} {q : Str} {sc : Scope} {f : Addr} {cd : Value} {A : Around} {o : List Env} {s : Shared} {H : Hp} {E : XK}
theorem cxK : (cxOf CX P w K mg base N q sc f cd A o s H E).K = K := rfl
theorem cxKn : (cxOf CX P w K mg base N q sc f cd A o s H E).nox.K = K := rfl
end
end Fv

namespace Fv
open PySem PySem.Spec PyProof.Rows L2
/-! ### rules of our own: a built-in type in a tuple of such -/
inductive TyN : String → Prop
  | a : TyN "int" | b : TyN "str" | c : TyN "bool" | d : TyN "NoneType" | e : TyN "list" | f : TyN "tuple" | g : TyN "dict"
theorem TyN.meta {T : String} (h : TyN T) : ∀ s' : Shared, s'.TypeIs (.type T) "type" := by
  cases h
  · exact TypeEq.meta_int
  · exact TypeEq.meta_str
  · exact TypeEq.meta_bool
  · exact TypeEq.meta_NoneType
  · exact TypeEq.meta_list
  · exact TypeEq.meta_tuple
  · exact TypeEq.meta_dict
theorem tyN_D (d : PyData) : TyN (tyD d) := by
  cases d
  · exact .d
  · exact .c
  · exact .a
  · exact .b
  · exact .e
  · exact .f
  · exact .g
theorem eqAt_ty {A : Around} {s : Shared} {S T : String} (hS : TyN S) (hT : TyN T) : SeqAt.EqAt A s (.type S) (.type T) (decide (S = T)) := by
  by_cases e : S = T
  · subst e
    rw [decide_eq_true rfl]
    exact SeqAt.EqAt.same _
  · rw [decide_eq_false e]
    intro prog w E Q hq
    have hne : (Value.type S == Value.type T) = false := by rw [ty_beq]; exact decide_eq_false e
    unfold eqBool
    refine wpAny_holding ?_
    refine wpAny_ite_split (fun hab => absurd (hne.symm.trans hab) Bool.false_ne_true) (fun _ => ?_)
    exact wpAny_bind (TypeEq.eq_type_other hS.meta hT.meta hne (wpAny_truthy_bool hq))
def eqTyU (T : String) (u : Value) : Bool := match u with
  | .type S => decide (S = T)
  | _ => false
theorem any_eqTy {T : String} : ∀ {ts : List String} {us : List Value}, Vals (ts.map V.ty) us → us.any (eqTyU T) = ts.any fun S => decide (S = T)
  | [], _, .nil => rfl
  | S :: ts, _, .cons r t => by
    cases (show _ = Value.type S from r)
    rw [List.any_cons, List.any_cons, any_eqTy t]
    rfl
theorem mem_eqTy {A : Around} {s : Shared} {T : String} (hT : TyN T) : ∀ {ts : List String} {us : List Value}, Vals (ts.map V.ty) us → (∀ S ∈ ts, TyN S) → ∀ u ∈ us, SeqAt.EqAt A s u (.type T) (eqTyU T u)
  | [], _, .nil, _ => fun u hu => by cases hu
  | S :: ts, _, .cons r t, f => fun u hu => by
    cases (show _ = Value.type S from r)
    rcases List.mem_cons.mp hu with rfl | hu
    · exact eqAt_ty (f S List.mem_cons_self) hT
    · exact mem_eqTy hT t (fun R hR => f R (List.mem_cons_of_mem _ hR)) u hu
def rInTy (K : PySem.W.Frag) : R2 := fun x y H Q => ∃ (T : String) (p : Addr) (ts : List String), x = .ty T ∧ y = .ref p ∧ SqT K H p (ts.map V.ty) ∧ TyN T ∧ (∀ S ∈ ts, TyN S) ∧ Q (.bl (ts.any fun S => decide (S = T))) H
section
variable {X : Cx}
theorem op_in_ty : OpR X (compareOp .In) (rInTy X.K) := by
  intro pins s σ H x y v u Q I rx ry h
  obtain ⟨T, p, ts, rfl, rfl, hq, hT, hts, q⟩ := h
  cases (show v = Value.type T from rx)
  cases ry
  obtain ⟨its, r, pl, hz⟩ := I.tuple hq
  refine SeqAt.in_tupleAt (eqTyU T) pl (fun w hw => mem_eqTy hT r hts w (by simpa using hw)) ⟨.bl _, H, I, rfl, ?_⟩
  rw [show its.toArray.any (eqTyU T) = its.any (eqTyU T) by simp, any_eqTy r]
  exact q
end
end Fv

namespace Fv
open PySem PySem.Spec PyProof.Rows L2
section
variable {K : PySem.W.Frag}
theorem DpAll.ints_inv {H : Hp} : ∀ {vs : List V} {ns : List Int}, DpAll K H vs (ns.map PyData.int) → vs = ns.map V.int
  | _, [], h => DpAll.inv_nil h
  | _, n :: r, h => by
    obtain ⟨v, t, rfl, h1, h2⟩ := DpAll.inv_cons h
    rw [Dp.inv_int h1, DpAll.ints_inv h2]; rfl
theorem take_more {α : Type} : ∀ {l : List α} {i : Nat} {x : α}, l[i]? = some x → l.take (i + 1) = l.take i ++ [x]
  | [], i, x, h => by simp at h
  | a :: l, 0, x, h => by
    have e : a = x := Option.some.inj h
    subst e; rfl
  | a :: l, i + 1, x, h => by
    have ih := take_more (l := l) (i := i) (x := x) h
    show a :: l.take (i + 1) = a :: l.take i ++ [x]
    rw [ih]; rfl
theorem sz_of {n : Nat} (h : n ≤ 100000) : n ≤ sizeLine := Nat.le_trans h (by decide)
theorem sz_lt {n : Nat} (h : n < 100000) : n < sizeLine := Nat.lt_of_lt_of_le h (by decide)
/-- what holds behind i turns of a comprehension whose list grows at D -/
def LcInv {α : Type} (K : PySem.W.Frag) (H0 H1 : Hp) (D : Addr) (L : List α) (keep : α → Bool) (dat : α → PyData) (i : Nat) (Hc : Hp) : Prop :=
  ∃ (H0' : Hp) (acc : List V), Ext H0 H1 H0' Hc ∧ H0' D = none ∧ Hc D = some (.lst acc) ∧ DpAll K H0' acc (((L.take i).filter keep).map dat)
theorem lcInv_start {α : Type} {H0 H1 : Hp} {D : Addr} {L : List α} {keep : α → Bool} {dat : α → PyData} (s : Same H0 H1) (hD : H1 D = none) : LcInv K H0 H1 D L keep dat 0 (upd H1 D (.lst [])) :=
  ⟨H0, [], (Ext.refl s).make _ hD, s.free hD, upd_same, .nil⟩
/-- one turn's reading: what comes of the item d at i -/
def LcTurn {α : Type} (K : PySem.W.Frag) (H0 H1 : Hp) (g : TG) (tt : TT) (te : TE) (vs : List Nat) (σ : L2.St) (keep : α → Bool) (dat : α → PyData) (d : α) (x : V) : Prop :=
  ∀ (H0' Hc : Hp), Ext H0 H1 H0' Hc → ∀ (Qy : V → Hp → Prop) (Qn : Hp → Prop), (keep d = true → ∀ y H0'' H4, Ext H0' Hc H0'' H4 → Dp K H0'' y (dat d) → Qy y H4) → (keep d = false → ∀ H0'' H3, Ext H0' Hc H0'' H3 → Qn H3) →
    g x (wipe σ vs) Hc fun σ2 H2 => wipe σ2 vs = wipe σ vs ∧ tt σ2 H2 fun b H3 => if b = true then te σ2 H3 Qy else Qn H3
theorem tg_mono {g : TG} : True := trivial
theorem lc_step {α : Type} {H0 H1 : Hp} {D : Addr} {L : List α} {keep : α → Bool} {dat : α → PyData} {g : TG} {tt : TT} {te : TE} {vs : List Nat} {σ : L2.St} {i : Nat} {x : V} {d : α} {Hc : Hp}
    (hlen : L.length < 100000) (hd : L[i]? = some d) (hD : H1 D = none) (h : LcInv K H0 H1 D L keep dat i Hc) (t : LcTurn K H0 H1 g tt te vs σ keep dat d x) :
    g x (wipe σ vs) Hc fun σ2 H2 => wipe σ2 vs = wipe σ vs ∧ tt σ2 H2 fun b H3 =>
      if b = true then te σ2 H3 fun y H4 => ∃ acc, H4 D = some (.lst acc) ∧ acc.length < sizeLine ∧ LcInv K H0 H1 D L keep dat (i + 1) (upd H4 D (.lst (acc ++ [y]))) else LcInv K H0 H1 D L keep dat (i + 1) H3 := by
  obtain ⟨H0', acc, e, n0, eD, da⟩ := h
  have hacc : acc.length < 100000 := by
    rw [DpAll.length da, List.length_map]
    have h1 := List.length_filter_le keep (L.take i)
    have h2 := List.length_take_le i L
    have h3 : (L.take i).length ≤ L.length := by rw [List.length_take]; exact Nat.min_le_right _ _
    omega
  refine t H0' Hc e _ _ (fun hk y H0'' H4 e2 dy => ⟨acc, e2.same D _ eD, sz_lt hacc, H0'', acc ++ [y], ?_, ?_, upd_same, ?_⟩) (fun hk H0'' H3 e2 => ⟨H0'', acc, e.trans e2, ?_, e2.same D _ eD, ?_⟩)
  · exact (e.trans e2).mut _ hD (e2.out (by rw [eD]; simp) n0)
  · exact e2.out (by rw [eD]; simp) n0
  · rw [take_more hd, List.filter_append, List.map_append]
    refine DpAll.app (DpAll.mono e2.grow da) ?_
    rw [show [d].filter keep = [d] by simp [hk]]
    exact DpAll.one dy
  · exact e2.out (by rw [eD]; simp) n0
  · rw [take_more hd, List.filter_append, List.map_append, show [d].filter keep = [] by simp [hk], List.map_nil, List.append_nil]
    exact DpAll.mono e2.grow da
/-- a comprehension over a list: the items stand for the data L -/
theorem lcL {α : Type} (keep : α → Bool) (dat : α → PyData) {tl : TE} {g : TG} {tt : TT} {te : TE} {vs : List Nat} {σ : L2.St} {H : Hp} {Q : VK}
    (h : tl σ H fun v H1 => ∃ (L : List α) (a : Addr) (xs : List V) (H0 : Hp), v = .ref a ∧ SqL K H1 a xs ∧ Same H0 H1 ∧ L.length = xs.length ∧ L.length < 100000 ∧
      (∀ (i : Nat) (x : V) (d : α), xs[i]? = some x → L[i]? = some d → LcTurn K H0 H1 g tt te vs σ keep dat d x) ∧
      (∀ (D : Addr) (H0' H' : Hp) (ys : List V), H1 D = none → Ext H0 H1 H0' H' → H0' D = none → H' D = some (.lst ys) → DpAll K H0' ys ((L.filter keep).map dat) → Q (.ref D) H'))
    (mono : ∀ (Q1 Q2 : VK), (∀ v H', Q1 v H' → Q2 v H') → tl σ H Q1 → tl σ H Q2) : tLc (iList K tl) g tt te vs σ H Q := by
  show tl σ H _
  refine mono _ _ ?_ h
  rintro v H1 ⟨L, a, xs, H0, rfl, hS, s0, hl, hlen, ht, hq⟩
  refine ⟨a, rfl, ⟨xs, hS⟩, fun D hD => ?_⟩
  refine lc_list (K := K) (a := a) (xs := xs) (LcInv K H0 H1 D L keep dat) (lcInv_start s0 hD) (fun i Hc _ ⟨H0', acc, e, _⟩ => e.same.seq hS) (fun i x Hc hx hinv => ?_) (fun H' hinv => ?_)
  · have hi : i < L.length := by rw [hl]; exact (List.getElem?_eq_some_iff.mp hx).1
    have hd : L[i]? = some L[i] := List.getElem?_eq_getElem hi
    exact lc_step hlen hd hD hinv (ht i x _ hx hd)
  · obtain ⟨H0', acc, e, n0, eD, da⟩ := hinv
    rw [← hl, List.take_length] at da
    exact hq D H0' H' acc hD e n0 eD da
theorem lcLv {α : Type} (L : List α) (keep : α → Bool) (dat : α → PyData) {j : Nat} {g : TG} {tt : TT} {te : TE} {vs : List Nat} {σ : L2.St} {H1 : Hp} {Q : VK} {a : Addr} {xs : List V} {H0 : Hp}
    (hv : σ[j]? = some (some (.ref a))) (hS : SqL K H1 a xs) (s0 : Same H0 H1) (hl : L.length = xs.length) (hlen : L.length < 100000)
    (ht : ∀ (i : Nat) (x : V) (d : α), xs[i]? = some x → L[i]? = some d → LcTurn K H0 H1 g tt te vs σ keep dat d x)
    (hq : ∀ (D : Addr) (H0' H' : Hp) (ys : List V), H1 D = none → Ext H0 H1 H0' H' → H0' D = none → H' D = some (.lst ys) → DpAll K H0' ys ((L.filter keep).map dat) → Q (.ref D) H') :
    tLc (iList K (tVar j)) g tt te vs σ H1 Q :=
  lcL keep dat ⟨_, hv, L, a, xs, H0, rfl, hS, s0, hl, hlen, ht, hq⟩ (fun Q1 Q2 h ⟨v, e, q⟩ => ⟨v, e, h _ _ q⟩)
/-- .. over a tuple -/
theorem lcT {α : Type} (L : List α) (keep : α → Bool) (dat : α → PyData) {tl : TE} {g : TG} {tt : TT} {te : TE} {vs : List Nat} {σ : L2.St} {H : Hp} {Q : VK}
    (h : tl σ H fun v H1 => ∃ (a : Addr) (xs : List V) (H0 : Hp), v = .ref a ∧ SqT K H1 a xs ∧ Same H0 H1 ∧ L.length = xs.length ∧ L.length < 100000 ∧
      (∀ (i : Nat) (x : V) (d : α), xs[i]? = some x → L[i]? = some d → LcTurn K H0 H1 g tt te vs σ keep dat d x) ∧
      (∀ (D : Addr) (H0' H' : Hp) (ys : List V), H1 D = none → Ext H0 H1 H0' H' → H0' D = none → H' D = some (.lst ys) → DpAll K H0' ys ((L.filter keep).map dat) → Q (.ref D) H'))
    (mono : ∀ (Q1 Q2 : VK), (∀ v H', Q1 v H' → Q2 v H') → tl σ H Q1 → tl σ H Q2) : tLc (iTup K tl) g tt te vs σ H Q := by
  show tl σ H _
  refine mono _ _ ?_ h
  rintro v H1 ⟨a, xs, H0, rfl, hS, s0, hl, hlen, ht, hq⟩
  refine ⟨a, rfl, ⟨xs, hS⟩, fun D hD => ?_⟩
  refine lc_tup (K := K) (a := a) (xs := xs) (LcInv K H0 H1 D L keep dat) (lcInv_start s0 hD) (fun i Hc _ ⟨H0', acc, e, _⟩ => sqt_same e.same hS) (fun i x Hc hx hinv => ?_) (fun H' hinv => ?_)
  · have hi : i < L.length := by rw [hl]; exact (List.getElem?_eq_some_iff.mp hx).1
    have hd : L[i]? = some L[i] := List.getElem?_eq_getElem hi
    exact lc_step hlen hd hD hinv (ht i x _ hx hd)
  · obtain ⟨H0', acc, e, n0, eD, da⟩ := hinv
    rw [← hl, List.take_length] at da
    exact hq D H0' H' acc hD e n0 eD da
/-- .. over range(n) -/
theorem lcR {keep : Nat → Bool} {dat : Nat → PyData} {ta : TA} {g : TG} {tt : TT} {te : TE} {vs : List Nat} {σ : L2.St} {H : Hp} {Q : VK}
    (h : ta σ H fun us H1 => ∃ (n : Nat) (H0 : Hp), us = [.int (n : Int)] ∧ n < 100000 ∧ Same H0 H1 ∧
      (∀ i, i < n → LcTurn K H0 H1 g tt te vs σ keep dat i (.int (i : Int))) ∧
      (∀ (D : Addr) (H0' H' : Hp) (ys : List V), H1 D = none → Ext H0 H1 H0' H' → H0' D = none → H' D = some (.lst ys) → DpAll K H0' ys (((List.range n).filter keep).map dat) → Q (.ref D) H'))
    (mono : ∀ (Q1 Q2 : List V → Hp → Prop), (∀ v H', Q1 v H' → Q2 v H') → ta σ H Q1 → ta σ H Q2) : tLc (iRng1 ta) g tt te vs σ H Q := by
  show ta σ H _
  refine mono _ _ ?_ h
  rintro us H1 ⟨n, H0, rfl, hn, s0, ht, hq⟩
  refine ⟨(n : Int), rfl, by omega, by omega, fun D hD => ?_⟩
  rw [Int.toNat_natCast]
  have hr : (List.range n).length = n := List.length_range
  refine lc_range (lo := 0) (n := n) (LcInv K H0 H1 D (List.range n) keep dat) (lcInv_start s0 hD) (fun i Hc hi hinv => ?_) (fun H' hinv => ?_)
  · have hd : (List.range n)[i]? = some i := by rw [List.getElem?_range hi]
    rw [Int.zero_add]
    exact lc_step (by rw [hr]; exact hn) hd hD hinv (ht i hi)
  · obtain ⟨H0', acc, e, n0, eD, da⟩ := hinv
    rw [show (List.range n).take n = List.range n by conv => lhs; arg 1; rw [← hr]
                                                     exact List.take_length] at da
    exact hq D H0' H' acc hD e n0 eD da
end
end Fv

namespace Fv
open PySem PySem.Spec PyProof.Rows L2
/-! ### data whose lists and tuples stand in the heap -/
mutual
inductive Tp (H : Hp) : V → PyData → Prop
  | non : Tp H .non .none
  | bl (b : Bool) : Tp H (.bl b) (.bool b)
  | int (i : Int) : Tp H (.int i) (.int i)
  | str (x : Str) : Tp H (.str x) (.str x)
  | lst {a : Addr} {xs : List V} {ds : List PyData} : H a = some (.lst xs) → TpAll H xs ds → Tp H (.ref a) (.list ds)
  | tup {a : Addr} {xs : List V} {ds : List PyData} : H a = some (.tup xs) → TpAll H xs ds → Tp H (.ref a) (.tuple ds)
inductive TpAll (H : Hp) : List V → List PyData → Prop
  | nil : TpAll H [] []
  | cons {v : V} {vs : List V} {d : PyData} {ds : List PyData} : Tp H v d → TpAll H vs ds → TpAll H (v :: vs) (d :: ds)
end
section
variable {H H' : Hp}
mutual
theorem Tp.mono (e : Same H H') : ∀ {v : V} {d : PyData}, Tp H v d → Tp H' v d
  | _, _, .non => .non
  | _, _, .bl b => .bl b
  | _, _, .int i => .int i
  | _, _, .str x => .str x
  | _, _, .lst h r => .lst (e _ _ h) (TpAll.mono e r)
  | _, _, .tup h r => .tup (e _ _ h) (TpAll.mono e r)
theorem TpAll.mono (e : Same H H') : ∀ {vs : List V} {ds : List PyData}, TpAll H vs ds → TpAll H' vs ds
  | _, _, .nil => .nil
  | _, _, .cons h r => .cons (Tp.mono e h) (TpAll.mono e r)
end
mutual
theorem Tp.dp (K : PySem.W.Frag) : ∀ {v : V} {d : PyData}, Tp H v d → Dp K H v d
  | _, _, .non => .non
  | _, _, .bl b => .bl b
  | _, _, .int i => .int i
  | _, _, .str x => .str x
  | _, _, .lst h r => .lst (SqL.of h) (TpAll.dp K r)
  | _, _, .tup h r => .tup (SqT.of h) (TpAll.dp K r)
theorem TpAll.dp (K : PySem.W.Frag) : ∀ {vs : List V} {ds : List PyData}, TpAll H vs ds → DpAll K H vs ds
  | _, _, .nil => .nil
  | _, _, .cons h r => .cons (Tp.dp K h) (TpAll.dp K r)
end
theorem Tp.inv_int {v : V} {i : Int} (h : Tp H v (.int i)) : v = .int i := by cases h; rfl
theorem Tp.inv_bl {v : V} {b : Bool} (h : Tp H v (.bool b)) : v = .bl b := by cases h; rfl
theorem Tp.inv_str {v : V} {x : Str} (h : Tp H v (.str x)) : v = .str x := by cases h; rfl
theorem Tp.inv_lst {v : V} {ds : List PyData} (h : Tp H v (.list ds)) : ∃ a xs, v = .ref a ∧ H a = some (.lst xs) ∧ TpAll H xs ds := by
  cases h with | lst h r => exact ⟨_, _, rfl, h, r⟩
theorem Tp.inv_tup {v : V} {ds : List PyData} (h : Tp H v (.tuple ds)) : ∃ a xs, v = .ref a ∧ H a = some (.tup xs) ∧ TpAll H xs ds := by
  cases h with | tup h r => exact ⟨_, _, rfl, h, r⟩
theorem TpAll.inv_cons {vs : List V} {d : PyData} {ds : List PyData} (h : TpAll H vs (d :: ds)) : ∃ v r, vs = v :: r ∧ Tp H v d ∧ TpAll H r ds := by
  cases h with | cons h r => exact ⟨_, _, rfl, h, r⟩
theorem TpAll.inv_nil {vs : List V} (h : TpAll H vs []) : vs = [] := by cases h; rfl
theorem TpAll.length : ∀ {vs : List V} {ds : List PyData}, TpAll H vs ds → vs.length = ds.length
  | _, _, .nil => rfl
  | _, _, .cons _ r => congrArg (· + 1) (TpAll.length r)
theorem TpAll.at : ∀ {vs : List V} {ds : List PyData}, TpAll H vs ds → ∀ {i : Nat} {v : V}, vs[i]? = some v → ∃ d, ds[i]? = some d ∧ Tp H v d
  | _, _, .nil, _, _, h => by simp at h
  | _, _, .cons h r, 0, _, e => ⟨_, rfl, by have := Option.some.inj e; rw [← this]; exact h⟩
  | _, _, .cons _ r, i + 1, _, e => TpAll.at r (i := i) e
theorem TpAll.of : ∀ {vs : List V} {ds : List PyData}, TpAll H vs ds → ∀ {i : Nat} {d : PyData}, ds[i]? = some d → ∃ v, vs[i]? = some v ∧ Tp H v d
  | _, _, .nil, _, _, h => by simp at h
  | _, _, .cons h r, 0, _, e => ⟨_, rfl, by have := Option.some.inj e; rw [← this]; exact h⟩
  | _, _, .cons _ r, i + 1, _, e => TpAll.of r (i := i) e
theorem TpAll.app : ∀ {vs ws : List V} {ds es : List PyData}, TpAll H vs ds → TpAll H ws es → TpAll H (vs ++ ws) (ds ++ es)
  | _, _, _, _, .nil, h => h
  | _, _, _, _, .cons h r, q => .cons h (TpAll.app r q)
theorem TpAll.one {v : V} {d : PyData} (h : Tp H v d) : TpAll H [v] [d] := .cons h .nil
theorem TpAll.rev {vs : List V} {ds : List PyData} (h : TpAll H vs ds) : TpAll H vs.reverse ds.reverse := by
  induction h using TpAll.rec (motive_1 := fun _ _ _ => True) with
  | nil => exact .nil
  | cons h r _ ih => rw [List.reverse_cons, List.reverse_cons]; exact TpAll.app ih (TpAll.one h)
  | _ => trivial
theorem TpAll.ints : ∀ (ns : List Int), TpAll H (ns.map V.int) (ns.map PyData.int)
  | [] => .nil
  | n :: r => .cons (.int n) (TpAll.ints r)
theorem TpAll.ints_inv : ∀ {vs : List V} {ns : List Int}, TpAll H vs (ns.map PyData.int) → vs = ns.map V.int
  | _, [], h => TpAll.inv_nil h
  | _, n :: r, h => by
    obtain ⟨v, t, rfl, h1, h2⟩ := TpAll.inv_cons h
    rw [Tp.inv_int h1, TpAll.ints_inv h2]; rfl
theorem TpAll.take : ∀ (n : Nat) {vs : List V} {ds : List PyData}, TpAll H vs ds → TpAll H (vs.take n) (ds.take n)
  | 0, _, _, _ => .nil
  | n + 1, _, _, .nil => .nil
  | n + 1, _, _, .cons h r => .cons h (TpAll.take n r)
end
section
variable {K : PySem.W.Frag}
/-- what holds behind i turns of a comprehension whose list grows at D -/
def LcInv_t {α : Type} (H0 H1 : Hp) (D : Addr) (L : List α) (keep : α → Bool) (dat : α → PyData) (i : Nat) (Hc : Hp) : Prop :=
  ∃ (H0' : Hp) (acc : List V), Ext H0 H1 H0' Hc ∧ H0' D = none ∧ Hc D = some (.lst acc) ∧ TpAll H0' acc (((L.take i).filter keep).map dat)
theorem lcInv_start_t {α : Type} {H0 H1 : Hp} {D : Addr} {L : List α} {keep : α → Bool} {dat : α → PyData} (s : Same H0 H1) (hD : H1 D = none) : LcInv_t H0 H1 D L keep dat 0 (upd H1 D (.lst [])) :=
  ⟨H0, [], (Ext.refl s).make _ hD, s.free hD, upd_same, .nil⟩
/-- one turn's reading: what comes of the item d at i -/
def LcTurn_t {α : Type} (H0 H1 : Hp) (g : TG) (tt : TT) (te : TE) (vs : List Nat) (σ : L2.St) (keep : α → Bool) (dat : α → PyData) (d : α) (x : V) : Prop :=
  ∀ (H0' Hc : Hp), Ext H0 H1 H0' Hc → ∀ (Qy : V → Hp → Prop) (Qn : Hp → Prop), (keep d = true → ∀ y H0'' H4, Ext H0' Hc H0'' H4 → Tp H0'' y (dat d) → Qy y H4) → (keep d = false → ∀ H0'' H3, Ext H0' Hc H0'' H3 → Qn H3) →
    g x (wipe σ vs) Hc fun σ2 H2 => wipe σ2 vs = wipe σ vs ∧ tt σ2 H2 fun b H3 => if b = true then te σ2 H3 Qy else Qn H3
theorem lc_step_t {α : Type} {H0 H1 : Hp} {D : Addr} {L : List α} {keep : α → Bool} {dat : α → PyData} {g : TG} {tt : TT} {te : TE} {vs : List Nat} {σ : L2.St} {i : Nat} {x : V} {d : α} {Hc : Hp}
    (hlen : L.length < 100000) (hd : L[i]? = some d) (hD : H1 D = none) (h : LcInv_t H0 H1 D L keep dat i Hc) (t : LcTurn_t H0 H1 g tt te vs σ keep dat d x) :
    g x (wipe σ vs) Hc fun σ2 H2 => wipe σ2 vs = wipe σ vs ∧ tt σ2 H2 fun b H3 =>
      if b = true then te σ2 H3 fun y H4 => ∃ acc, H4 D = some (.lst acc) ∧ acc.length < sizeLine ∧ LcInv_t H0 H1 D L keep dat (i + 1) (upd H4 D (.lst (acc ++ [y]))) else LcInv_t H0 H1 D L keep dat (i + 1) H3 := by
  obtain ⟨H0', acc, e, n0, eD, da⟩ := h
  have hacc : acc.length < 100000 := by
    rw [TpAll.length da, List.length_map]
    have h1 := List.length_filter_le keep (L.take i)
    have h2 := List.length_take_le i L
    have h3 : (L.take i).length ≤ L.length := by rw [List.length_take]; exact Nat.min_le_right _ _
    omega
  refine t H0' Hc e _ _ (fun hk y H0'' H4 e2 dy => ⟨acc, e2.same D _ eD, sz_lt hacc, H0'', acc ++ [y], ?_, ?_, upd_same, ?_⟩) (fun hk H0'' H3 e2 => ⟨H0'', acc, e.trans e2, ?_, e2.same D _ eD, ?_⟩)
  · exact (e.trans e2).mut _ hD (e2.out (by rw [eD]; simp) n0)
  · exact e2.out (by rw [eD]; simp) n0
  · rw [take_more hd, List.filter_append, List.map_append]
    refine TpAll.app (TpAll.mono e2.grow da) ?_
    rw [show [d].filter keep = [d] by simp [hk]]
    exact TpAll.one dy
  · exact e2.out (by rw [eD]; simp) n0
  · rw [take_more hd, List.filter_append, List.map_append, show [d].filter keep = [] by simp [hk], List.map_nil, List.append_nil]
    exact TpAll.mono e2.grow da
/-- a comprehension over a list: the items stand for the data L -/
theorem lcL_t {α : Type} (keep : α → Bool) (dat : α → PyData) {tl : TE} {g : TG} {tt : TT} {te : TE} {vs : List Nat} {σ : L2.St} {H : Hp} {Q : VK}
    (h : tl σ H fun v H1 => ∃ (L : List α) (a : Addr) (xs : List V) (H0 : Hp), v = .ref a ∧ SqL K H1 a xs ∧ Same H0 H1 ∧ L.length = xs.length ∧ L.length < 100000 ∧
      (∀ (i : Nat) (x : V) (d : α), xs[i]? = some x → L[i]? = some d → LcTurn_t H0 H1 g tt te vs σ keep dat d x) ∧
      (∀ (D : Addr) (H0' H' : Hp) (ys : List V), H1 D = none → Ext H0 H1 H0' H' → H0' D = none → H' D = some (.lst ys) → TpAll H0' ys ((L.filter keep).map dat) → Q (.ref D) H'))
    (mono : ∀ (Q1 Q2 : VK), (∀ v H', Q1 v H' → Q2 v H') → tl σ H Q1 → tl σ H Q2) : tLc (iList K tl) g tt te vs σ H Q := by
  show tl σ H _
  refine mono _ _ ?_ h
  rintro v H1 ⟨L, a, xs, H0, rfl, hS, s0, hl, hlen, ht, hq⟩
  refine ⟨a, rfl, ⟨xs, hS⟩, fun D hD => ?_⟩
  refine lc_list (K := K) (a := a) (xs := xs) (LcInv_t H0 H1 D L keep dat) (lcInv_start_t s0 hD) (fun i Hc _ ⟨H0', acc, e, _⟩ => e.same.seq hS) (fun i x Hc hx hinv => ?_) (fun H' hinv => ?_)
  · have hi : i < L.length := by rw [hl]; exact (List.getElem?_eq_some_iff.mp hx).1
    have hd : L[i]? = some L[i] := List.getElem?_eq_getElem hi
    exact lc_step_t hlen hd hD hinv (ht i x _ hx hd)
  · obtain ⟨H0', acc, e, n0, eD, da⟩ := hinv
    rw [← hl, List.take_length] at da
    exact hq D H0' H' acc hD e n0 eD da
theorem lcLv_t {α : Type} (L : List α) (keep : α → Bool) (dat : α → PyData) {j : Nat} {g : TG} {tt : TT} {te : TE} {vs : List Nat} {σ : L2.St} {H1 : Hp} {Q : VK} {a : Addr} {xs : List V} {H0 : Hp}
    (hv : σ[j]? = some (some (.ref a))) (hS : SqL K H1 a xs) (s0 : Same H0 H1) (hl : L.length = xs.length) (hlen : L.length < 100000)
    (ht : ∀ (i : Nat) (x : V) (d : α), xs[i]? = some x → L[i]? = some d → LcTurn_t H0 H1 g tt te vs σ keep dat d x)
    (hq : ∀ (D : Addr) (H0' H' : Hp) (ys : List V), H1 D = none → Ext H0 H1 H0' H' → H0' D = none → H' D = some (.lst ys) → TpAll H0' ys ((L.filter keep).map dat) → Q (.ref D) H') :
    tLc (iList K (tVar j)) g tt te vs σ H1 Q :=
  lcL_t keep dat ⟨_, hv, L, a, xs, H0, rfl, hS, s0, hl, hlen, ht, hq⟩ (fun Q1 Q2 h ⟨v, e, q⟩ => ⟨v, e, h _ _ q⟩)
/-- .. over a tuple -/
theorem lcT_t {α : Type} (L : List α) (keep : α → Bool) (dat : α → PyData) {tl : TE} {g : TG} {tt : TT} {te : TE} {vs : List Nat} {σ : L2.St} {H : Hp} {Q : VK}
    (h : tl σ H fun v H1 => ∃ (a : Addr) (xs : List V) (H0 : Hp), v = .ref a ∧ SqT K H1 a xs ∧ Same H0 H1 ∧ L.length = xs.length ∧ L.length < 100000 ∧
      (∀ (i : Nat) (x : V) (d : α), xs[i]? = some x → L[i]? = some d → LcTurn_t H0 H1 g tt te vs σ keep dat d x) ∧
      (∀ (D : Addr) (H0' H' : Hp) (ys : List V), H1 D = none → Ext H0 H1 H0' H' → H0' D = none → H' D = some (.lst ys) → TpAll H0' ys ((L.filter keep).map dat) → Q (.ref D) H'))
    (mono : ∀ (Q1 Q2 : VK), (∀ v H', Q1 v H' → Q2 v H') → tl σ H Q1 → tl σ H Q2) : tLc (iTup K tl) g tt te vs σ H Q := by
  show tl σ H _
  refine mono _ _ ?_ h
  rintro v H1 ⟨a, xs, H0, rfl, hS, s0, hl, hlen, ht, hq⟩
  refine ⟨a, rfl, ⟨xs, hS⟩, fun D hD => ?_⟩
  refine lc_tup (K := K) (a := a) (xs := xs) (LcInv_t H0 H1 D L keep dat) (lcInv_start_t s0 hD) (fun i Hc _ ⟨H0', acc, e, _⟩ => sqt_same e.same hS) (fun i x Hc hx hinv => ?_) (fun H' hinv => ?_)
  · have hi : i < L.length := by rw [hl]; exact (List.getElem?_eq_some_iff.mp hx).1
    have hd : L[i]? = some L[i] := List.getElem?_eq_getElem hi
    exact lc_step_t hlen hd hD hinv (ht i x _ hx hd)
  · obtain ⟨H0', acc, e, n0, eD, da⟩ := hinv
    rw [← hl, List.take_length] at da
    exact hq D H0' H' acc hD e n0 eD da
/-- .. over range(n) -/
theorem lcR_t {keep : Nat → Bool} {dat : Nat → PyData} {ta : TA} {g : TG} {tt : TT} {te : TE} {vs : List Nat} {σ : L2.St} {H : Hp} {Q : VK}
    (h : ta σ H fun us H1 => ∃ (n : Nat) (H0 : Hp), us = [.int (n : Int)] ∧ n < 100000 ∧ Same H0 H1 ∧
      (∀ i, i < n → LcTurn_t H0 H1 g tt te vs σ keep dat i (.int (i : Int))) ∧
      (∀ (D : Addr) (H0' H' : Hp) (ys : List V), H1 D = none → Ext H0 H1 H0' H' → H0' D = none → H' D = some (.lst ys) → TpAll H0' ys (((List.range n).filter keep).map dat) → Q (.ref D) H'))
    (mono : ∀ (Q1 Q2 : List V → Hp → Prop), (∀ v H', Q1 v H' → Q2 v H') → ta σ H Q1 → ta σ H Q2) : tLc (iRng1 ta) g tt te vs σ H Q := by
  show ta σ H _
  refine mono _ _ ?_ h
  rintro us H1 ⟨n, H0, rfl, hn, s0, ht, hq⟩
  refine ⟨(n : Int), rfl, by omega, by omega, fun D hD => ?_⟩
  rw [Int.toNat_natCast]
  have hr : (List.range n).length = n := List.length_range
  refine lc_range (lo := 0) (n := n) (LcInv_t H0 H1 D (List.range n) keep dat) (lcInv_start_t s0 hD) (fun i Hc hi hinv => ?_) (fun H' hinv => ?_)
  · have hd : (List.range n)[i]? = some i := by rw [List.getElem?_range hi]
    rw [Int.zero_add]
    exact lc_step_t (by rw [hr]; exact hn) hd hD hinv (ht i hi)
  · obtain ⟨H0', acc, e, n0, eD, da⟩ := hinv
    rw [show (List.range n).take n = List.range n by conv => lhs; arg 1; rw [← hr]
                                                     exact List.take_length] at da
    exact hq D H0' H' acc hD e n0 eD da
end
end Fv

namespace Fv
open PySem PySem.Spec PyProof.Rows L2
/-! ### isinstance of data, and the text of data -/
theorem Tp.isi {K : PySem.W.Frag} {H : Hp} {v : V} {d : PyData} (h : Tp H v d) : TyX K H v (.type (tyD d)) := by
  cases h with
  | non => exact .base .non
  | bl b => exact .base (.bl b)
  | int i => exact .base (.int i)
  | str x => exact .base (.str x)
  | lst h _ => exact .base (.lst h)
  | tup h _ => exact .base (.tup h)
theorem kit_tup {K : PySem.W.Frag} (d : PyData) : PySem.W.kitOne K (.type (tyD d)) (.type "tuple") = some (decide (tyD d = "tuple")) := by
  have key : ∀ s : String, s ∈ ["NoneType", "bool", "int", "str", "list", "tuple", "dict"] → kitB s "tuple" = some (decide (s = "tuple")) := by decide +kernel
  exact kit_ty (key _ (by cases d <;> simp [tyD]))
theorem kit_lst {K : PySem.W.Frag} (d : PyData) : PySem.W.kitOne K (.type (tyD d)) (.type "list") = some (decide (tyD d = "list")) := by
  have key : ∀ s : String, s ∈ ["NoneType", "bool", "int", "str", "list", "tuple", "dict"] → kitB s "list" = some (decide (s = "list")) := by decide +kernel
  exact kit_ty (key _ (by cases d <;> simp [tyD]))
def rLenSq (K : PySem.W.Frag) : List V → Hp → VK → Prop := fun xs H Q => ∃ p ys, xs = [V.ref p] ∧ (SqL K H p ys ∨ SqT K H p ys) ∧ Q (.int (ys.length : Int)) H
def rReprD (K : PySem.W.Frag) : List V → Hp → VK → Prop := fun xs H Q => ∃ x d, xs = [x] ∧ Dp K H x d ∧ d.showable = true ∧ d.hasDict = false ∧ d.depth ≤ 64 ∧ d.shown.length ≤ sizeLine ∧ Q (.str d.shown) H
section
variable {X : Cx}
theorem call_reprD (hg : X.A.guards = some []) (hu : X.A.units + 66 < cLine) : CallR X (.builtin "repr") (rReprD X.K) := by
  intro pins s σ H xs us Q I r h
  obtain ⟨x, d, rfl, hd, hs, hn, hdep, hz, q⟩ := h
  obtain ⟨u, rfl, rx⟩ := vals1 r
  have fin : ∀ (h' : Heap) (u' : Tok) (tk : Nat), (∀ b o, s.heap.get? b = some o → h'.get? b = some o) → EP X pins σ Q (.str d.shown u') { s with heap := h', toks := tk } := fun h' u' tk kp =>
    ⟨.str d.shown, H, I.kept (t' := tk) kp, ⟨_, rfl⟩, q⟩
  cases hd with
  | non => cases rx; exact P.repr_of_none (fin s.heap _ _ fun _ _ e => e)
  | bl b =>
    cases rx
    refine P.repr_of_bool ?_
    have := fin s.heap s.toks (s.toks + 1) fun _ _ e => e
    cases b <;> exact this
  | int i =>
    obtain ⟨t, rfl⟩ := rx
    have hi : i.natAbs.log2 < 1920 := by simpa [PyData.showable] using hs
    exact P.repr_of_int hi (fin s.heap _ _ fun _ _ e => e)
  | str y =>
    obtain ⟨t, rfl⟩ := rx
    exact P.repr_of_str (fin s.heap _ _ fun _ _ e => e) hz
  | @lst a ys ds h r' =>
    cases rx
    obtain ⟨as, hr⟩ := Dp.reads I _ _ _ (.lst h r') rfl
    exact repr_of_reads' (h₀ := s.heap) hr hs (PyData.noDict_hsm hn) hg (by omega) (fun _ _ e => e) (fun h' u tk kp => fin h' u tk kp) hz
  | @tup a ys ds h r' =>
    cases rx
    obtain ⟨as, hr⟩ := Dp.reads I _ _ _ (.tup h r') rfl
    exact repr_of_reads' (h₀ := s.heap) hr hs (PyData.noDict_hsm hn) hg (by omega) (fun _ _ e => e) (fun h' u tk kp => fin h' u tk kp) hz
end
end Fv

/-! A def run where it is known what runs around it (no text of an object is being written), and a law's def called so. -/
namespace Fv
open PySem PySem.Spec PyProof.Rows L2
section
variable {P : Program} {w : World} {K : PySem.W.Frag} {mg : Str → Option Value} {base : Heap}
theorem run_def {nm : Str} {st : Stmt} {N ps : List Str} {k : Nat} {f : Addr} {fd : FuncData} {A : Around} {outer : List Env} {s : Shared} {H : Hp} {args : Args} {us : List Value} {vs : List V} {Q : VK}
    (F : Fun K nm nm st f fd) (S : FnScope N ps (defScope st)) (room : Room (k + 1) A) (en : Env0 P w K mg base A outer s H) (bind : BindsTo s fd args (ps.zip us)) (rel : Vals vs us) (hlen : vs.length = ps.length)
    (body : ∀ cdv : Value, Room k (A.deeper (envOfC nm (defScope st) s.heap.objs.size f cdv)) → ∃ t, PSs (cxOf CX0 P w K mg base N nm (defScope st) f cdv A outer s H E0).nox (defBody st) t ∧ t { nx := fun _ H' => Q .non H', rt := Q } (start N vs) H) :
    codeAny (model P w) A (.call (.ref f) args) (CR CX0 outer P w H s Q E0) s := by
  obtain ⟨oc, od, kV, doc, pm, an, cdv, ct, osl, rfl, hlook, hcode⟩ := F.ex
  have kin : K.In s.heap := e_kin en
  have nolim : s.heap.NoLimit := e_lim en
  have kinds : ∀ z ∈ ps.zip us, (defScope st).names.lookup z.1 = some .local ∨ ((defScope st).names.lookup z.1 = some .cell ∧ ((cellsFrom (s.heap.objs.size + 1) (defScope st).names []).lookup z.1).isSome = true) := by
    rintro ⟨n, u⟩ hz
    have hn : n ∈ ps := (List.of_mem_zip hz).1
    cases S.par n hn with
    | inl l => exact Or.inl l
    | inr c => exact Or.inr ⟨c, PySem.W.cellsFrom_some _ _ _ (Or.inl c)⟩
  apply codeAny_call_function room.depth (kin _ _ hlook) rfl S.co S.gen rfl (PySem.W.codeRec_of kin hcode)
  apply bind
  refine wpAny_newFunctionEnv_cells S.kind kinds ?_
  rintro env rfl s2 inCall
  constructor
  · exact nolim.keeps inCall.toInCall.keep
  · apply codeAny_func
    obtain ⟨t, term, read⟩ := body cdv (room.deeper _)
    have inv := inv_start (CX := CX0) (E := E0) S room.hd en hlen rel inCall
    apply wpAny_mono (term.nox.run [] s2 (start N vs) H _ inv read)
    · intro fl s3 hs
      cases fl with
      | ret u =>
        obtain ⟨v, σ', H', J, rv, q⟩ := hs
        exact ⟨v, H', J.os, J.bare, J.base, J.hok, rv, q⟩
      | next =>
        obtain ⟨σ', H', J, q⟩ := hs
        exact ⟨V.non, H', J.os, J.bare, J.base, J.hok, rfl, q⟩
      | brk => obtain ⟨_, _, _, z⟩ := hs; exact z.elim
      | cont => obtain ⟨_, _, _, z⟩ := hs; exact z.elim
    · intro e s3 hs
      exact hs
where
  e_kin {A : Around} {outer : List Env} {s : Shared} {H : Hp} (en : Env0 P w K mg base A outer s H) : K.In s.heap := en.mod.kin.keeps (fun b o z => (en.bs b o z).1)
  e_lim {A : Around} {outer : List Env} {s : Shared} {H : Hp} (en : Env0 P w K mg base A outer s H) : s.heap.NoLimit := en.mod.nolimit.keeps (fun b o z => (en.bs b o z).1)
end
end Fv
namespace Fv
open PySem PySem.Spec PyProof.Rows L2
/-- the ground beneath a law's call: what the top left, the script apart -/
theorem law_top {P : Program} {w : World} {K : PySem.W.Frag} {mg mb : Str → Option Value} {fa a : Addr} {s1 : Shared} {us : List Value} {ns : List Int}
    (kin : K.In s1.heap) (gl : s1.heap.Ns mainGlobals mg) (bl : s1.heap.Ns builtinsNs mb) (bm : ∀ x : Str, x ≠ "__name__" → mb x = bootBuiltins x) (nolim : s1.heap.NoLimit) (nogen : s1.gens = #[])
    (obj : s1.heap.get? a = some { cls := .type "list", data := .seq us.toArray }) (hints : IntsAre us ns) (few : ns.length ≤ sizeLine)
    (run : ∀ (base : Heap) (H : Hp), K.In base → base.Ns mainGlobals mg → Only H → SqL K H a (ns.map V.int) → Env0 P w K mg base callerA [] s1 H →
      codeAny (model P w) callerA (.call (.ref fa) ⟨[.ref a], []⟩) (CR CX0 [] P w H s1 (fun v _ => v = .bl true) E0) s1) :
    codeAny (model P w) callerA (.call (.ref fa) ⟨[.ref a], []⟩) (fun r s' => r = .ok (.ret (.bool true)) ∧ OldK s1.heap s'.heap ∧ s'.os = s1.os ∧ AllBare s'.gens) s1 := by
  have rel := vals_ints hints
  have size := hints.length
  -- whatever H tracks: the script at most
  suffices go : ∀ H : Hp, Only H → SqL K H a (ns.map V.int) → HOk P w H s1.heap → (∀ b, H b ≠ none → b = a ∧ K.lookup a = none) →
      codeAny (model P w) callerA (.call (.ref fa) ⟨[.ref a], []⟩) (fun r s' => r = .ok (.ret (.bool true)) ∧ OldK s1.heap s'.heap ∧ s'.os = s1.os ∧ AllBare s'.gens) s1 by
    cases look : K.lookup a with
    | some o =>
      have same := kin a o look
      rw [obj] at same
      cases same
      exact go (fun _ => none) (fun _ => Or.inl rfl) (Or.inr ⟨_, us.toArray, _, look, rfl, rfl, rfl, by rw [List.size_toArray, size]; exact few, by simpa using rel⟩) (fun b u z => nomatch (show (none : Option HO) = some u from z)) (fun b z => absurd rfl z)
    | none =>
      have atA : (fun b => if b = a then some (HO.frz { cls := .type "list", data := .seq us.toArray } (.lst (ns.map V.int))) else none : Hp) a = some (.frz { cls := .type "list", data := .seq us.toArray } (.lst (ns.map V.int))) := if_pos rfl
      refine go (fun b => if b = a then some (.frz { cls := .type "list", data := .seq us.toArray } (.lst (ns.map V.int))) else none) ?_ (Or.inl (Or.inr ⟨_, atA⟩)) ?_ ?_
      · intro b
        by_cases e : b = a
        · subst e; exact Or.inr ⟨_, _, atA⟩
        · exact Or.inl (if_neg e)
      · intro b u z
        by_cases e : b = a
        · subst e
          rw [atA] at z
          obtain rfl := (Option.some.inj z)
          exact ⟨obj, by rw [List.length_map]; exact few, us, _, rel, obj⟩
        · have z2 : (none : Option HO) = some u := (if_neg e).symm.trans z
          cases z2
      · intro b z
        by_cases e : b = a
        · exact ⟨e, look⟩
        · exact absurd (if_neg e) z
  intro H only script hok alone
  have plain : ∀ {b : Addr} {o : Obj} {es : Array DictEntry} {ep : Nat}, s1.heap.get? b = some o → o.data = .dict es ep → H b = none := by
    intro b o es ep e d
    by_cases z : H b = none
    · exact z
    · obtain ⟨rfl, _⟩ := alone b z
      rw [obj] at e
      cases e
      cases (show Data.seq us.toArray _ = Data.dict es ep from d)
  have spaces : ∀ {b : Addr} {m : Str → Option Value}, s1.heap.Ns b m → (hidT s1.heap H).Ns b m := by
    rintro b m ⟨o, es, ep, e, d, r⟩
    exact ⟨o, es, ep, hidT_get e (plain e d), d, r⟩
  have kbase : K.In (hidT s1.heap H) := by
    intro b o e
    refine hidT_get (kin b o e) ?_
    by_cases z : H b = none
    · exact z
    · obtain ⟨rfl, n⟩ := alone b z
      rw [n] at e; cases e
  obtain ⟨mc, c1, c2⟩ := nolim
  have mod : Mod K mg (hidT s1.heap H) := ⟨kbase, spaces gl, ⟨mb, spaces bl, bm⟩, ⟨mc, spaces c1, c2⟩⟩
  have en : Env0 P w K mg (hidT s1.heap H) callerA [] s1 H := ⟨rfl, mod, fun b o e => of_hidT e, Nat.le_of_eq (hidT_size _ _), trivial, fun b hb => absurd (show b ∈ ([] : List Addr) from hb) (by simp), hok, .of_eq nogen⟩
  apply codeAny_mono (run _ H kbase (spaces gl) only script en)
  intro r s' res
  cases r with
  | error e => exact (show False from res).elim
  | ok fl =>
    cases fl with
    | next => exact (show False from res).elim
    | brk => exact (show False from res).elim
    | cont => exact (show False from res).elim
    | ret u =>
      obtain ⟨v, H', os, bare, un, hok', rv, rfl⟩ := res
      obtain rfl : u = Value.bool true := rv
      refine ⟨rfl, OldK.of_keep ?_, os, bare⟩
      intro b o e
      by_cases z : H b = none
      · exact un.keep b o e z (fun y => absurd (show b ∈ ([] : List Addr) from y) (by simp)) (by simp)
      · rcases only b with y | ⟨ob, xs, y⟩
        · exact absurd y z
        · have e1 := (hok b _ y).1
          have e2 := (hok' b _ (un.frzs b ob _ y)).1
          rw [e1] at e
          cases e
          exact e2
end Fv

/-! ### the layer of data: what stands in the heap is spoken of by the data it stands for -/
namespace Fv
open PySem PySem.Spec PyProof.Rows L2
mutual
/-- read data, an empty dict among them -/
inductive Dq (K : PySem.W.Frag) (H : Hp) : V → PyData → Prop
  | non : Dq K H .non .none
  | bl (b : Bool) : Dq K H (.bl b) (.bool b)
  | int (i : Int) : Dq K H (.int i) (.int i)
  | str (x : Str) : Dq K H (.str x) (.str x)
  | lst {a : Addr} {xs : List V} {ds : List PyData} : SqL K H a xs → DqAll K H xs ds → Dq K H (.ref a) (.list ds)
  | tup {a : Addr} {xs : List V} {ds : List PyData} : SqT K H a xs → DqAll K H xs ds → Dq K H (.ref a) (.tuple ds)
  | dct {a : Addr} : H a = some (.dK []) → Dq K H (.ref a) (.dict [])
inductive DqAll (K : PySem.W.Frag) (H : Hp) : List V → List PyData → Prop
  | nil : DqAll K H [] []
  | cons {v : V} {vs : List V} {d : PyData} {ds : List PyData} : Dq K H v d → DqAll K H vs ds → DqAll K H (v :: vs) (d :: ds)
end
mutual
/-- data whose lists and tuples stand in the heap, an empty dict among them -/
inductive Tr (H : Hp) : V → PyData → Prop
  | non : Tr H .non .none
  | bl (b : Bool) : Tr H (.bl b) (.bool b)
  | int (i : Int) : Tr H (.int i) (.int i)
  | str (x : Str) : Tr H (.str x) (.str x)
  | lst {a : Addr} {xs : List V} {ds : List PyData} : H a = some (.lst xs) → TrAll H xs ds → Tr H (.ref a) (.list ds)
  | tup {a : Addr} {xs : List V} {ds : List PyData} : H a = some (.tup xs) → TrAll H xs ds → Tr H (.ref a) (.tuple ds)
  | dct {a : Addr} : H a = some (.dK []) → Tr H (.ref a) (.dict [])
inductive TrAll (H : Hp) : List V → List PyData → Prop
  | nil : TrAll H [] []
  | cons {v : V} {vs : List V} {d : PyData} {ds : List PyData} : Tr H v d → TrAll H vs ds → TrAll H (v :: vs) (d :: ds)
end
mutual
/-- data that may hold objects: an instance of the class at C is told as a dict, its first key None, its class's number; then its attributes -/
inductive Dw (K : PySem.W.Frag) (H : Hp) : V → PyData → Prop
  | non : Dw K H .non .none
  | bl (b : Bool) : Dw K H (.bl b) (.bool b)
  | int (i : Int) : Dw K H (.int i) (.int i)
  | str (x : Str) : Dw K H (.str x) (.str x)
  | lst {a : Addr} {xs : List V} {ds : List PyData} : SqL K H a xs → DwAll K H xs ds → Dw K H (.ref a) (.list ds)
  | tup {a : Addr} {xs : List V} {ds : List PyData} : SqT K H a xs → DwAll K H xs ds → Dw K H (.ref a) (.tuple ds)
  | dct {a : Addr} : H a = some (.dK []) → Dw K H (.ref a) (.dict [])
  | ins {a C dx : Addr} {fs : List (Str × V)} {ds : List (PyData × PyData)} : H a = some (.ins C dx fs) → DwFs K H fs ds → Dw K H (.ref a) (.dict ((.none, .int (C : Int)) :: ds))
inductive DwAll (K : PySem.W.Frag) (H : Hp) : List V → List PyData → Prop
  | nil : DwAll K H [] []
  | cons {v : V} {vs : List V} {d : PyData} {ds : List PyData} : Dw K H v d → DwAll K H vs ds → DwAll K H (v :: vs) (d :: ds)
inductive DwFs (K : PySem.W.Frag) (H : Hp) : List (Str × V) → List (PyData × PyData) → Prop
  | nil : DwFs K H [] []
  | cons {n : Str} {v : V} {fs : List (Str × V)} {d : PyData} {ds : List (PyData × PyData)} : Dw K H v d → DwFs K H fs ds → DwFs K H ((n, v) :: fs) ((.str n, d) :: ds)
end
section
variable {K : PySem.W.Frag} {H H' : Hp}
mutual
theorem Dw.mono (e : Same H H') : ∀ {v : V} {d : PyData}, Dw K H v d → Dw K H' v d
  | _, _, .non => .non
  | _, _, .bl b => .bl b
  | _, _, .int i => .int i
  | _, _, .str x => .str x
  | _, _, .lst h r => .lst (e.seq h) (DwAll.mono e r)
  | _, _, .tup h r => .tup (sqt_same e h) (DwAll.mono e r)
  | _, _, .dct h => .dct (e _ _ h)
  | _, _, .ins h r => .ins (e _ _ h) (DwFs.mono e r)
theorem DwAll.mono (e : Same H H') : ∀ {vs : List V} {ds : List PyData}, DwAll K H vs ds → DwAll K H' vs ds
  | _, _, .nil => .nil
  | _, _, .cons h r => .cons (Dw.mono e h) (DwAll.mono e r)
theorem DwFs.mono (e : Same H H') : ∀ {vs : List (Str × V)} {ds : List (PyData × PyData)}, DwFs K H vs ds → DwFs K H' vs ds
  | _, _, .nil => .nil
  | _, _, .cons h r => .cons (Dw.mono e h) (DwFs.mono e r)
end
mutual
theorem Dq.dw : ∀ {v : V} {d : PyData}, Dq K H v d → Dw K H v d
  | _, _, .non => .non
  | _, _, .bl b => .bl b
  | _, _, .int i => .int i
  | _, _, .str x => .str x
  | _, _, .lst h r => .lst h (DqAll.dw r)
  | _, _, .tup h r => .tup h (DqAll.dw r)
  | _, _, .dct h => .dct h
theorem DqAll.dw : ∀ {vs : List V} {ds : List PyData}, DqAll K H vs ds → DwAll K H vs ds
  | _, _, .nil => .nil
  | _, _, .cons h r => .cons (Dq.dw h) (DqAll.dw r)
end
mutual
theorem Dq.mono (e : Same H H') : ∀ {v : V} {d : PyData}, Dq K H v d → Dq K H' v d
  | _, _, .non => .non
  | _, _, .bl b => .bl b
  | _, _, .int i => .int i
  | _, _, .str x => .str x
  | _, _, .lst h r => .lst (e.seq h) (DqAll.mono e r)
  | _, _, .tup h r => .tup (sqt_same e h) (DqAll.mono e r)
  | _, _, .dct h => .dct (e _ _ h)
theorem DqAll.mono (e : Same H H') : ∀ {vs : List V} {ds : List PyData}, DqAll K H vs ds → DqAll K H' vs ds
  | _, _, .nil => .nil
  | _, _, .cons h r => .cons (Dq.mono e h) (DqAll.mono e r)
end
mutual
theorem Tr.mono (e : Same H H') : ∀ {v : V} {d : PyData}, Tr H v d → Tr H' v d
  | _, _, .non => .non
  | _, _, .bl b => .bl b
  | _, _, .int i => .int i
  | _, _, .str x => .str x
  | _, _, .lst h r => .lst (e _ _ h) (TrAll.mono e r)
  | _, _, .tup h r => .tup (e _ _ h) (TrAll.mono e r)
  | _, _, .dct h => .dct (e _ _ h)
theorem TrAll.mono (e : Same H H') : ∀ {vs : List V} {ds : List PyData}, TrAll H vs ds → TrAll H' vs ds
  | _, _, .nil => .nil
  | _, _, .cons h r => .cons (Tr.mono e h) (TrAll.mono e r)
end
mutual
theorem Tr.dq (K : PySem.W.Frag) : ∀ {v : V} {d : PyData}, Tr H v d → Dq K H v d
  | _, _, .non => .non
  | _, _, .bl b => .bl b
  | _, _, .int i => .int i
  | _, _, .str x => .str x
  | _, _, .lst h r => .lst (SqL.of h) (TrAll.dq K r)
  | _, _, .tup h r => .tup (SqT.of h) (TrAll.dq K r)
  | _, _, .dct h => .dct h
theorem TrAll.dq (K : PySem.W.Frag) : ∀ {vs : List V} {ds : List PyData}, TrAll H vs ds → DqAll K H vs ds
  | _, _, .nil => .nil
  | _, _, .cons h r => .cons (Tr.dq K h) (TrAll.dq K r)
end
mutual
theorem Dp.dq : ∀ {v : V} {d : PyData}, Dp K H v d → Dq K H v d
  | _, _, .non => .non
  | _, _, .bl b => .bl b
  | _, _, .int i => .int i
  | _, _, .str x => .str x
  | _, _, .lst h r => .lst h (DpAll.dq r)
  | _, _, .tup h r => .tup h (DpAll.dq r)
theorem DpAll.dq : ∀ {vs : List V} {ds : List PyData}, DpAll K H vs ds → DqAll K H vs ds
  | _, _, .nil => .nil
  | _, _, .cons h r => .cons (Dp.dq h) (DpAll.dq r)
end
mutual
theorem Tp.tr : ∀ {v : V} {d : PyData}, Tp H v d → Tr H v d
  | _, _, .non => .non
  | _, _, .bl b => .bl b
  | _, _, .int i => .int i
  | _, _, .str x => .str x
  | _, _, .lst h r => .lst h (TpAll.tr r)
  | _, _, .tup h r => .tup h (TpAll.tr r)
theorem TpAll.tr : ∀ {vs : List V} {ds : List PyData}, TpAll H vs ds → TrAll H vs ds
  | _, _, .nil => .nil
  | _, _, .cons h r => .cons (Tp.tr h) (TpAll.tr r)
end
mutual
theorem Dq.dp : ∀ {v : V} {d : PyData}, Dq K H v d → d.hasDict = false → Dp K H v d
  | _, _, .non, _ => .non
  | _, _, .bl b, _ => .bl b
  | _, _, .int i, _ => .int i
  | _, _, .str x, _ => .str x
  | _, _, .lst h r, z => .lst h (DqAll.dp r z)
  | _, _, .tup h r, z => .tup h (DqAll.dp r z)
  | _, _, .dct h, z => by simp [PyData.hasDict] at z
theorem DqAll.dp : ∀ {vs : List V} {ds : List PyData}, DqAll K H vs ds → PyData.hasDictAll ds = false → DpAll K H vs ds
  | _, _, .nil, _ => .nil
  | _, _, .cons h r, z => by
    have z1 : (PyData.hasDict _ || PyData.hasDictAll _) = false := z
    rw [Bool.or_eq_false_iff] at z1
    exact .cons (Dq.dp h z1.1) (DqAll.dp r z1.2)
end
mutual
theorem Tr.tp : ∀ {v : V} {d : PyData}, Tr H v d → d.hasDict = false → Tp H v d
  | _, _, .non, _ => .non
  | _, _, .bl b, _ => .bl b
  | _, _, .int i, _ => .int i
  | _, _, .str x, _ => .str x
  | _, _, .lst h r, z => .lst h (TrAll.tp r z)
  | _, _, .tup h r, z => .tup h (TrAll.tp r z)
  | _, _, .dct h, z => by simp [PyData.hasDict] at z
theorem TrAll.tp : ∀ {vs : List V} {ds : List PyData}, TrAll H vs ds → PyData.hasDictAll ds = false → TpAll H vs ds
  | _, _, .nil, _ => .nil
  | _, _, .cons h r, z => by
    have z1 : (PyData.hasDict _ || PyData.hasDictAll _) = false := z
    rw [Bool.or_eq_false_iff] at z1
    exact .cons (Tr.tp h z1.1) (TrAll.tp r z1.2)
end
theorem Dq.inv_lst {v : V} {ds : List PyData} (h : Dq K H v (.list ds)) : ∃ a xs, v = .ref a ∧ SqL K H a xs ∧ DqAll K H xs ds := by
  cases h with | lst h r => exact ⟨_, _, rfl, h, r⟩
theorem Dq.inv_tup {v : V} {ds : List PyData} (h : Dq K H v (.tuple ds)) : ∃ a xs, v = .ref a ∧ SqT K H a xs ∧ DqAll K H xs ds := by
  cases h with | tup h r => exact ⟨_, _, rfl, h, r⟩
theorem Tr.inv_lst {v : V} {ds : List PyData} (h : Tr H v (.list ds)) : ∃ a xs, v = .ref a ∧ H a = some (.lst xs) ∧ TrAll H xs ds := by
  cases h with | lst h r => exact ⟨_, _, rfl, h, r⟩
theorem Tr.inv_tup {v : V} {ds : List PyData} (h : Tr H v (.tuple ds)) : ∃ a xs, v = .ref a ∧ H a = some (.tup xs) ∧ TrAll H xs ds := by
  cases h with | tup h r => exact ⟨_, _, rfl, h, r⟩
theorem Dw.inv_lst {v : V} {ds : List PyData} (h : Dw K H v (.list ds)) : ∃ a xs, v = .ref a ∧ SqL K H a xs ∧ DwAll K H xs ds := by
  cases h with | lst h r => exact ⟨_, _, rfl, h, r⟩
theorem Dw.inv_tup {v : V} {ds : List PyData} (h : Dw K H v (.tuple ds)) : ∃ a xs, v = .ref a ∧ SqT K H a xs ∧ DwAll K H xs ds := by
  cases h with | tup h r => exact ⟨_, _, rfl, h, r⟩
theorem Dw.inv_ins {v : V} {C : Int} {ds : List (PyData × PyData)} (h : Dw K H v (.dict ((.none, .int C) :: ds))) : ∃ (a dx D : Addr) (fs : List (Str × V)), v = .ref a ∧ C = (D : Int) ∧ H a = some (.ins D dx fs) ∧ DwFs K H fs ds := by
  cases h with | ins h r => exact ⟨_, _, _, _, rfl, rfl, h, r⟩
theorem DwAll.length : ∀ {vs : List V} {ds : List PyData}, DwAll K H vs ds → vs.length = ds.length
  | _, _, .nil => rfl
  | _, _, .cons _ r => congrArg (· + 1) (DwAll.length r)
theorem DwAll.app : ∀ {vs ws : List V} {ds es : List PyData}, DwAll K H vs ds → DwAll K H ws es → DwAll K H (vs ++ ws) (ds ++ es)
  | _, _, _, _, .nil, h => h
  | _, _, _, _, .cons h r, q => .cons h (DwAll.app r q)
theorem DwFs.look {f : Str} : ∀ {fs : List (Str × V)} {ds : List (PyData × PyData)}, DwFs K H fs ds → (∀ d, ds.find? (fun p => match p.1 with | .str n => f == n | _ => false) = some d → ∃ v, fs.lookup f = some v ∧ Dw K H v d.2) ∧ (ds.find? (fun p => match p.1 with | .str n => f == n | _ => false) = none → fs.lookup f = none)
  | _, _, .nil => ⟨fun d h => (by cases h), fun _ => rfl⟩
  | _, _, .cons (n := n) (v := v) (fs := fs) (d := d) (ds := ds) h r => by
    obtain ⟨i1, i2⟩ := DwFs.look (f := f) r
    refine ⟨fun d' hd => ?_, fun hd => ?_⟩
    · rw [List.find?_cons] at hd
      rw [List.lookup_cons]
      cases e : (f == n) with
      | true => rw [show (match (PyData.str n, d).1 with | .str n => f == n | _ => false) = (f == n) from rfl, e] at hd; obtain rfl := Option.some.inj hd; exact ⟨v, rfl, h⟩
      | false => rw [show (match (PyData.str n, d).1 with | .str n => f == n | _ => false) = (f == n) from rfl, e] at hd; exact i1 d' hd
    · rw [List.find?_cons] at hd
      rw [List.lookup_cons]
      cases e : (f == n) with
      | true => rw [show (match (PyData.str n, d).1 with | .str n => f == n | _ => false) = (f == n) from rfl, e] at hd; cases hd
      | false => rw [show (match (PyData.str n, d).1 with | .str n => f == n | _ => false) = (f == n) from rfl, e] at hd; exact i2 hd
theorem DqAll.length : ∀ {vs : List V} {ds : List PyData}, DqAll K H vs ds → vs.length = ds.length
  | _, _, .nil => rfl
  | _, _, .cons _ r => congrArg (· + 1) (DqAll.length r)
theorem TrAll.length : ∀ {vs : List V} {ds : List PyData}, TrAll H vs ds → vs.length = ds.length
  | _, _, .nil => rfl
  | _, _, .cons _ r => congrArg (· + 1) (TrAll.length r)
theorem DqAll.of : ∀ {vs : List V} {ds : List PyData}, DqAll K H vs ds → ∀ {i : Nat} {d : PyData}, ds[i]? = some d → ∃ v, vs[i]? = some v ∧ Dq K H v d
  | _, _, .nil, _, _, h => by simp at h
  | _, _, .cons h r, 0, _, e => ⟨_, rfl, by have := Option.some.inj e; rw [← this]; exact h⟩
  | _, _, .cons _ r, i + 1, _, e => DqAll.of r (i := i) e
theorem TrAll.of : ∀ {vs : List V} {ds : List PyData}, TrAll H vs ds → ∀ {i : Nat} {d : PyData}, ds[i]? = some d → ∃ v, vs[i]? = some v ∧ Tr H v d
  | _, _, .nil, _, _, h => by simp at h
  | _, _, .cons h r, 0, _, e => ⟨_, rfl, by have := Option.some.inj e; rw [← this]; exact h⟩
  | _, _, .cons _ r, i + 1, _, e => TrAll.of r (i := i) e
theorem TrAll.app : ∀ {vs ws : List V} {ds es : List PyData}, TrAll H vs ds → TrAll H ws es → TrAll H (vs ++ ws) (ds ++ es)
  | _, _, _, _, .nil, h => h
  | _, _, _, _, .cons h r, q => .cons h (TrAll.app r q)
theorem DqAll.app : ∀ {vs ws : List V} {ds es : List PyData}, DqAll K H vs ds → DqAll K H ws es → DqAll K H (vs ++ ws) (ds ++ es)
  | _, _, _, _, .nil, h => h
  | _, _, _, _, .cons h r, q => .cons h (DqAll.app r q)
theorem TrAll.take : ∀ (n : Nat) {vs : List V} {ds : List PyData}, TrAll H vs ds → TrAll H (vs.take n) (ds.take n)
  | 0, _, _, _ => .nil
  | n + 1, _, _, .nil => .nil
  | n + 1, _, _, .cons h r => .cons h (TrAll.take n r)
theorem TrAll.drop : ∀ (n : Nat) {vs : List V} {ds : List PyData}, TrAll H vs ds → TrAll H (vs.drop n) (ds.drop n)
  | 0, _, _, h => h
  | n + 1, _, _, .nil => .nil
  | n + 1, _, _, .cons _ r => TrAll.drop n r
theorem DqAll.take : ∀ (n : Nat) {vs : List V} {ds : List PyData}, DqAll K H vs ds → DqAll K H (vs.take n) (ds.take n)
  | 0, _, _, _ => .nil
  | n + 1, _, _, .nil => .nil
  | n + 1, _, _, .cons h r => .cons h (DqAll.take n r)
theorem DqAll.drop : ∀ (n : Nat) {vs : List V} {ds : List PyData}, DqAll K H vs ds → DqAll K H (vs.drop n) (ds.drop n)
  | 0, _, _, h => h
  | n + 1, _, _, .nil => .nil
  | n + 1, _, _, .cons _ r => DqAll.drop n r
theorem TrAll.rev {vs : List V} {ds : List PyData} (h : TrAll H vs ds) : TrAll H vs.reverse ds.reverse := by
  induction h using TrAll.rec (motive_1 := fun _ _ _ => True) with
  | nil => exact .nil
  | cons h r _ ih => rw [List.reverse_cons, List.reverse_cons]; exact TrAll.app ih (.cons h .nil)
  | _ => trivial
theorem DqAll.rev {vs : List V} {ds : List PyData} (h : DqAll K H vs ds) : DqAll K H vs.reverse ds.reverse := by
  induction h using DqAll.rec (motive_1 := fun _ _ _ => True) with
  | nil => exact .nil
  | cons h r _ ih => rw [List.reverse_cons, List.reverse_cons]; exact DqAll.app ih (.cons h .nil)
  | _ => trivial
theorem DqAll.ints_inv : ∀ {vs : List V} {ns : List Int}, DqAll K H vs (ns.map PyData.int) → vs = ns.map V.int
  | _, [], h => by cases h; rfl
  | _, n :: r, h => by
    cases h with
    | cons h1 h2 => cases h1; rw [DqAll.ints_inv h2]; rfl
theorem DqAll.bools_inv : ∀ {vs : List V} {ns : List Bool}, DqAll K H vs (ns.map PyData.bool) → vs = ns.map V.bl
  | _, [], h => by cases h; rfl
  | _, n :: r, h => by
    cases h with
    | cons h1 h2 => cases h1; rw [DqAll.bools_inv h2]; rfl
theorem TrAll.ints : ∀ (ns : List Int), TrAll H (ns.map V.int) (ns.map PyData.int)
  | [] => .nil
  | n :: r => .cons (.int n) (TrAll.ints r)
theorem Dq.tyB {v : V} {d : PyData} (h : Dq K H v d) : TyB K H v (tyD d) := by
  cases h with
  | non => exact .non
  | bl b => exact .bl b
  | int i => exact .int i
  | str x => exact .str x
  | lst h _ => exact .lst h
  | tup h _ => exact .tup h
  | dct h => exact .dK h
end

/-- an exception's object that was caught and is kept -/
def ExH (D a : Addr) : HO := .ext fun h => ∃ (oe : Obj) (vs : Array Value), h.get? a = some oe ∧ Zc (.ref D) none oe ∧ oe.data = .fields vs
/-! ### abstract values, objects, states -/
inductive AV where
  /-- data; k: they stand in the heap as lists and tuples of its own -/
  | dat (k : Bool) (x : PyData)
  /-- an object that may change -/
  | ref (a : Addr)
  | ty (n : String)
  /-- data that may hold objects -/
  | ob (x : PyData)
/-- the code objects that a table tells, each of the name q -/
def TabP (A : Hp) (ps : Array Value) (q : Str) : Prop := TriplesOk ps.toList ∧ ∀ (pos : Pos) (cv : Value), codeAmong pos ps.toList = some cv → ∃ c, cv = .ref c ∧ A c = some (LamX.CodeO c q)
inductive OB where
  | lst (xs : List AV)
  | reel
  /-- an exception of the class at D that was caught and is kept, at a -/
  | exc (a D : Addr)
  /-- a dict of whole numbers -/
  | dic (kvs : List (Int × Int))
  /-- an instance of the class at C, its dict at dx, its attributes -/
  | ins (C dx : Addr) (fs : List (Str × AV))
  /-- a table of code objects, each of the name q -/
  | tab (q : Str)
  /-- a dict whose keys are whole numbers and texts -/
  | dct (kvs : List (L2.Key × AV))
  /-- a dict whose keys are tuples of such -/
  | dtt (kvs : List (List L2.Key × AV))
  /-- a dict of whole numbers that stays as it is, in the object o -/
  | fdc (o : Obj) (kvs : List (Int × Int))
abbrev MU := Addr → Option OB
abbrev Loc := List (Option AV)
/-- what is drawn from: what its object is -/
structure RK where
  ok : Hp → HO → Prop
  mono : ∀ {A A' : Hp} {o : HO}, Same A A' → ok A o → ok A' o
def updM (μ : MU) (a : Addr) (o : OB) : MU := fun b => if b = a then some o else μ b
def delM (μ : MU) (a : Addr) : MU := fun b => if b = a then none else μ b
theorem updM_same {μ : MU} {a : Addr} {o : OB} : updM μ a o a = some o := if_pos rfl
theorem updM_ne {μ : MU} {a b : Addr} {o : OB} (h : b ≠ a) : updM μ a o b = μ b := if_neg h
theorem delM_same {μ : MU} {a : Addr} : delM μ a a = none := if_pos rfl
theorem delM_ne {μ : MU} {a b : Addr} (h : b ≠ a) : delM μ a b = μ b := if_neg h
theorem updM_updM {μ : MU} {a : Addr} {o u : OB} : updM (updM μ a o) a u = updM μ a u := by
  funext b; unfold updM; split <;> rfl
theorem delM_updM {μ : MU} {a : Addr} {o : OB} (h : μ a = none) : delM (updM μ a o) a = μ := by
  funext b; unfold delM updM
  by_cases e : b = a
  · rw [if_pos e, e, h]
  · rw [if_neg e, if_neg e]
section
variable (K : PySem.W.Frag) (R : RK)
def RV (A : Hp) (v : V) : AV → Prop
  | .dat true x => Tr A v x
  | .dat false x => Dq K A v x
  | .ref a => v = .ref a
  | .ty n => v = .ty n
  | .ob x => Dw K A v x
inductive RVs (A : Hp) : List V → List AV → Prop
  | nil : RVs A [] []
  | cons {v : V} {vs : List V} {x : AV} {xs : List AV} : RV K A v x → RVs A vs xs → RVs A (v :: vs) (x :: xs)
inductive RFs (A : Hp) : List (Str × V) → List (Str × AV) → Prop
  | nil : RFs A [] []
  | cons {n : Str} {v : V} {vs : List (Str × V)} {x : AV} {xs : List (Str × AV)} : RV K A v x → RFs A vs xs → RFs A ((n, v) :: vs) ((n, x) :: xs)
inductive RKs {κ : Type} (A : Hp) : List (κ × V) → List (κ × AV) → Prop
  | nil : RKs A [] []
  | cons {n : κ} {v : V} {vs : List (κ × V)} {x : AV} {xs : List (κ × AV)} : RV K A v x → RKs A vs xs → RKs A ((n, v) :: vs) ((n, x) :: xs)
def RO (A : Hp) (ho : HO) : OB → Prop
  | .dct kvs => ∃ vs : List (L2.Key × V), ho = .dK vs ∧ RKs K A vs kvs
  | .dtt kvs => ∃ vs : List (List L2.Key × V), ho = .dT vs ∧ RKs K A vs kvs
  | .ins C dx fs => ∃ vs, ho = .ins C dx vs ∧ RFs K A vs fs
  | .exc a D => ho = ExH D a
  | .tab q => ∃ ps, ho = .tbl ps ∧ TabP A ps q
  | .dic kvs => ho = .dK (kvs.map fun p => (Sum.inl p.1, V.int p.2))
  | .lst xs => ∃ vs, ho = .lst vs ∧ RVs K A vs xs
  | .fdc o kvs => ho = .frz o (.dK (kvs.map fun p => (Sum.inl p.1, V.int p.2)))
  | .reel => R.ok A ho
structure WW (A H : Hp) (μ : MU) : Prop where
  sub : Same A H
  obs : ∀ a o, μ a = some o → A a = none ∧ ∃ ho, H a = some ho ∧ RO K R A ho o
structure RL (A : Hp) (σ : L2.St) (l : Loc) : Prop where
  len : σ.length = l.length
  at' : ∀ (i : Nat) (av : AV), l[i]? = some (some av) → ∃ v, σ[i]? = some (some v) ∧ RV K A v av
structure Stp (A H : Hp) (μ : MU) (A' H' : Hp) (μ' : MU) : Prop where
  grow : Same A A'
  frame : ∀ a, H a ≠ none → μ a = none → H' a = H a
  live : ∀ a, H a ≠ none → H' a ≠ none
  new : ∀ a, A a = none → A' a ≠ none → H a = none ∨ μ a ≠ none
  only : ∀ a, μ' a ≠ none → H a ≠ none → μ a ≠ none
end
section
variable {K : PySem.W.Frag} {R : RK}
theorem RV.mono {A A' : Hp} (e : Same A A') {v : V} : ∀ {av : AV}, RV K A v av → RV K A' v av
  | .dat true _, h => Tr.mono e h
  | .dat false _, h => Dq.mono e h
  | .ref _, h => h
  | .ty _, h => h
  | .ob _, h => Dw.mono e h
theorem RVs.mono {A A' : Hp} (e : Same A A') : ∀ {vs : List V} {xs : List AV}, RVs K A vs xs → RVs K A' vs xs
  | _, _, .nil => .nil
  | _, _, .cons h r => .cons (RV.mono e h) (RVs.mono e r)
theorem RVs.length {A : Hp} : ∀ {vs : List V} {xs : List AV}, RVs K A vs xs → vs.length = xs.length
  | _, _, .nil => rfl
  | _, _, .cons _ r => congrArg (· + 1) (RVs.length r)
theorem RVs.app {A : Hp} : ∀ {vs ws : List V} {xs ys : List AV}, RVs K A vs xs → RVs K A ws ys → RVs K A (vs ++ ws) (xs ++ ys)
  | _, _, _, _, .nil, h => h
  | _, _, _, _, .cons h r, q => .cons h (RVs.app r q)
theorem RVs.of {A : Hp} : ∀ {vs : List V} {xs : List AV}, RVs K A vs xs → ∀ {i : Nat} {x : AV}, xs[i]? = some x → ∃ v, vs[i]? = some v ∧ RV K A v x
  | _, _, .nil, _, _, h => by simp at h
  | _, _, .cons h r, 0, _, e => ⟨_, rfl, by have := Option.some.inj e; rw [← this]; exact h⟩
  | _, _, .cons _ r, i + 1, _, e => RVs.of r (i := i) e
theorem RFs.mono {A A' : Hp} (e : Same A A') : ∀ {vs : List (Str × V)} {xs : List (Str × AV)}, RFs K A vs xs → RFs K A' vs xs
  | _, _, .nil => .nil
  | _, _, .cons h r => .cons (RV.mono e h) (RFs.mono e r)
theorem RKs.mono {κ : Type} {A A' : Hp} (e : Same A A') : ∀ {vs : List (κ × V)} {xs : List (κ × AV)}, RKs K A vs xs → RKs K A' vs xs
  | _, _, .nil => .nil
  | _, _, .cons h r => .cons (RV.mono e h) (RKs.mono e r)
theorem RO.mono {A A' : Hp} (e : Same A A') {ho : HO} : ∀ {o : OB}, RO K R A ho o → RO K R A' ho o
  | .dct _, ⟨vs, h1, h2⟩ => ⟨vs, h1, RKs.mono e h2⟩
  | .dtt _, ⟨vs, h1, h2⟩ => ⟨vs, h1, RKs.mono e h2⟩
  | .lst _, ⟨vs, h1, h2⟩ => ⟨vs, h1, RVs.mono e h2⟩
  | .reel, h => R.mono e h
  | .exc _ _, h => h
  | .tab _, ⟨ps, h1, h2, h3⟩ => ⟨ps, h1, h2, fun pos cv z => let ⟨c, e1, e2⟩ := h3 pos cv z; ⟨c, e1, e _ _ e2⟩⟩
  | .dic _, h => h
  | .fdc _ _, h => h
  | .ins _ _ _, ⟨vs, h1, h2⟩ => ⟨vs, h1, RFs.mono e h2⟩
theorem RL.mono {A A' : Hp} (e : Same A A') {σ : L2.St} {l : Loc} (h : RL K A σ l) : RL K A' σ l := ⟨h.len, fun i av q => by
  obtain ⟨v, h1, h2⟩ := h.at' i av q
  exact ⟨v, h1, RV.mono e h2⟩⟩
theorem Stp.refl {A H : Hp} {μ : MU} : Stp A H μ A H μ := ⟨Same.refl _, fun _ _ _ => rfl, fun _ h => h, fun _ h1 h2 => absurd h1 h2, fun _ h _ => h⟩
theorem Stp.trans {A H A1 H1 A2 H2 : Hp} {μ μ1 μ2 : MU} (a : Stp A H μ A1 H1 μ1) (b : Stp A1 H1 μ1 A2 H2 μ2) : Stp A H μ A2 H2 μ2 := by
  have q : ∀ p, H p ≠ none → μ p = none → μ1 p = none := fun p h1 h2 => by
    cases e : μ1 p with
    | none => rfl
    | some o => exact absurd h2 (a.only p (by rw [e]; simp) h1)
  refine ⟨a.grow.trans b.grow, fun p h1 h2 => ?_, fun p h => b.live p (a.live p h), fun p h1 h2 => ?_, fun p h1 h2 => a.only p (b.only p h1 (a.live p h2)) h2⟩
  · rw [b.frame p (a.live p h1) (q p h1 h2)]; exact a.frame p h1 h2
  · by_cases e : A1 p = none
    · rcases b.new p e h2 with h | h
      · refine .inl ?_
        cases z : H p with
        | none => rfl
        | some o => exact absurd h (a.live p (by rw [z]; simp))
      · by_cases z : H p = none
        · exact .inl z
        · exact .inr (a.only p h z)
    · exact a.new p h1 e
/-- fewer objects are spoken of -/
theorem WW.less {A H : Hp} {μ μ' : MU} (W : WW K R A H μ) (h : ∀ a o, μ' a = some o → μ a = some o) : WW K R A H μ' := ⟨W.sub, fun a o e => W.obs a o (h a o e)⟩
theorem Stp.less {A H A' H' : Hp} {μ μ1 μ2 : MU} (s : Stp A H μ A' H' μ1) (h : ∀ a o, μ2 a = some o → μ1 a = some o) : Stp A H μ A' H' μ2 :=
  ⟨s.grow, s.frame, s.live, s.new, fun a h1 h2 => by
    cases e : μ2 a with
    | none => exact absurd e h1
    | some o => exact s.only a (by rw [h a o e]; simp) h2⟩
theorem WW.live {A H : Hp} {μ : MU} (W : WW K R A H μ) {a : Addr} (h : μ a ≠ none) : H a ≠ none := by
  cases e : μ a with
  | none => exact absurd e h
  | some o =>
    obtain ⟨_, ho, h1, _⟩ := W.obs a o e
    rw [h1]; simp
theorem WW.free {A H : Hp} {μ : MU} (W : WW K R A H μ) {p : Addr} (h : H p = none) : μ p = none ∧ A p = none := by
  refine ⟨?_, W.sub.free h⟩
  cases e : μ p with
  | none => rfl
  | some o => exact absurd h (W.live (by rw [e]; simp))
/-- steps that change nothing of what is spoken of -/
theorem WW.ext {A H A' H' : Hp} {μ : MU} (W : WW K R A H μ) (e : Ext A H A' H') : WW K R A' H' μ ∧ Stp A H μ A' H' μ := by
  refine ⟨⟨e.sub, fun a o h => ?_⟩, ⟨e.grow, fun a h1 _ => ?_, fun a h => ?_, fun a h1 h2 => .inl (e.new a h1 h2), fun a h _ => h⟩⟩
  · obtain ⟨h1, ho, h2, h3⟩ := W.obs a o h
    exact ⟨e.out (by rw [h2]; simp) h1, ho, e.same a _ h2, RO.mono e.grow h3⟩
  · cases z : H a with
    | none => exact absurd z h1
    | some o => rw [e.same a _ z]
  · cases z : H a with
    | none => exact absurd z h
    | some o => rw [e.same a _ z]; simp
theorem WW.extS {A H H' : Hp} {μ : MU} (W : WW K R A H μ) (e : Same H H') : WW K R A H' μ ∧ Stp A H μ A H' μ := W.ext (Ext.of W.sub e)
/-- a new object that never changes -/
theorem WW.alloc {A H : Hp} {μ : MU} (W : WW K R A H μ) {p : Addr} (o : HO) (h : H p = none) : WW K R (upd A p o) (upd H p o) μ ∧ Stp A H μ (upd A p o) (upd H p o) μ := W.ext ((Ext.refl W.sub).alloc o h)
/-- a new object that may change -/
theorem WW.own {A H : Hp} {μ : MU} (W : WW K R A H μ) {p : Addr} {ho : HO} {o : OB} (h : H p = none) (r : RO K R A ho o) : WW K R A (upd H p ho) (updM μ p o) ∧ Stp A H μ A (upd H p ho) (updM μ p o) := by
  have n := W.free h
  refine ⟨⟨fun b x e => by rw [upd_ne (ne_of_none e n.2)]; exact W.sub b x e, fun a u e => ?_⟩, ⟨Same.refl _, fun a h1 _ => ?_, fun a h1 => ?_, fun a h1 h2 => absurd h1 h2, fun a h1 h2 => ?_⟩⟩
  · by_cases z : a = p
    · subst z
      rw [updM_same] at e
      obtain rfl := Option.some.inj e
      exact ⟨n.2, ho, upd_same, r⟩
    · rw [updM_ne z] at e
      obtain ⟨h1, ho', h2, h3⟩ := W.obs a u e
      exact ⟨h1, ho', by rw [upd_ne z]; exact h2, h3⟩
  · rw [upd_ne (fun z => h1 (by rw [z]; exact h))]
  · rw [upd_ne (fun z => h1 (by rw [z]; exact h))]; exact h1
  · by_cases z : a = p
    · exact absurd (by rw [z]; exact h) h2
    · rw [updM_ne z] at h1; exact h1
/-- one that may change does -/
theorem WW.mut {A H : Hp} {μ : MU} (W : WW K R A H μ) {p : Addr} {o0 : OB} {ho : HO} {o : OB} (h : μ p = some o0) (r : RO K R A ho o) : WW K R A (upd H p ho) (updM μ p o) ∧ Stp A H μ A (upd H p ho) (updM μ p o) := by
  obtain ⟨n, h0, e0, _⟩ := W.obs p o0 h
  refine ⟨⟨fun b x e => by rw [upd_ne (ne_of_none e n)]; exact W.sub b x e, fun a u e => ?_⟩, ⟨Same.refl _, fun a h1 h2 => ?_, fun a h1 => ?_, fun a h1 h2 => absurd h1 h2, fun a h1 h2 => ?_⟩⟩
  · by_cases z : a = p
    · subst z
      rw [updM_same] at e
      obtain rfl := Option.some.inj e
      exact ⟨n, ho, upd_same, r⟩
    · rw [updM_ne z] at e
      obtain ⟨h1, ho', h2, h3⟩ := W.obs a u e
      exact ⟨h1, ho', by rw [upd_ne z]; exact h2, h3⟩
  · rw [upd_ne (fun z => by rw [z, h] at h2; cases h2)]
  · by_cases z : a = p
    · rw [z, upd_same]; simp
    · rw [upd_ne z]; exact h1
  · by_cases z : a = p
    · rw [z, h]; simp
    · rw [updM_ne z] at h1; exact h1
/-- one that may change never does again -/
theorem WW.freeze {A H : Hp} {μ : MU} (W : WW K R A H μ) {p : Addr} {o0 : OB} {ho : HO} (h : μ p = some o0) (e : H p = some ho) : WW K R (upd A p ho) H (delM μ p) ∧ Stp A H μ (upd A p ho) H (delM μ p) := by
  obtain ⟨n, h0, e0, _⟩ := W.obs p o0 h
  have g : Same A (upd A p ho) := same_new n
  refine ⟨⟨fun b x q => ?_, fun a u q => ?_⟩, ⟨g, fun _ _ _ => rfl, fun _ h => h, fun a h1 h2 => ?_, fun a h1 _ => ?_⟩⟩
  · by_cases z : b = p
    · subst z; rw [upd_same] at q; rw [← q]; exact e
    · rw [upd_ne z] at q; exact W.sub b x q
  · by_cases z : a = p
    · subst z; rw [delM_same] at q; cases q
    · rw [delM_ne z] at q
      obtain ⟨h1, ho', h2, h3⟩ := W.obs a u q
      exact ⟨by rw [upd_ne z]; exact h1, ho', h2, RO.mono g h3⟩
  · by_cases z : a = p
    · exact .inr (by rw [z, h]; simp)
    · rw [upd_ne z] at h2; exact absurd h1 h2
  · by_cases z : a = p
    · subst z; rw [delM_same] at h1; exact absurd rfl h1
    · rw [delM_ne z] at h1; exact h1
end
end Fv

/-! ### the layer of data: what expressions, tests and statements come to -/
namespace Fv
open PySem PySem.Spec PyProof.Rows L2
abbrev PQ := AV → MU → Prop
abbrev PXq := Value → MU → Prop
abbrev WE' := Loc → MU → PQ → PXq → Prop
abbrev WT' := Loc → MU → (Bool → MU → Prop) → PXq → Prop
abbrev WA' := Loc → MU → (List AV → MU → Prop) → PXq → Prop
abbrev WO' := Loc → MU → (Option Int → MU → Prop) → PXq → Prop
structure DEnds where
  nx : Loc → MU → Prop
  rt : PQ
  bk : Loc → MU → Prop
  ct : Loc → MU → Prop
  xc : Value → Loc → MU → Prop
abbrev WS' := DEnds → Loc → MU → Prop
abbrev WG' := AV → Loc → MU → (Loc → MU → Prop) → Prop
abbrev WGs' := List AV → Loc → MU → (Loc → MU → Prop) → Prop
section
variable (K : PySem.W.Frag) (R : RK) (Wc : WX)
/-- what may be raised is wanted -/
def Lk (A H : Hp) (μ : MU) (σ : L2.St) (X : PXq) : Prop := ∀ A' H' μ' c, Stp A H μ A' H' μ' → WW K R A' H' μ' → X c μ' → Wc c none σ H'
def LQ (A H : Hp) (μ : MU) (Qc : VK) (Q : PQ) : Prop := ∀ A' H' μ' v av, Stp A H μ A' H' μ' → WW K R A' H' μ' → RV K A' v av → Q av μ' → Qc v H'
def LB (A H : Hp) (μ : MU) (Qc : Bool → Hp → Prop) (Q : Bool → MU → Prop) : Prop := ∀ A' H' μ' b, Stp A H μ A' H' μ' → WW K R A' H' μ' → Q b μ' → Qc b H'
def LA (A H : Hp) (μ : MU) (Qc : List V → Hp → Prop) (Q : List AV → MU → Prop) : Prop := ∀ A' H' μ' vs avs, Stp A H μ A' H' μ' → WW K R A' H' μ' → RVs K A' vs avs → Q avs μ' → Qc vs H'
def LO (A H : Hp) (μ : MU) (Qc : Option Int → Hp → Prop) (Q : Option Int → MU → Prop) : Prop := ∀ A' H' μ' o, Stp A H μ A' H' μ' → WW K R A' H' μ' → Q o μ' → Qc o H'
def LS (A H : Hp) (μ : MU) (Qc : L2.St → Hp → Prop) (Q : Loc → MU → Prop) : Prop := ∀ A' H' μ' σ l, Stp A H μ A' H' μ' → WW K R A' H' μ' → σ.length = l.length → RL K A' σ l → Q l μ' → Qc σ H'
def LX (A H : Hp) (μ : MU) (D : DEnds) : Prop := ∀ A' H' μ' σ l c, Stp A H μ A' H' μ' → WW K R A' H' μ' → σ.length = l.length → RL K A' σ l → D.xc c l μ' → Wc c none σ H'
structure Cn (A H : Hp) (μ : MU) (Dc : Ends) (D : DEnds) : Prop where
  nx : LS K R A H μ Dc.nx D.nx
  bk : LS K R A H μ Dc.bk D.bk
  ct : LS K R A H μ Dc.ct D.ct
  rt : LQ K R A H μ Dc.rt D.rt
  xc : LX K R Wc A H μ D
structure DE (te : TE) (we : WE') : Prop where
  run : ∀ (A H : Hp) (μ : MU) (σ : L2.St) (l : Loc) (Qc : VK) (Q : PQ) (X : PXq), WW K R A H μ → RL K A σ l → LQ K R A H μ Qc Q → Lk K R Wc A H μ σ X → we l μ Q X → te σ H Qc
structure DT (tt : TT) (wt : WT') : Prop where
  run : ∀ (A H : Hp) (μ : MU) (σ : L2.St) (l : Loc) (Qc : Bool → Hp → Prop) (Q : Bool → MU → Prop) (X : PXq), WW K R A H μ → RL K A σ l → LB K R A H μ Qc Q → Lk K R Wc A H μ σ X → wt l μ Q X → tt σ H Qc
structure DA (ta : TA) (wa : WA') : Prop where
  run : ∀ (A H : Hp) (μ : MU) (σ : L2.St) (l : Loc) (Qc : List V → Hp → Prop) (Q : List AV → MU → Prop) (X : PXq), WW K R A H μ → RL K A σ l → LA K R A H μ Qc Q → Lk K R Wc A H μ σ X → wa l μ Q X → ta σ H Qc
structure DO (to : TO) (wo : WO') : Prop where
  run : ∀ (A H : Hp) (μ : MU) (σ : L2.St) (l : Loc) (Qc : Option Int → Hp → Prop) (Q : Option Int → MU → Prop) (X : PXq), WW K R A H μ → RL K A σ l → LO K R A H μ Qc Q → Lk K R Wc A H μ σ X → wo l μ Q X → to σ H Qc
structure DG (g : TG) (wg : WG') : Prop where
  run : ∀ (A H : Hp) (μ : MU) (σ : L2.St) (l : Loc) (v : V) (av : AV) (Qc : L2.St → Hp → Prop) (Q : Loc → MU → Prop), WW K R A H μ → σ.length = l.length → RL K A σ l → RV K A v av → LS K R A H μ Qc Q → wg av l μ Q → g v σ H Qc
structure DGs (g : TGs) (wg : WGs') : Prop where
  run : ∀ (A H : Hp) (μ : MU) (σ : L2.St) (l : Loc) (vs : List V) (avs : List AV) (Qc : L2.St → Hp → Prop) (Q : Loc → MU → Prop), WW K R A H μ → σ.length = l.length → RL K A σ l → RVs K A vs avs → LS K R A H μ Qc Q → wg avs l μ Q → g vs σ H Qc
structure DS (t : TS) (ws : WS') : Prop where
  run : ∀ (A H : Hp) (μ : MU) (σ : L2.St) (l : Loc) (Dc : Ends) (D : DEnds), WW K R A H μ → σ.length = l.length → RL K A σ l → Cn K R Wc A H μ Dc D → ws D l μ → t Dc σ H
def OpD (r : R2) (rd : AV → AV → MU → PQ → Prop) : Prop := ∀ (A H : Hp) (μ : MU) (x y : V) (ax ay : AV) (Qc : VK) (Q : PQ), WW K R A H μ → RV K A x ax → RV K A y ay → LQ K R A H μ Qc Q → rd ax ay μ Q → r x y H Qc
def UnD (r : V → Hp → VK → Prop) (rd : AV → MU → PQ → Prop) : Prop := ∀ (A H : Hp) (μ : MU) (x : V) (ax : AV) (Qc : VK) (Q : PQ), WW K R A H μ → RV K A x ax → LQ K R A H μ Qc Q → rd ax μ Q → r x H Qc
def CallD (r : List V → Hp → VK → Prop) (rd : List AV → MU → PQ → Prop) : Prop := ∀ (A H : Hp) (μ : MU) (xs : List V) (axs : List AV) (Qc : VK) (Q : PQ), WW K R A H μ → RVs K A xs axs → LQ K R A H μ Qc Q → rd axs μ Q → r xs H Qc
end
section
variable {K : PySem.W.Frag} {R : RK} {Wc : WX} {A H A1 H1 : Hp} {μ μ1 : MU} {σ : L2.St}
theorem Lk.go {X : PXq} (k : Lk K R Wc A H μ σ X) (s : Stp A H μ A1 H1 μ1) : Lk K R Wc A1 H1 μ1 σ X := fun A' H' μ' c s' W x => k A' H' μ' c (s.trans s') W x
theorem LQ.go {Qc : VK} {Q : PQ} (k : LQ K R A H μ Qc Q) (s : Stp A H μ A1 H1 μ1) : LQ K R A1 H1 μ1 Qc Q := fun A' H' μ' v av s' W r q => k A' H' μ' v av (s.trans s') W r q
theorem LB.go {Qc : Bool → Hp → Prop} {Q : Bool → MU → Prop} (k : LB K R A H μ Qc Q) (s : Stp A H μ A1 H1 μ1) : LB K R A1 H1 μ1 Qc Q := fun A' H' μ' b s' W q => k A' H' μ' b (s.trans s') W q
theorem LA.go {Qc : List V → Hp → Prop} {Q : List AV → MU → Prop} (k : LA K R A H μ Qc Q) (s : Stp A H μ A1 H1 μ1) : LA K R A1 H1 μ1 Qc Q := fun A' H' μ' v av s' W r q => k A' H' μ' v av (s.trans s') W r q
theorem LO.go {Qc : Option Int → Hp → Prop} {Q : Option Int → MU → Prop} (k : LO K R A H μ Qc Q) (s : Stp A H μ A1 H1 μ1) : LO K R A1 H1 μ1 Qc Q := fun A' H' μ' b s' W q => k A' H' μ' b (s.trans s') W q
theorem LS.go {Qc : L2.St → Hp → Prop} {Q : Loc → MU → Prop} (k : LS K R A H μ Qc Q) (s : Stp A H μ A1 H1 μ1) : LS K R A1 H1 μ1 Qc Q := fun A' H' μ' σ l s' W e r q => k A' H' μ' σ l (s.trans s') W e r q
theorem LX.go {D : DEnds} (k : LX K R Wc A H μ D) (s : Stp A H μ A1 H1 μ1) : LX K R Wc A1 H1 μ1 D := fun A' H' μ' σ l c s' W e r q => k A' H' μ' σ l c (s.trans s') W e r q
theorem Cn.go {Dc : Ends} {D : DEnds} (k : Cn K R Wc A H μ Dc D) (s : Stp A H μ A1 H1 μ1) : Cn K R Wc A1 H1 μ1 Dc D := ⟨k.nx.go s, k.bk.go s, k.ct.go s, k.rt.go s, k.xc.go s⟩
theorem LX.lk {D : DEnds} (k : LX K R Wc A H μ D) {l : Loc} (e : σ.length = l.length) (r : RL K A σ l) : Lk K R Wc A H μ σ (fun c μ' => D.xc c l μ') := fun A' H' μ' c s W x => k A' H' μ' σ l c s W e (r.mono s.grow) x
theorem LQ.at {Qc : VK} {Q : PQ} (k : LQ K R A H μ Qc Q) (W : WW K R A H μ) {v : V} {av : AV} (r : RV K A v av) (q : Q av μ) : Qc v H := k A H μ v av Stp.refl W r q

theorem LQ.i {Qc : VK} {Q : PQ} (k : LQ K R A H μ Qc Q) (W : WW K R A H μ) {i : Int} (q : Q (.dat true (.int i)) μ) : Qc (.int i) H := k.at W (av := .dat true (.int i)) (Tr.int i) q
theorem LQ.b {Qc : VK} {Q : PQ} (k : LQ K R A H μ Qc Q) (W : WW K R A H μ) {i : Bool} (q : Q (.dat true (.bool i)) μ) : Qc (.bl i) H := k.at W (av := .dat true (.bool i)) (Tr.bl i) q
theorem LQ.s {Qc : VK} {Q : PQ} (k : LQ K R A H μ Qc Q) (W : WW K R A H μ) {i : Str} (q : Q (.dat true (.str i)) μ) : Qc (.str i) H := k.at W (av := .dat true (.str i)) (Tr.str i) q
theorem LQ.n {Qc : VK} {Q : PQ} (k : LQ K R A H μ Qc Q) (W : WW K R A H μ) (q : Q (.dat true .none) μ) : Qc .non H := k.at W (av := .dat true .none) Tr.non q
/-! ### what an abstract value is -/
def isI : AV → Int → Prop | .dat _ (.int i), j => i = j | _, _ => False
def isB : AV → Bool → Prop | .dat _ (.bool i), j => i = j | _, _ => False
def isS : AV → Str → Prop | .dat _ (.str i), j => i = j | _, _ => False
/-- the data that it stands for -/
def isD (μ : MU) : AV → PyData → Prop
  | .dat _ x, y => x = y
  | .ref a, y => ∃ ds : List PyData, μ a = some (.lst (ds.map (AV.dat true))) ∧ y = .list ds
  | .ty _, _ => False
  | .ob _, _ => False
/-- what stands within data that may hold objects -/
def avB : PyData → AV | .none => .dat true .none | .bool b => .dat true (.bool b) | .int i => .dat true (.int i) | .str x => .dat true (.str x) | x => .ob x
/-- the items of a list -/
def isL (μ : MU) : AV → List AV → Prop
  | .dat k (.list ds), xs => ds.map (AV.dat k) = xs
  | .ref a, xs => μ a = some (.lst xs)
  | .ob (.list ds), xs => ds.map avB = xs
  | _, _ => False
def isT : AV → List AV → Prop
  | .dat k (.tuple ds), xs => ds.map (AV.dat k) = xs
  | .ob (.tuple ds), xs => ds.map avB = xs
  | _, _ => False
/-- it is told of no object -/
def AV.nob : AV → Bool | .ob _ => false | _ => true
def AV.fr : AV → Bool | .dat k _ => k | _ => false
def datOf : AV → Option PyData | .dat _ x => some x | _ => none
def dats : List AV → Option (List PyData)
  | [] => some []
  | x :: r => match datOf x, dats r with
    | some d, some ds => some (d :: ds)
    | _, _ => none
def newF (xs : List AV) (μ : MU) (Q : PQ) : Prop := ∃ ds, dats xs = some ds ∧ Q (.dat (xs.all AV.fr) (.list ds)) μ
def newT (xs : List AV) (μ : MU) (Q : PQ) : Prop := ∃ ds, dats xs = some ds ∧ Q (.dat (xs.all AV.fr) (.tuple ds)) μ
def newO (xs : List AV) (μ : MU) (Q : PQ) : Prop := ∀ a, μ a = none → Q (.ref a) (updM μ a (.lst xs))
/-- a new list: one that may change (true), or one that doesn't -/
def newL : Bool → List AV → MU → PQ → Prop | true => newO | false => newF
theorem dats_map {k : Bool} : ∀ ds : List PyData, dats (ds.map (AV.dat k)) = some ds
  | [] => rfl
  | d :: r => by
    show (match datOf (AV.dat k d), dats (r.map (AV.dat k)) with | some d, some ds => some (d :: ds) | _, _ => none) = _
    rw [dats_map r]; rfl
theorem all_fr {k : Bool} : ∀ ds : List PyData, ds ≠ [] → (ds.map (AV.dat k)).all AV.fr = k
  | [d], _ => by cases k <;> rfl
  | d :: e :: r, _ => by
    have h := all_fr (k := k) (e :: r) (by simp)
    show (k && ((e :: r).map (AV.dat k)).all AV.fr) = k
    rw [h]; cases k <;> rfl
theorem all_frT : ∀ ds : List PyData, (ds.map (AV.dat true)).all AV.fr = true
  | [] => rfl
  | d :: r => by
    show (true && (r.map (AV.dat true)).all AV.fr) = true
    rw [all_frT r]; rfl
theorem RV.i {v : V} {av : AV} {i : Int} (r : RV K A v av) (h : isI av i) : v = .int i := by
  cases av with
  | dat k x =>
    cases x with
    | int j => cases (show j = i from h); cases k <;> cases r <;> rfl
    | _ => exact h.elim
  | _ => exact h.elim
theorem RV.b {v : V} {av : AV} {i : Bool} (r : RV K A v av) (h : isB av i) : v = .bl i := by
  cases av with
  | dat k x =>
    cases x with
    | bool j => cases (show j = i from h); cases k <;> cases r <;> rfl
    | _ => exact h.elim
  | _ => exact h.elim
theorem RV.s {v : V} {av : AV} {i : Str} (r : RV K A v av) (h : isS av i) : v = .str i := by
  cases av with
  | dat k x =>
    cases x with
    | str j => cases (show j = i from h); cases k <;> cases r <;> rfl
    | _ => exact h.elim
  | _ => exact h.elim
theorem RV.dq {v : V} {k : Bool} {x : PyData} (r : RV K A v (.dat k x)) : Dq K A v x := by
  cases k with
  | true => exact Tr.dq K r
  | false => exact r
theorem RV.weak {v : V} {k j : Bool} {x : PyData} (r : RV K A v (.dat k x)) (h : j = true → k = true) : RV K A v (.dat j x) := by
  cases j with
  | true => rw [h rfl] at r; exact r
  | false => exact r.dq
theorem RVs.dq : ∀ {vs : List V} {xs : List AV} {ds : List PyData}, RVs K A vs xs → dats xs = some ds → DqAll K A vs ds
  | _, _, ds, .nil, e => by cases (show some [] = some ds from e); exact .nil
  | _, _, ds, .cons (x := x) (xs := xs) h r, e => by
    cases x with
    | dat k y =>
      cases z : dats xs with
      | none => simp [dats, datOf, z] at e
      | some es =>
        simp [dats, datOf, z] at e
        subst e
        exact .cons h.dq (RVs.dq r z)
    | _ => simp [dats, datOf] at e
theorem RVs.tr : ∀ {vs : List V} {xs : List AV} {ds : List PyData}, RVs K A vs xs → dats xs = some ds → xs.all AV.fr = true → TrAll A vs ds
  | _, _, ds, .nil, e, _ => by cases (show some [] = some ds from e); exact .nil
  | _, _, ds, .cons (x := x) (xs := xs) h r, e, f => by
    have f' : (AV.fr x && xs.all AV.fr) = true := f
    rw [Bool.and_eq_true] at f'
    cases x with
    | dat k y =>
      cases z : dats xs with
      | none => simp [dats, datOf, z] at e
      | some es =>
        simp [dats, datOf, z] at e
        subst e
        obtain rfl : k = true := f'.1
        exact .cons h (RVs.tr r z f'.2)
    | _ => simp [dats, datOf] at e
theorem RVs.of_tr : ∀ {vs : List V} {ds : List PyData}, TrAll A vs ds → RVs K A vs (ds.map (AV.dat true))
  | _, _, .nil => .nil
  | _, _, .cons h r => .cons h (RVs.of_tr r)
theorem RV.of_dw {A : Hp} {v : V} {d : PyData} (h : Dw K A v d) : RV K A v (avB d) := by
  cases h with
  | non => exact Tr.non
  | bl b => exact Tr.bl b
  | int i => exact Tr.int i
  | str x => exact Tr.str x
  | lst h r => exact Dw.lst h r
  | tup h r => exact Dw.tup h r
  | dct h => exact Dw.dct h
  | ins h r => exact Dw.ins h r
theorem RVs.of_dw : ∀ {vs : List V} {ds : List PyData}, DwAll K A vs ds → RVs K A vs (ds.map avB)
  | _, _, .nil => .nil
  | _, _, .cons h r => .cons (RV.of_dw h) (RVs.of_dw r)
theorem RVs.of_dq : ∀ {vs : List V} {ds : List PyData}, DqAll K A vs ds → RVs K A vs (ds.map (AV.dat false))
  | _, _, .nil => .nil
  | _, _, .cons h r => .cons h (RVs.of_dq r)
theorem newL_ok {m : Bool} {xs : List AV} {vs : List V} {Qc : VK} {Q : PQ} (W : WW K R A H μ) (k : LQ K R A H μ Qc Q) (r : RVs K A vs xs) {p : Addr} (hp : H p = none) (h : newL m xs μ Q) : Qc (.ref p) (upd H p (.lst vs)) := by
  cases m with
  | true =>
    obtain ⟨W1, s1⟩ := W.own (p := p) (ho := .lst vs) (o := .lst xs) hp ⟨vs, rfl, r⟩
    exact k _ _ _ _ (.ref p) s1 W1 rfl (h p (W.free hp).1)
  | false =>
    obtain ⟨ds, e, q⟩ := h
    obtain ⟨W1, s1⟩ := W.alloc (.lst vs) hp
    have g : Same A (upd A p (.lst vs)) := s1.grow
    cases z : xs.all AV.fr with
    | true => rw [z] at q; exact k _ _ _ _ (.dat true (.list ds)) s1 W1 (Tr.lst upd_same (TrAll.mono g (RVs.tr r e z))) q
    | false => rw [z] at q; exact k _ _ _ _ (.dat false (.list ds)) s1 W1 (Dq.lst (SqL.of upd_same) (DqAll.mono g (RVs.dq r e))) q
theorem newT_ok {xs : List AV} {vs : List V} {Qc : VK} {Q : PQ} (W : WW K R A H μ) (k : LQ K R A H μ Qc Q) (r : RVs K A vs xs) {p : Addr} (hp : H p = none) (h : newT xs μ Q) : Qc (.ref p) (upd H p (.tup vs)) := by
  obtain ⟨ds, e, q⟩ := h
  obtain ⟨W1, s1⟩ := W.alloc (.tup vs) hp
  have g : Same A (upd A p (.tup vs)) := s1.grow
  cases z : xs.all AV.fr with
  | true => rw [z] at q; exact k _ _ _ _ (.dat true (.tuple ds)) s1 W1 (Tr.tup upd_same (TrAll.mono g (RVs.tr r e z))) q
  | false => rw [z] at q; exact k _ _ _ _ (.dat false (.tuple ds)) s1 W1 (Dq.tup (SqT.of upd_same) (DqAll.mono g (RVs.dq r e))) q
/-- a list's items, where it stands -/
theorem RV.seqL {v : V} {av : AV} {xs : List AV} (W : WW K R A H μ) (r : RV K A v av) (h : isL μ av xs) : ∃ a vs, v = .ref a ∧ SqL K H a vs ∧ RVs K A vs xs := by
  cases av with
  | dat k x =>
    cases x with
    | list ds =>
      cases (show ds.map (AV.dat k) = xs from h)
      cases k with
      | true =>
        obtain ⟨a, vs, rfl, h1, h2⟩ := Tr.inv_lst r
        exact ⟨a, vs, rfl, SqL.of (W.sub _ _ h1), RVs.of_tr h2⟩
      | false =>
        obtain ⟨a, vs, rfl, h1, h2⟩ := Dq.inv_lst r
        exact ⟨a, vs, rfl, W.sub.seq h1, RVs.of_dq h2⟩
    | _ => exact h.elim
  | ref a =>
    obtain ⟨_, ho, h1, vs, rfl, h2⟩ := W.obs a _ h
    exact ⟨a, vs, r, SqL.of h1, h2⟩
  | ty n => exact h.elim
  | ob x =>
    cases x with
    | list ds =>
      cases (show ds.map avB = xs from h)
      obtain ⟨a, vs, rfl, h1, h2⟩ := Dw.inv_lst r
      exact ⟨a, vs, rfl, W.sub.seq h1, RVs.of_dw h2⟩
    | _ => exact h.elim
theorem RV.lstL {v : V} {av : AV} {xs : List AV} (W : WW K R A H μ) (r : RV K A v av) (h : isL μ av xs) (f : (xs.all AV.fr = true ∧ av.nob = true) ∨ ∃ a, av = .ref a) (ne : xs ≠ [] ∨ av.fr = true ∨ ∃ a, av = .ref a) : ∃ a vs, v = .ref a ∧ H a = some (.lst vs) ∧ RVs K A vs xs := by
  cases av with
  | dat k x =>
    cases x with
    | list ds =>
      cases (show ds.map (AV.dat k) = xs from h)
      have hk : k = true := by
        rcases ne with ne | ne | ⟨a, ne⟩
        · rcases f with ⟨f, _⟩ | ⟨a, f⟩
          · rwa [all_fr ds (fun z => ne (by rw [z]; rfl))] at f
          · cases f
        · exact ne
        · cases ne
      subst hk
      obtain ⟨a, vs, rfl, h1, h2⟩ := Tr.inv_lst r
      exact ⟨a, vs, rfl, W.sub _ _ h1, RVs.of_tr h2⟩
    | _ => exact h.elim
  | ref a =>
    obtain ⟨_, ho, h1, vs, rfl, h2⟩ := W.obs a _ h
    exact ⟨a, vs, r, h1, h2⟩
  | ty n => exact h.elim
  | ob x =>
    rcases f with ⟨_, f⟩ | ⟨b, f⟩
    · cases f
    · cases f
theorem RV.seqT {v : V} {av : AV} {xs : List AV} (W : WW K R A H μ) (r : RV K A v av) (h : isT av xs) : ∃ a vs, v = .ref a ∧ SqT K H a vs ∧ RVs K A vs xs := by
  cases av with
  | dat k x =>
    cases x with
    | tuple ds =>
      cases (show ds.map (AV.dat k) = xs from h)
      cases k with
      | true =>
        obtain ⟨a, vs, rfl, h1, h2⟩ := Tr.inv_tup r
        exact ⟨a, vs, rfl, SqT.of (W.sub _ _ h1), RVs.of_tr h2⟩
      | false =>
        obtain ⟨a, vs, rfl, h1, h2⟩ := Dq.inv_tup r
        exact ⟨a, vs, rfl, sqt_same W.sub h1, RVs.of_dq h2⟩
    | _ => exact h.elim
  | ob x =>
    cases x with
    | tuple ds =>
      cases (show ds.map avB = xs from h)
      obtain ⟨a, vs, rfl, h1, h2⟩ := Dw.inv_tup r
      exact ⟨a, vs, rfl, sqt_same W.sub h1, RVs.of_dw h2⟩
    | _ => exact h.elim
  | _ => exact h.elim
theorem RVs.dqT : ∀ {vs : List V} {ds : List PyData} {k : Bool}, RVs K A vs (ds.map (AV.dat k)) → DqAll K A vs ds := fun r => RVs.dq r (dats_map _)
/-- the data that a value stands for, as they stand in the heap -/
theorem RV.data {v : V} {av : AV} {x : PyData} (W : WW K R A H μ) (r : RV K A v av) (h : isD μ av x) : Dq K H v x := by
  cases av with
  | dat k y => cases (show y = x from h); exact Dq.mono W.sub r.dq
  | ref a =>
    obtain ⟨ds, h1, rfl⟩ := h
    obtain ⟨_, ho, h2, vs, rfl, h3⟩ := W.obs a _ h1
    cases (show v = .ref a from r)
    exact .lst (SqL.of h2) (DqAll.mono W.sub (RVs.dqT h3))
  | ty n => exact h.elim
  | ob x => exact h.elim

/-! ### expressions -/
def wVar (i : Nat) : WE' := fun l μ Q _ => ∃ av, l[i]? = some (some av) ∧ Q av μ
def wC (av : AV) : WE' := fun _ μ Q _ => Q av μ
def wOp (rd : AV → AV → MU → PQ → Prop) (wa wb : WE') : WE' := fun l μ Q X => wa l μ (fun x μ1 => wb l μ1 (fun y μ2 => rd x y μ2 Q) X) X
def wUn (rd : AV → MU → PQ → Prop) (wa : WE') : WE' := fun l μ Q X => wa l μ (fun x μ1 => rd x μ1 Q) X
/-- a list that may change never does from here on -/
def wFrz (we : WE') : WE' := fun l μ Q X => we l μ (fun x μ1 => (∃ k y, x = .dat k y ∧ Q x μ1) ∨ ∃ a xs, x = .ref a ∧ μ1 a = some (.lst xs) ∧ newF xs (delM μ1 a) Q) X
theorem d_var {i : Nat} : DE K R Wc (tVar i) (wVar i) := ⟨fun A H μ σ l Qc Q X W L kq kx ⟨av, h1, h2⟩ => by
  obtain ⟨v, e, r⟩ := L.at' i av h1
  exact ⟨v, e, kq.at W r h2⟩⟩
theorem d_int {n : Int} : DE K R Wc (tC (.int n)) (wC (.dat true (.int n))) := ⟨fun A H μ σ l Qc Q X W L kq kx h => kq.i W h⟩
theorem d_bl {b : Bool} : DE K R Wc (tC (.bl b)) (wC (.dat true (.bool b))) := ⟨fun A H μ σ l Qc Q X W L kq kx h => kq.b W h⟩
theorem d_str {x : Str} : DE K R Wc (tC (.str x)) (wC (.dat true (.str x))) := ⟨fun A H μ σ l Qc Q X W L kq kx h => kq.s W h⟩
theorem d_non : DE K R Wc (tC .non) (wC (.dat true .none)) := ⟨fun A H μ σ l Qc Q X W L kq kx h => kq.n W h⟩
theorem d_ty {n : String} : DE K R Wc (tC (.ty n)) (wC (.ty n)) := ⟨fun A H μ σ l Qc Q X W L kq kx h => kq.at W (av := .ty n) rfl h⟩
/-- a constant tuple of the program's top -/
theorem d_glT {a : Addr} {xs : List V} {ds : List PyData} (h : ∀ H : Hp, SqT K H a xs) (hd : ∀ H : Hp, DqAll K H xs ds) : DE K R Wc (tC (.ref a)) (wC (.dat false (.tuple ds))) := ⟨fun A H μ σ l Qc Q X W L kq kx q => kq.at W (av := .dat false (.tuple ds)) (Dq.tup (h A) (hd A)) q⟩
theorem d_op {r : R2} {rd : AV → AV → MU → PQ → Prop} {ta tb : TE} {wa wb : WE'} (hr : OpD K R r rd) (ha : DE K R Wc ta wa) (hb : DE K R Wc tb wb) : DE K R Wc (tOp r ta tb) (wOp rd wa wb) := ⟨fun A H μ σ l Qc Q X W L kq kx h =>
  ha.run A H μ σ l _ _ X W L (fun A1 H1 μ1 x ax s1 W1 r1 q1 => hb.run A1 H1 μ1 σ l _ _ X W1 (L.mono s1.grow) (fun A2 H2 μ2 y ay s2 W2 r2 q2 =>
    hr A2 H2 μ2 x y ax ay Qc Q W2 (r1.mono s2.grow) r2 (kq.go (s1.trans s2)) q2) (kx.go s1) q1) kx h⟩
theorem d_un {r : V → Hp → VK → Prop} {rd : AV → MU → PQ → Prop} {ta : TE} {wa : WE'} (hr : UnD K R r rd) (ha : DE K R Wc ta wa) : DE K R Wc (tUn r ta) (wUn rd wa) := ⟨fun A H μ σ l Qc Q X W L kq kx h =>
  ha.run A H μ σ l _ _ X W L (fun A1 H1 μ1 x ax s1 W1 r1 q1 => hr A1 H1 μ1 x ax Qc Q W1 r1 (kq.go s1) q1) kx h⟩
theorem frz_ok {Qc : VK} {Q : PQ} {v : V} {a : Addr} {xs : List AV} (W : WW K R A H μ) (kq : LQ K R A H μ Qc Q) (r : RV K A v (.ref a)) (h : μ a = some (.lst xs)) (q : newF xs (delM μ a) Q) : Qc v H := by
  obtain ⟨n, ho, h1, vs, rfl, h2⟩ := W.obs a _ h
  obtain ⟨W1, s1⟩ := W.freeze h h1
  obtain ⟨ds, e, q⟩ := q
  cases (show v = .ref a from r)
  cases z : xs.all AV.fr with
  | true => rw [z] at q; exact kq _ _ _ _ (.dat true (.list ds)) s1 W1 (Tr.lst upd_same (TrAll.mono s1.grow (RVs.tr h2 e z))) q
  | false => rw [z] at q; exact kq _ _ _ _ (.dat false (.list ds)) s1 W1 (Dq.lst (SqL.of upd_same) (DqAll.mono s1.grow (RVs.dq h2 e))) q
theorem d_frz {te : TE} {we : WE'} (h : DE K R Wc te we) : DE K R Wc te (wFrz we) := ⟨fun A H μ σ l Qc Q X W L kq kx q =>
  h.run A H μ σ l Qc _ X W L (fun A1 H1 μ1 v av s1 W1 r1 q1 => by
    rcases q1 with ⟨k, y, rfl, q1⟩ | ⟨a, xs, rfl, hm, q1⟩
    · exact kq _ _ _ _ _ s1 W1 r1 q1
    · exact frz_ok W1 (kq.go s1) r1 hm q1) kx q⟩
/-! ### operators -/
def aI0 (g : Int → Int → AV) : AV → AV → MU → PQ → Prop := fun x y μ Q => ∃ i j, isI x i ∧ isI y j ∧ Q (g i j) μ
def aI (C : Int → Int → Prop) (g : Int → Int → AV) : AV → AV → MU → PQ → Prop := fun x y μ Q => ∃ i j, isI x i ∧ isI y j ∧ C i j ∧ Q (g i j) μ
def aU (g : Int → AV) : AV → MU → PQ → Prop := fun x μ Q => ∃ i, isI x i ∧ Q (g i) μ
abbrev iAV (i : Int) : AV := .dat true (.int i)
abbrev bAV (b : Bool) : AV := .dat true (.bool b)
theorem od_I0i {g : Int → Int → Int} : OpD K R (rI0 fun i j => .int (g i j)) (aI0 fun i j => iAV (g i j)) := by
  rintro A H μ x y ax ay Qc Q W rx ry kq ⟨i, j, hi, hj, q⟩
  exact ⟨i, j, rx.i hi, ry.i hj, kq.i W q⟩
theorem od_I0b {g : Int → Int → Bool} : OpD K R (rI0 fun i j => .bl (g i j)) (aI0 fun i j => bAV (g i j)) := by
  rintro A H μ x y ax ay Qc Q W rx ry kq ⟨i, j, hi, hj, q⟩
  exact ⟨i, j, rx.i hi, ry.i hj, kq.b W q⟩
theorem od_Ii {C : Int → Int → Prop} {g : Int → Int → Int} : OpD K R (rI C fun i j => .int (g i j)) (aI C fun i j => iAV (g i j)) := by
  rintro A H μ x y ax ay Qc Q W rx ry kq ⟨i, j, hi, hj, hc, q⟩
  exact ⟨i, j, rx.i hi, ry.i hj, hc, kq.i W q⟩
theorem ud_i {g : Int → Int} : UnD K R (rU fun i => .int (g i)) (aU fun i => iAV (g i)) := by
  rintro A H μ x ax Qc Q W rx kq ⟨i, hi, q⟩
  exact ⟨i, rx.i hi, kq.i W q⟩
/-- == of two ints, two texts, two truths -/
def aEq (n : Bool) : AV → AV → MU → PQ → Prop := fun x y μ Q => (∃ i j, isI x i ∧ isI y j ∧ Q (bAV (n ^^ decide (i = j))) μ) ∨ (∃ i j, isS x i ∧ isS y j ∧ Q (bAV (n ^^ decide (i = j))) μ) ∨ (∃ i j, isB x i ∧ isB y j ∧ Q (bAV (n ^^ decide (i = j))) μ)
theorem xor_f {c : Bool} : (false ^^ c) = c := by cases c <;> rfl
theorem xor_t {c : Bool} : (true ^^ c) = !c := by cases c <;> rfl
theorem dec_iff {p q : Prop} [Decidable p] [Decidable q] (h : p ↔ q) : decide p = decide q := by
  by_cases e : p
  · rw [decide_eq_true e, decide_eq_true (h.mp e)]
  · rw [decide_eq_false e, decide_eq_false (fun z => e (h.mpr z))]
theorem scal_ii {i j : Int} : scal (.int i) (.int j) = true := rfl
theorem od_eq : OpD K R rEq (aEq false) := by
  rintro A H μ x y ax ay Qc Q W rx ry kq (⟨i, j, hi, hj, q⟩ | ⟨i, j, hi, hj, q⟩ | ⟨i, j, hi, hj, q⟩)
  · rw [xor_f] at q
    rw [rx.i hi, ry.i hj]
    exact ⟨rfl, by rw [dec_iff (q := i = j) ⟨fun z => V.int.inj z, fun z => by rw [z]⟩]; exact kq.b W q⟩
  · rw [xor_f] at q
    rw [rx.s hi, ry.s hj]
    exact ⟨rfl, by rw [dec_iff (q := i = j) ⟨fun z => V.str.inj z, fun z => by rw [z]⟩]; exact kq.b W q⟩
  · rw [xor_f] at q
    rw [rx.b hi, ry.b hj]
    exact ⟨rfl, by rw [dec_iff (q := i = j) ⟨fun z => V.bl.inj z, fun z => by rw [z]⟩]; exact kq.b W q⟩
theorem od_ne : OpD K R rNe (aEq true) := by
  rintro A H μ x y ax ay Qc Q W rx ry kq (⟨i, j, hi, hj, q⟩ | ⟨i, j, hi, hj, q⟩ | ⟨i, j, hi, hj, q⟩)
  · rw [xor_t] at q
    rw [rx.i hi, ry.i hj]
    exact ⟨rfl, by rw [dec_iff (q := i = j) ⟨fun z => V.int.inj z, fun z => by rw [z]⟩]; exact kq.b W q⟩
  · rw [xor_t] at q
    rw [rx.s hi, ry.s hj]
    exact ⟨rfl, by rw [dec_iff (q := i = j) ⟨fun z => V.str.inj z, fun z => by rw [z]⟩]; exact kq.b W q⟩
  · rw [xor_t] at q
    rw [rx.b hi, ry.b hj]
    exact ⟨rfl, by rw [dec_iff (q := i = j) ⟨fun z => V.bl.inj z, fun z => by rw [z]⟩]; exact kq.b W q⟩
/-- == of data -/
def aEqD (n : Bool) : AV → AV → MU → PQ → Prop := fun x y μ Q => ∃ d e, isD μ x d ∧ isD μ y e ∧ d.hasDict = false ∧ e.hasDict = false ∧ SeqAt.shaped d = true ∧ SeqAt.shaped e = true ∧ Q (bAV (n ^^ PyData.eqv d e)) μ
theorem od_eqD : OpD K R (rEqD K) (aEqD false) := by
  rintro A H μ x y ax ay Qc Q W rx ry kq ⟨d, e, hd, he, n1, n2, s1, s2, q⟩
  rw [xor_f] at q
  exact ⟨d, e, (rx.data W hd).dp n1, (ry.data W he).dp n2, s1, s2, kq.b W q⟩
theorem od_neD : OpD K R (rNeD K) (aEqD true) := by
  rintro A H μ x y ax ay Qc Q W rx ry kq ⟨d, e, hd, he, n1, n2, s1, s2, q⟩
  rw [xor_t] at q
  exact ⟨d, e, (rx.data W hd).dp n1, (ry.data W he).dp n2, s1, s2, kq.b W q⟩
theorem RVs.atI {vs : List V} {xs : List AV} (r : RVs K A vs xs) {i : Int} {x : AV} (h : atI xs i = some x) : ∃ v, atI vs i = some v ∧ RV K A v x := by
  unfold L2.atI at h ⊢
  rw [r.length]
  cases e : ixN xs.length i with
  | none => rw [e] at h; cases h
  | some j =>
    rw [e] at h
    exact r.of (i := j) h
def aIxL : AV → AV → MU → PQ → Prop := fun x y μ Q => ∃ i xs v, isI y i ∧ isL μ x xs ∧ atI xs i = some v ∧ Q v μ
def aIxT : AV → AV → MU → PQ → Prop := fun x y μ Q => ∃ i xs v, isI y i ∧ isT x xs ∧ atI xs i = some v ∧ Q v μ
def aIx : AV → AV → MU → PQ → Prop := fun x y μ Q => ∃ i xs v, isI y i ∧ (isL μ x xs ∨ isT x xs) ∧ atI xs i = some v ∧ Q v μ
theorem od_ixL : OpD K R (rIxL K) aIxL := by
  rintro A H μ x y ax ay Qc Q W rx ry kq ⟨i, xs, v, hi, hl, ha, q⟩
  obtain ⟨a, vs, rfl, h1, h2⟩ := rx.seqL W hl
  obtain ⟨u, h3, h4⟩ := h2.atI ha
  exact ⟨a, vs, i, u, rfl, ry.i hi, h1, h3, kq.at W h4 q⟩
theorem od_ixT : OpD K R (rIxT K) aIxT := by
  rintro A H μ x y ax ay Qc Q W rx ry kq ⟨i, xs, v, hi, hl, ha, q⟩
  obtain ⟨a, vs, rfl, h1, h2⟩ := rx.seqT W hl
  obtain ⟨u, h3, h4⟩ := h2.atI ha
  exact ⟨a, vs, i, u, rfl, ry.i hi, h1, h3, kq.at W h4 q⟩
theorem od_ix : OpD K R (rIx K) aIx := by
  rintro A H μ x y ax ay Qc Q W rx ry kq ⟨i, xs, v, hi, hl | hl, ha, q⟩
  · exact .inl (od_ixL A H μ x y ax ay Qc Q W rx ry kq ⟨i, xs, v, hi, hl, ha, q⟩)
  · exact .inr (.inl (od_ixT A H μ x y ax ay Qc Q W rx ry kq ⟨i, xs, v, hi, hl, ha, q⟩))
def fullL (x : AV) (xs : List AV) : Prop := ((xs.all AV.fr = true ∧ x.nob = true) ∨ ∃ a, x = .ref a) ∧ (xs ≠ [] ∨ x.fr = true ∨ ∃ a, x = .ref a)
/-- list + list -/
def aCat (m : Bool) : AV → AV → MU → PQ → Prop := fun x y μ Q => ∃ xs ys, isL μ x xs ∧ isL μ y ys ∧ fullL x xs ∧ fullL y ys ∧ xs.length + ys.length ≤ 100000 ∧ newL m (xs ++ ys) μ Q
theorem od_cat {m : Bool} : OpD K R rCat (aCat m) := by
  rintro A H μ x y ax ay Qc Q W rx ry kq ⟨xs, ys, h1, h2, f1, f2, hn, q⟩
  obtain ⟨a, vs, rfl, k1, k2⟩ := rx.lstL W h1 f1.1 f1.2
  obtain ⟨b, us, rfl, k3, k4⟩ := ry.lstL W h2 f2.1 f2.2
  exact ⟨a, b, vs, us, rfl, rfl, k1, k3, sz_of (by rw [k2.length, k4.length]; exact hn), fun p hp => newL_ok W kq (k2.app k4) hp q⟩
theorem rep_rvs {vs : List V} {xs : List AV} (r : RVs K A vs xs) : ∀ n : Nat, RVs K A (List.replicate n vs).flatten (List.replicate n xs).flatten
  | 0 => .nil
  | n + 1 => by
    rw [List.replicate_succ, List.flatten_cons, List.replicate_succ, List.flatten_cons]
    exact r.app (rep_rvs r n)
end
end Fv

/-! ### the layer of data: truths, tests, arguments, literals, calls, statements -/
namespace Fv
open PySem PySem.Spec PyProof.Rows L2
section
variable {K : PySem.W.Frag} {R : RK} {Wc : WX} {A H A1 H1 : Hp} {μ μ1 : MU} {σ : L2.St}
/-! truths as values -/
def wNotV (wa : WE') : WE' := fun l μ Q X => wa l μ (fun x μ1 => ∃ b, isB x b ∧ Q (bAV (!b)) μ1) X
def wAndV (wa wb : WE') : WE' := fun l μ Q X => wa l μ (fun x μ1 => ∃ b, isB x b ∧ if b = true then wb l μ1 Q X else Q (bAV false) μ1) X
def wOrV (wa wb : WE') : WE' := fun l μ Q X => wa l μ (fun x μ1 => ∃ b, isB x b ∧ if b = true then Q (bAV true) μ1 else wb l μ1 Q X) X
theorem d_notV {ta : TE} {wa : WE'} (ha : DE K R Wc ta wa) : DE K R Wc (tNotV ta) (wNotV wa) := ⟨fun A H μ σ l Qc Q X W L kq kx h =>
  ha.run A H μ σ l _ _ X W L (fun A1 H1 μ1 x ax s1 W1 r1 ⟨b, hb, q1⟩ => ⟨b, r1.b hb, (kq.go s1).b W1 q1⟩) kx h⟩
theorem d_andV {ta tb : TE} {wa wb : WE'} (ha : DE K R Wc ta wa) (hb : DE K R Wc tb wb) : DE K R Wc (tAndV ta tb) (wAndV wa wb) := ⟨fun A H μ σ l Qc Q X W L kq kx h =>
  ha.run A H μ σ l _ _ X W L (fun A1 H1 μ1 x ax s1 W1 r1 ⟨b, eb, q1⟩ => ⟨b, r1.b eb, by
    cases b with
    | true => rw [if_pos rfl] at q1 ⊢; exact hb.run A1 H1 μ1 σ l Qc Q X W1 (L.mono s1.grow) (kq.go s1) (kx.go s1) q1
    | false => rw [if_neg Bool.false_ne_true] at q1 ⊢; exact (kq.go s1).b W1 q1⟩) kx h⟩
theorem d_orV {ta tb : TE} {wa wb : WE'} (ha : DE K R Wc ta wa) (hb : DE K R Wc tb wb) : DE K R Wc (tOrV ta tb) (wOrV wa wb) := ⟨fun A H μ σ l Qc Q X W L kq kx h =>
  ha.run A H μ σ l _ _ X W L (fun A1 H1 μ1 x ax s1 W1 r1 ⟨b, eb, q1⟩ => ⟨b, r1.b eb, by
    cases b with
    | true => rw [if_pos rfl] at q1 ⊢; exact (kq.go s1).b W1 q1
    | false => rw [if_neg Bool.false_ne_true] at q1 ⊢; exact hb.run A1 H1 μ1 σ l Qc Q X W1 (L.mono s1.grow) (kq.go s1) (kx.go s1) q1⟩) kx h⟩
/-- a < b < c, of ints -/
def wChain (r r' : AV → AV → MU → PQ → Prop) (wa wb wc : WE') : WE' := fun l μ Q X => wa l μ (fun x μ1 => wb l μ1 (fun y μ2 => r x y μ2 (fun z μ3 => ∃ k, isB z k ∧ if k = true then wc l μ3 (fun w μ4 => r' y w μ4 Q) X else Q (bAV false) μ3)) X) X
theorem d_chain {r r' : R2} {rd rd' : AV → AV → MU → PQ → Prop} {ta tb tc : TE} {wa wb wc : WE'} (hr : OpD K R r rd) (hr' : OpD K R r' rd') (ha : DE K R Wc ta wa) (hb : DE K R Wc tb wb) (hc : DE K R Wc tc wc) : DE K R Wc (tChain r r' ta tb tc) (wChain rd rd' wa wb wc) := ⟨fun A H μ σ l Qc Q X W L kq kx h =>
  ha.run A H μ σ l _ _ X W L (fun A1 H1 μ1 x ax s1 W1 r1 q1 => hb.run A1 H1 μ1 σ l _ _ X W1 (L.mono s1.grow) (fun A2 H2 μ2 y ay s2 W2 r2 q2 =>
    hr A2 H2 μ2 x y ax ay _ _ W2 (r1.mono s2.grow) r2 (fun A3 H3 μ3 z az s3 W3 r3 ⟨k, hk, q3⟩ => ⟨k, r3.b hk, by
      cases k with
      | false => rw [if_neg Bool.false_ne_true] at q3 ⊢; exact (kq.go ((s1.trans s2).trans s3)).b W3 q3
      | true =>
        rw [if_pos rfl] at q3 ⊢
        have g := (s1.trans s2).trans s3
        exact hc.run A3 H3 μ3 σ l _ _ X W3 (L.mono g.grow) (fun A4 H4 μ4 w aw s4 W4 r4 q4 => hr' A4 H4 μ4 y w ay aw Qc Q W4 (r2.mono (s3.trans s4).grow) r4 (kq.go (g.trans s4)) q4) (kx.go g) q3⟩) q2) (kx.go s1) q1) kx h⟩
/-! tests -/
def wB (we : WE') : WT' := fun l μ Q X => we l μ (fun x μ1 => ∃ b, isB x b ∧ Q b μ1) X
def wNot (wt : WT') : WT' := fun l μ Q X => wt l μ (fun b μ1 => Q (!b) μ1) X
def wAnd (wt wu : WT') : WT' := fun l μ Q X => wt l μ (fun b μ1 => if b = true then wu l μ1 Q X else Q false μ1) X
def wOr (wt wu : WT') : WT' := fun l μ Q X => wt l μ (fun b μ1 => if b = true then Q true μ1 else wu l μ1 Q X) X
def wYes : WT' := fun _ μ Q _ => Q true μ
theorem d_yes : DT K R Wc tYes wYes := ⟨fun A H μ σ l Qc Q X W L kq kx h => kq _ _ _ _ Stp.refl W h⟩
theorem d_tB {te : TE} {we : WE'} (h : DE K R Wc te we) : DT K R Wc (tB te) (wB we) := ⟨fun A H μ σ l Qc Q X W L kq kx q =>
  h.run A H μ σ l _ _ X W L (fun A1 H1 μ1 x ax s1 W1 r1 ⟨b, hb, q1⟩ => ⟨b, r1.b hb, kq _ _ _ _ s1 W1 q1⟩) kx q⟩
theorem d_tTest {te : TE} {we : WE'} (h : DE K R Wc te we) : DT K R Wc (tTest te) (wB we) := ⟨fun A H μ σ l Qc Q X W L kq kx q =>
  h.run A H μ σ l _ _ X W L (fun A1 H1 μ1 x ax s1 W1 r1 ⟨b, hb, q1⟩ => ⟨b, r1.b hb, kq _ _ _ _ s1 W1 q1⟩) kx q⟩
theorem d_not {tt : TT} {wt : WT'} (h : DT K R Wc tt wt) : DT K R Wc (tNot tt) (wNot wt) := ⟨fun A H μ σ l Qc Q X W L kq kx q =>
  h.run A H μ σ l _ _ X W L (fun A1 H1 μ1 b s1 W1 q1 => kq _ _ _ _ s1 W1 q1) kx q⟩
theorem d_and {tt tu : TT} {wt wu : WT'} (h : DT K R Wc tt wt) (h' : DT K R Wc tu wu) : DT K R Wc (tAnd tt tu) (wAnd wt wu) := ⟨fun A H μ σ l Qc Q X W L kq kx q =>
  h.run A H μ σ l _ _ X W L (fun A1 H1 μ1 b s1 W1 q1 => by
    cases b with
    | true => rw [if_pos rfl] at q1 ⊢; exact h'.run A1 H1 μ1 σ l Qc Q X W1 (L.mono s1.grow) (kq.go s1) (kx.go s1) q1
    | false => rw [if_neg Bool.false_ne_true] at q1 ⊢; exact kq _ _ _ _ s1 W1 q1) kx q⟩
theorem d_or {tt tu : TT} {wt wu : WT'} (h : DT K R Wc tt wt) (h' : DT K R Wc tu wu) : DT K R Wc (tOr tt tu) (wOr wt wu) := ⟨fun A H μ σ l Qc Q X W L kq kx q =>
  h.run A H μ σ l _ _ X W L (fun A1 H1 μ1 b s1 W1 q1 => by
    cases b with
    | true => rw [if_pos rfl] at q1 ⊢; exact kq _ _ _ _ s1 W1 q1
    | false => rw [if_neg Bool.false_ne_true] at q1 ⊢; exact h'.run A1 H1 μ1 σ l Qc Q X W1 (L.mono s1.grow) (kq.go s1) (kx.go s1) q1) kx q⟩
def wIf (wt : WT') (wa wb : WE') : WE' := fun l μ Q X => wt l μ (fun b μ1 => if b = true then wa l μ1 Q X else wb l μ1 Q X) X
theorem d_if {tt : TT} {wt : WT'} {ta tb : TE} {wa wb : WE'} (h : DT K R Wc tt wt) (ha : DE K R Wc ta wa) (hb : DE K R Wc tb wb) : DE K R Wc (tIf tt ta tb) (wIf wt wa wb) := ⟨fun A H μ σ l Qc Q X W L kq kx q =>
  h.run A H μ σ l _ _ X W L (fun A1 H1 μ1 b s1 W1 q1 => by
    cases b with
    | true => rw [if_pos rfl] at q1 ⊢; exact ha.run A1 H1 μ1 σ l Qc Q X W1 (L.mono s1.grow) (kq.go s1) (kx.go s1) q1
    | false => rw [if_neg Bool.false_ne_true] at q1 ⊢; exact hb.run A1 H1 μ1 σ l Qc Q X W1 (L.mono s1.grow) (kq.go s1) (kx.go s1) q1) kx q⟩
/-! is None, is not None -/
def isNone' : AV → Bool → Prop | .dat _ .none, b => b = true | .dat _ (.bool _), b => b = false | .dat _ (.int _), b => b = false | .dat _ (.str _), b => b = false | .dat _ (.list _), b => b = false | .dat _ (.tuple _), b => b = false | .dat _ (.dict _), b => b = false | .ref _, b => b = false | .ty _, b => b = false | .ob (.dict _), b => b = false | .ob (.list _), b => b = false | .ob (.tuple _), b => b = false | .ob _, _ => False
def wIsN (n : Bool) (wa : WE') : WE' := fun l μ Q X => wa l μ (fun x μ1 => ∃ b, isNone' x b ∧ Q (bAV (n ^^ b)) μ1) X
theorem RV.none {v : V} {av : AV} {b : Bool} (r : RV K A v av) (h : isNone' av b) : decide (v = .non) = b := by
  cases av with
  | dat k x =>
    have d := r.dq
    cases d <;> (cases (show b = _ from h); rfl)
  | ref a => cases (show b = false from h); cases (show v = .ref a from r); rfl
  | ty n => cases (show b = false from h); cases (show v = .ty n from r); rfl
  | ob x =>
    have d := (show Dw K A v x from r)
    cases d <;> first | exact h.elim | (cases (show b = _ from h); rfl)
theorem d_isN {ta : TE} {wa : WE'} (ha : DE K R Wc ta wa) : DE K R Wc (tIsN ta) (wIsN false wa) := ⟨fun A H μ σ l Qc Q X W L kq kx h =>
  ha.run A H μ σ l _ _ X W L (fun A1 H1 μ1 x ax s1 W1 r1 ⟨b, hb, q1⟩ => by rw [xor_f] at q1; rw [r1.none hb]; exact (kq.go s1).b W1 q1) kx h⟩
theorem d_notN {ta : TE} {wa : WE'} (ha : DE K R Wc ta wa) : DE K R Wc (tNotN ta) (wIsN true wa) := ⟨fun A H μ σ l Qc Q X W L kq kx h =>
  ha.run A H μ σ l _ _ X W L (fun A1 H1 μ1 x ax s1 W1 r1 ⟨b, hb, q1⟩ => by rw [xor_t] at q1; rw [r1.none hb]; exact (kq.go s1).b W1 q1) kx h⟩
/-! type(x) is int, type(x) is not str -/
def aTyIs (n : Bool) : AV → AV → MU → PQ → Prop := fun x y μ Q => ∃ a b, x = .ty a ∧ y = .ty b ∧ Q (bAV (n ^^ decide (a = b))) μ
theorem od_isTy : OpD K R (fun x y H Q => ∃ a b, x = .ty a ∧ y = .ty b ∧ Q (.bl (decide (a = b))) H) (aTyIs false) := by
  rintro A H μ x y ax ay Qc Q W rx ry kq ⟨a, b, rfl, rfl, q⟩
  rw [xor_f] at q
  exact ⟨a, b, rx, ry, kq.b W q⟩
theorem od_notTy : OpD K R rNT (aTyIs true) := by
  rintro A H μ x y ax ay Qc Q W rx ry kq ⟨a, b, rfl, rfl, q⟩
  rw [xor_t] at q
  exact ⟨a, b, rx, ry, kq.b W q⟩
/-- type(x) in (list, tuple): a literal tuple of types -/
def tyTup : List AV → Option (List String)
  | [] => some []
  | .ty n :: r => (tyTup r).map (n :: ·)
  | _ :: _ => none
/-! ### arguments, literals, calls -/
def wNil : WA' := fun _ μ Q _ => Q [] μ
def wCons (wa : WE') (wr : WA') : WA' := fun l μ Q X => wa l μ (fun x μ1 => wr l μ1 (fun xs μ2 => Q (x :: xs) μ2) X) X
def wStar (wa : WE') (wr : WA') : WA' := fun l μ Q X => wa l μ (fun x μ1 => ∃ ys, (isL μ1 x ys ∨ isT x ys) ∧ wr l μ1 (fun xs μ2 => Q (ys ++ xs) μ2) X) X
theorem d_nil : DA K R Wc tNil wNil := ⟨fun A H μ σ l Qc Q X W L kq kx h => kq _ _ _ _ _ Stp.refl W .nil h⟩
theorem d_cons {ta : TE} {tr : TA} {wa : WE'} {wr : WA'} (ha : DE K R Wc ta wa) (hr : DA K R Wc tr wr) : DA K R Wc (tCons ta tr) (wCons wa wr) := ⟨fun A H μ σ l Qc Q X W L kq kx h =>
  ha.run A H μ σ l _ _ X W L (fun A1 H1 μ1 x ax s1 W1 r1 q1 => hr.run A1 H1 μ1 σ l _ _ X W1 (L.mono s1.grow) (fun A2 H2 μ2 xs axs s2 W2 r2 q2 =>
    kq _ _ _ _ _ (s1.trans s2) W2 (.cons (r1.mono s2.grow) r2) q2) (kx.go s1) q1) kx h⟩
theorem d_star {ta : TE} {tr : TA} {wa : WE'} {wr : WA'} (ha : DE K R Wc ta wa) (hr : DA K R Wc tr wr) : DA K R Wc (StX.tStar K ta tr) (wStar wa wr) := ⟨fun A H μ σ l Qc Q X W L kq kx h =>
  ha.run A H μ σ l _ _ X W L (fun A1 H1 μ1 x ax s1 W1 r1 ⟨ys, hy, q1⟩ => by
    obtain ⟨p, vs, rfl, h1, h2⟩ : ∃ p vs, x = .ref p ∧ (SqT K H1 p vs ∨ SqL K H1 p vs) ∧ RVs K A1 vs ys := by
      rcases hy with hy | hy
      · obtain ⟨p, vs, e, h1, h2⟩ := r1.seqL W1 hy; exact ⟨p, vs, e, .inr h1, h2⟩
      · obtain ⟨p, vs, e, h1, h2⟩ := r1.seqT W1 hy; exact ⟨p, vs, e, .inl h1, h2⟩
    exact ⟨p, vs, rfl, h1, hr.run A1 H1 μ1 σ l _ _ X W1 (L.mono s1.grow) (fun A2 H2 μ2 xs axs s2 W2 r2 q2 => kq _ _ _ _ _ (s1.trans s2) W2 ((h2.mono s2.grow).app r2) q2) (kx.go s1) q1⟩) kx h⟩
def wTup (wa : WA') : WE' := fun l μ Q X => wa l μ (fun xs μ1 => xs.length ≤ 100000 ∧ newT xs μ1 Q) X
def wLst (m : Bool) (wa : WA') : WE' := fun l μ Q X => wa l μ (fun xs μ1 => xs.length ≤ 100000 ∧ newL m xs μ1 Q) X
theorem d_tup {ta : TA} {wa : WA'} (ha : DA K R Wc ta wa) : DE K R Wc (tTup ta) (wTup wa) := ⟨fun A H μ σ l Qc Q X W L kq kx h =>
  ha.run A H μ σ l _ _ X W L (fun A1 H1 μ1 xs axs s1 W1 r1 ⟨hn, q1⟩ => ⟨sz_of (by rw [r1.length]; exact hn), fun p hp => newT_ok W1 (kq.go s1) r1 hp q1⟩) kx h⟩
theorem d_lst {m : Bool} {ta : TA} {wa : WA'} (ha : DA K R Wc ta wa) : DE K R Wc (tLst ta) (wLst m wa) := ⟨fun A H μ σ l Qc Q X W L kq kx h =>
  ha.run A H μ σ l _ _ X W L (fun A1 H1 μ1 xs axs s1 W1 r1 ⟨hn, q1⟩ => ⟨sz_of (by rw [r1.length]; exact hn), fun p hp => newL_ok W1 (kq.go s1) r1 hp q1⟩) kx h⟩
/-- a tuple of types, and whether a type is in it -/
def wTyIn (wa : WE') (ts : List String) : WE' := fun l μ Q X => wa l μ (fun x μ1 => ∃ T, x = .ty T ∧ TyN T ∧ Q (bAV (ts.any fun S => decide (S = T))) μ1) X
theorem d_tyIn {ta : TE} {tt : TA} {wa : WE'} {ts : List String} (ha : DE K R Wc ta wa) (ht : ∀ σ H Q, Q (ts.map V.ty) H → tt σ H Q) (hts : ∀ S ∈ ts, TyN S) (hl : ts.length ≤ 100) : DE K R Wc (tOp (rInTy K) ta (tTup tt)) (wTyIn wa ts) := ⟨fun A H μ σ l Qc Q X W L kq kx h =>
  ha.run A H μ σ l _ _ X W L (fun A1 H1 μ1 x ax s1 W1 r1 ⟨T, e, hT, q1⟩ => by
    subst e
    cases (show x = .ty T from r1)
    refine ht _ _ _ ⟨sz_of (by rw [List.length_map]; omega), fun p hp => ?_⟩
    obtain ⟨W2, s2⟩ := W1.extS (same_new (o := .tup (ts.map V.ty)) hp)
    exact ⟨T, p, ts, rfl, rfl, SqT.of upd_same, hT, hts, ((kq.go s1).go s2).b W2 q1⟩) kx h⟩
/-! a call of a def of the text -/
abbrev FD := List AV → MU → PQ → PXq → Prop
def spD (K : PySem.W.Frag) (R : RK) (f : FD) : Sp := fun vs H Q E => ∃ (A : Hp) (μ : MU) (avs : List AV) (Qa : PQ) (X : PXq), WW K R A H μ ∧ RVs K A vs avs ∧ f avs μ Qa X ∧ LQ K R A H μ Q Qa ∧
  ∀ A' H' μ' c, Stp A H μ A' H' μ' → WW K R A' H' μ' → X c μ' → E c none H'
def noX : PXq := fun _ _ => False
def wCall0 (f : FD) (wa : WA') : WE' := fun l μ Q X => wa l μ (fun xs μ1 => f xs μ1 Q noX) X
def wCall (f : FD) (wa : WA') : WE' := fun l μ Q X => wa l μ (fun xs μ1 => f xs μ1 Q X) X
theorem d_call0 {f : FD} {ta : TA} {wa : WA'} (ha : DA K R Wc ta wa) : DE K R Wc (tCall (spD K R f) [] E0 ta) (wCall0 f wa) := ⟨fun A H μ σ l Qc Q X W L kq kx h =>
  ha.run A H μ σ l _ _ X W L (fun A1 H1 μ1 xs axs s1 W1 r1 q1 => by
    show spD K R f (xs ++ []) H1 Qc E0
    rw [List.append_nil]
    exact ⟨A1, μ1, axs, Q, noX, W1, r1, q1, kq.go s1, fun _ _ _ _ _ _ z => z.elim⟩) kx h⟩
theorem d_callS {f : FD} {ta : TA} {wa : WA'} (ha : DA K R Wc ta wa) : DE K R Wc (tCallS (spD K R f) (WE Wc) ta) (wCall f wa) := ⟨fun A H μ σ l Qc Q X W L kq kx h =>
  ha.run A H μ σ l _ _ X W L (fun A1 H1 μ1 xs axs s1 W1 r1 q1 => ⟨A1, μ1, axs, Q, X, W1, r1, q1, kq.go s1, fun A' H' μ' c s W' x => kx A' H' μ' c (s1.trans s) W' x⟩) kx h⟩
/-- .. whose list that may change is read by the def: what is told holds no part of it -/
def flatAV : AV → Prop | .dat _ .none => True | .dat _ (.bool _) => True | .dat _ (.int _) => True | .dat _ (.str _) => True | _ => False
/-! built-ins -/
def wCB (rd : List AV → MU → PQ → Prop) (wa : WA') : WE' := fun l μ Q X => wa l μ (fun xs μ1 => rd xs μ1 Q) X
theorem d_cb {r : List V → Hp → VK → Prop} {rd : List AV → MU → PQ → Prop} {ta : TA} {wa : WA'} (hr : CallD K R r rd) (ha : DA K R Wc ta wa) : DE K R Wc (tCB r ta) (wCB rd wa) := ⟨fun A H μ σ l Qc Q X W L kq kx h =>
  ha.run A H μ σ l _ _ X W L (fun A1 H1 μ1 xs axs s1 W1 r1 q1 => hr A1 H1 μ1 xs axs Qc Q W1 r1 (kq.go s1) q1) kx h⟩
theorem RVs.one {vs : List V} {x : AV} (r : RVs K A vs [x]) : ∃ v, vs = [v] ∧ RV K A v x := by
  cases r with | cons h r => cases r; exact ⟨_, rfl, h⟩
theorem RVs.two {vs : List V} {x y : AV} (r : RVs K A vs [x, y]) : ∃ v u, vs = [v, u] ∧ RV K A v x ∧ RV K A u y := by
  cases r with | cons h r => obtain ⟨u, rfl, h2⟩ := r.one; exact ⟨_, _, rfl, h, h2⟩
def bLen : List AV → MU → PQ → Prop := fun xs μ Q => ∃ x ys, xs = [x] ∧ (isL μ x ys ∨ isT x ys) ∧ Q (iAV (ys.length : Int)) μ
theorem cd_len : CallD K R (rLenSq K) bLen := by
  rintro A H μ vs _ Qc Q W r kq ⟨x, ys, rfl, h, q⟩
  obtain ⟨v, rfl, rv⟩ := r.one
  rcases h with h | h
  · obtain ⟨a, us, rfl, h1, h2⟩ := rv.seqL W h
    exact ⟨a, us, rfl, .inl h1, by rw [h2.length]; exact kq.i W q⟩
  · obtain ⟨a, us, rfl, h1, h2⟩ := rv.seqT W h
    exact ⟨a, us, rfl, .inr h1, by rw [h2.length]; exact kq.i W q⟩
def bMax2 : List AV → MU → PQ → Prop := fun xs μ Q => ∃ x y i j, xs = [x, y] ∧ isI x i ∧ isI y j ∧ Q (iAV (if j > i then j else i)) μ
def bMin2 : List AV → MU → PQ → Prop := fun xs μ Q => ∃ x y i j, xs = [x, y] ∧ isI x i ∧ isI y j ∧ Q (iAV (if j < i then j else i)) μ
theorem cd_max2 : CallD K R (fun xs H Q => ∃ i j, xs = [.int i, .int j] ∧ Q (.int (if j > i then j else i)) H) bMax2 := by
  rintro A H μ vs _ Qc Q W r kq ⟨x, y, i, j, rfl, hi, hj, q⟩
  obtain ⟨v, u, rfl, r1, r2⟩ := r.two
  exact ⟨i, j, by rw [r1.i hi, r2.i hj], kq.i W q⟩
theorem cd_min2 : CallD K R (fun xs H Q => ∃ i j, xs = [.int i, .int j] ∧ Q (.int (if j < i then j else i)) H) bMin2 := by
  rintro A H μ vs _ Qc Q W r kq ⟨x, y, i, j, rfl, hi, hj, q⟩
  obtain ⟨v, u, rfl, r1, r2⟩ := r.two
  exact ⟨i, j, by rw [r1.i hi, r2.i hj], kq.i W q⟩
def bAbs : List AV → MU → PQ → Prop := fun xs μ Q => ∃ x i, xs = [x] ∧ isI x i ∧ Q (iAV (if i < 0 then -i else i)) μ
theorem cd_abs : CallD K R (fun xs H Q => ∃ i, xs = [.int i] ∧ Q (.int (if i < 0 then -i else i)) H) bAbs := by
  rintro A H μ vs _ Qc Q W r kq ⟨x, i, rfl, hi, q⟩
  obtain ⟨v, rfl, r1⟩ := r.one
  exact ⟨i, by rw [r1.i hi], kq.i W q⟩
/-- int(..) of a truth or an int -/
def bInt : List AV → MU → PQ → Prop := fun xs μ Q => ∃ x, xs = [x] ∧ ((∃ i, isI x i ∧ Q (iAV i) μ) ∨ ∃ b, isB x b ∧ Q (iAV (if b then 1 else 0)) μ)
theorem cd_int : CallD K R (fun xs H Q => (∃ i, xs = [.int i] ∧ Q (.int i) H) ∨ ∃ k, xs = [.bl k] ∧ Q (.int (if k then 1 else 0)) H) bInt := by
  rintro A H μ vs _ Qc Q W r kq ⟨x, rfl, ⟨i, hi, q⟩ | ⟨b, hb, q⟩⟩
  · obtain ⟨v, rfl, r1⟩ := r.one
    exact .inl ⟨i, by rw [r1.i hi], kq.i W q⟩
  · obtain ⟨v, rfl, r1⟩ := r.one
    exact .inr ⟨b, by rw [r1.b hb], kq.i W q⟩
def tyA : AV → Option String | .dat _ x => some (tyD x) | .ref _ => some "list" | .ty _ => none | .ob _ => none
def bTyp : List AV → MU → PQ → Prop := fun xs μ Q => ∃ x k d, xs = [x] ∧ x = .dat k d ∧ Q (.ty (tyD d)) μ
theorem cd_typ : CallD K R (rTyp K) bTyp := by
  rintro A H μ vs _ Qc Q W r kq ⟨x, k, d, rfl, rfl, q⟩
  obtain ⟨v, rfl, r1⟩ := r.one
  exact ⟨v, _, rfl, (Dq.mono W.sub r1.dq).tyB, kq.at W (av := .ty (tyD d)) rfl q⟩
def bSum : List AV → MU → PQ → Prop := fun xs μ Q => ∃ (x : AV) (k : Bool) (ns : List Int), xs = [x] ∧ x = .dat k (.list (ns.map PyData.int)) ∧ Q (iAV ns.sum) μ
theorem cd_sum : CallD K R (rSum K) bSum := by
  rintro A H μ vs _ Qc Q W r kq ⟨x, k, ns, rfl, rfl, q⟩
  obtain ⟨v, rfl, r1⟩ := r.one
  obtain ⟨a, us, rfl, h1, h2⟩ := (Dq.mono W.sub r1.dq).inv_lst
  rw [DqAll.ints_inv h2] at h1
  exact ⟨a, ns, rfl, h1, kq.i W q⟩
def bAll : List AV → MU → PQ → Prop := fun xs μ Q => ∃ (x : AV) (k : Bool) (bs : List Bool), xs = [x] ∧ x = .dat k (.list (bs.map PyData.bool)) ∧ Q (bAV (bs.all id)) μ
theorem cd_all : CallD K R (rAll K) bAll := by
  rintro A H μ vs _ Qc Q W r kq ⟨x, k, ns, rfl, rfl, q⟩
  obtain ⟨v, rfl, r1⟩ := r.one
  obtain ⟨a, us, rfl, h1, h2⟩ := (Dq.mono W.sub r1.dq).inv_lst
  rw [DqAll.bools_inv h2] at h1
  exact ⟨a, ns, rfl, h1, kq.b W q⟩
/-- tuple(xs), list(xs) -/
def bTuple : List AV → MU → PQ → Prop := fun xs μ Q => ∃ x ys, xs = [x] ∧ ((isL μ x ys ∧ newT ys μ Q) ∨ (isT x ys ∧ Q x μ))
theorem cd_tuple : CallD K R (fun xs H Q => ∃ p ys, xs = [.ref p] ∧ ((SqL K H p ys ∧ ∀ l, H l = none → Q (.ref l) (upd H l (.tup ys))) ∨ (SqT K H p ys ∧ Q (.ref p) H))) bTuple := by
  rintro A H μ vs _ Qc Q W r kq ⟨x, ys, rfl, h⟩
  obtain ⟨v, rfl, r1⟩ := r.one
  rcases h with ⟨h, q⟩ | ⟨h, q⟩
  · obtain ⟨a, us, rfl, h1, h2⟩ := r1.seqL W h
    exact ⟨a, us, rfl, .inl ⟨h1, fun p hp => newT_ok W kq h2 hp q⟩⟩
  · obtain ⟨a, us, rfl, h1, h2⟩ := r1.seqT W h
    exact ⟨a, us, rfl, .inr ⟨h1, kq.at W r1 q⟩⟩
def bList (m : Bool) : List AV → MU → PQ → Prop := fun xs μ Q => ∃ x ys, xs = [x] ∧ (isL μ x ys ∨ isT x ys) ∧ newL m ys μ Q
theorem cd_list {m : Bool} : CallD K R (fun xs H Q => ∃ p ys, xs = [.ref p] ∧ (SqL K H p ys ∨ SqT K H p ys) ∧ ∀ l, H l = none → Q (.ref l) (upd H l (.lst ys))) (bList m) := by
  rintro A H μ vs _ Qc Q W r kq ⟨x, ys, rfl, h, q⟩
  obtain ⟨v, rfl, r1⟩ := r.one
  rcases h with h | h
  · obtain ⟨a, us, rfl, h1, h2⟩ := r1.seqL W h
    exact ⟨a, us, rfl, .inl h1, fun p hp => newL_ok W kq h2 hp q⟩
  · obtain ⟨a, us, rfl, h1, h2⟩ := r1.seqT W h
    exact ⟨a, us, rfl, .inr h1, fun p hp => newL_ok W kq h2 hp q⟩
/-! methods of lists that may change -/
def wAppend (wo : WE') (wa : WA') : WE' := fun l μ Q X => wo l μ (fun x μ1 => ∃ a xs, x = .ref a ∧ μ1 a = some (.lst xs) ∧ wa l μ1 (fun ys μ2 => ∃ y xs', ys = [y] ∧ μ2 a = some (.lst xs') ∧ xs'.length < 100000 ∧ Q (.dat true .none) (updM μ2 a (.lst (xs' ++ [y])))) X) X
theorem d_append {to : TE} {ta : TA} {wo : WE'} {wa : WA'} (ho : DE K R Wc to wo) (ha : DA K R Wc ta wa) : DE K R Wc (tBM K "list" rAppend to ta) (wAppend wo wa) := ⟨fun A H μ σ l Qc Q X W L kq kx h =>
  ho.run A H μ σ l _ _ X W L (fun A1 H1 μ1 x ax s1 W1 r1 ⟨a, xs, e, hm, q1⟩ => by
    subst e
    cases (show x = .ref a from r1)
    obtain ⟨n, hob, h1, vs, rfl, h2⟩ := W1.obs a _ hm
    refine ⟨.inl ⟨rfl, vs, SqL.of h1⟩, ha.run A1 H1 μ1 σ l _ _ X W1 (L.mono s1.grow) (fun A2 H2 μ2 ys ays s2 W2 r2 ⟨y, xs', e2, hm2, hl, q2⟩ => ?_) (kx.go s1) q1⟩
    subst e2
    obtain ⟨u, rfl, ru⟩ := r2.one
    obtain ⟨n2, hob2, h3, vs2, rfl, h4⟩ := W2.obs a _ hm2
    obtain ⟨W3, s3⟩ := W2.mut hm2 (ho := .lst (vs2 ++ [u])) (o := .lst (xs' ++ [y])) ⟨_, rfl, h4.app (.cons ru .nil)⟩
    exact ⟨a, vs2, u, rfl, rfl, h3, sz_lt (by rw [h4.length]; exact hl), ((kq.go s1).go (s2.trans s3)).n W3 q2⟩) kx h⟩
/-! ### slices -/
def wNoPart : WO' := fun _ μ Q _ => Q none μ
def wPart (we : WE') : WO' := fun l μ Q X => we l μ (fun x μ1 => ∃ i, isI x i ∧ Q (some i) μ1) X
theorem d_noPart : DO K R Wc tNoPart wNoPart := ⟨fun A H μ σ l Qc Q X W L kq kx h => kq _ _ _ _ Stp.refl W h⟩
theorem d_part {te : TE} {we : WE'} (h : DE K R Wc te we) : DO K R Wc (tPart te) (wPart we) := ⟨fun A H μ σ l Qc Q X W L kq kx q =>
  h.run A H μ σ l _ _ X W L (fun A1 H1 μ1 x ax s1 W1 r1 ⟨i, hi, q1⟩ => ⟨i, r1.i hi, kq _ _ _ _ s1 W1 q1⟩) kx q⟩
def cutA (xs : List AV) (lo hi : Option Int) : List AV := (xs.drop (HT.sIx xs.length 0 lo)).take (HT.sIx xs.length xs.length hi - HT.sIx xs.length 0 lo)
theorem RVs.take {vs : List V} {xs : List AV} (r : RVs K A vs xs) : ∀ n : Nat, RVs K A (vs.take n) (xs.take n) := by
  induction r with
  | nil => intro n; cases n <;> exact .nil
  | cons h r ih => intro n; cases n with
    | zero => exact .nil
    | succ n => exact .cons h (ih n)
theorem RVs.drop {vs : List V} {xs : List AV} (r : RVs K A vs xs) : ∀ n : Nat, RVs K A (vs.drop n) (xs.drop n) := by
  induction r with
  | nil => intro n; cases n <;> exact .nil
  | cons h r ih => intro n; cases n with
    | zero => exact .cons h r
    | succ n => exact ih n
theorem RVs.cut {vs : List V} {xs : List AV} (r : RVs K A vs xs) (lo hi : Option Int) : RVs K A (cutV vs lo hi) (cutA xs lo hi) := by
  unfold cutV cutA
  rw [r.length]
  exact (r.drop _).take _
theorem RVs.rev {vs : List V} {xs : List AV} (r : RVs K A vs xs) : RVs K A vs.reverse xs.reverse := by
  induction r with
  | nil => exact .nil
  | cons h r ih => rw [List.reverse_cons, List.reverse_cons]; exact ih.app (.cons h .nil)
theorem cutA_from (xs : List AV) (a : Nat) : cutA xs (some (a : Int)) none = xs.drop a := by
  unfold cutA
  have h1 : HT.sIx xs.length 0 (some (a : Int)) = min a xs.length := HT.sIx_nat xs.length 0 a
  have h2 : HT.sIx xs.length xs.length none = xs.length := HT.sIx_none xs.length xs.length
  rw [h1, h2]
  by_cases h : a ≤ xs.length
  · rw [Nat.min_eq_left h]
    refine List.take_of_length_le ?_
    rw [List.length_drop]; exact Nat.le_refl _
  · have h3 : xs.length ≤ a := by omega
    rw [Nat.min_eq_right h3, Nat.sub_self, List.drop_eq_nil_of_le h3]; rfl
theorem cutA_to (xs : List AV) (b : Nat) : cutA xs none (some (b : Int)) = xs.take b := by
  unfold cutA
  have h1 : HT.sIx xs.length xs.length (some (b : Int)) = min b xs.length := HT.sIx_nat xs.length xs.length b
  have h2 : HT.sIx xs.length 0 none = 0 := HT.sIx_none xs.length 0
  rw [h1, h2, List.drop_zero, Nat.sub_zero]
  by_cases h : b ≤ xs.length
  · rw [Nat.min_eq_left h]
  · have h3 : xs.length ≤ b := by omega
    rw [Nat.min_eq_right h3, List.take_of_length_le (Nat.le_refl _), List.take_of_length_le h3]
def wSlL (m : Bool) (we : WE') (wl wh : WO') : WE' := fun l μ Q X => we l μ (fun x μ1 => wl l μ1 (fun lo μ2 => wh l μ2 (fun hi μ3 => ∃ xs, isL μ3 x xs ∧ newL m (cutA xs lo hi) μ3 Q) X) X) X
theorem d_slL {m : Bool} {te : TE} {tl th : TO} {we : WE'} {wl wh : WO'} (he : DE K R Wc te we) (hl : DO K R Wc tl wl) (hh : DO K R Wc th wh) : DE K R Wc (tSl (rSlL K) te tl th) (wSlL m we wl wh) := ⟨fun A H μ σ l Qc Q X W L kq kx h =>
  he.run A H μ σ l _ _ X W L (fun A1 H1 μ1 x ax s1 W1 r1 q1 => hl.run A1 H1 μ1 σ l _ _ X W1 (L.mono s1.grow) (fun A2 H2 μ2 lo s2 W2 q2 =>
    hh.run A2 H2 μ2 σ l _ _ X W2 (L.mono (s1.trans s2).grow) (fun A3 H3 μ3 hi s3 W3 ⟨xs, hx, q3⟩ => by
      obtain ⟨a, vs, rfl, h1, h2⟩ := (r1.mono (s2.trans s3).grow).seqL W3 hx
      exact ⟨a, vs, rfl, h1, fun p hp => newL_ok W3 (kq.go ((s1.trans s2).trans s3)) (h2.cut lo hi) hp q3⟩) (kx.go (s1.trans s2)) q2) (kx.go s1) q1) kx h⟩
def wRevL (m : Bool) (we : WE') : WE' := fun l μ Q X => we l μ (fun x μ1 => ∃ xs, isL μ1 x xs ∧ newL m xs.reverse μ1 Q) X
theorem d_revL {m : Bool} {te : TE} {we : WE'} (he : DE K R Wc te we) : DE K R Wc (tRevL K te) (wRevL m we) := ⟨fun A H μ σ l Qc Q X W L kq kx h =>
  he.run A H μ σ l _ _ X W L (fun A1 H1 μ1 x ax s1 W1 r1 ⟨xs, hx, q1⟩ => by
    obtain ⟨a, vs, rfl, h1, h2⟩ := r1.seqL W1 hx
    exact ⟨a, vs, rfl, h1, fun p hp => newL_ok W1 (kq.go s1) h2.rev hp q1⟩) kx h⟩
/-! xs * n -/
def aRep (m : Bool) : AV → AV → MU → PQ → Prop := fun x y μ Q => ∃ xs k, isL μ x xs ∧ fullL x xs ∧ isI y k ∧ -(2 ^ 63) ≤ k ∧ k < 2 ^ 63 ∧ xs.length * k.toNat ≤ 100000 ∧ newL m (List.replicate k.toNat xs).flatten μ Q
theorem od_rep {m : Bool} : OpD K R rRep (aRep m) := by
  rintro A H μ x y ax ay Qc Q W rx ry kq ⟨xs, k, h1, f, hk, b1, b2, hn, q⟩
  obtain ⟨a, vs, rfl, k1, k2⟩ := rx.lstL W h1 f.1 f.2
  exact ⟨a, k, vs, rfl, ry.i hk, k1, b1, b2, sz_of (by rw [k2.length]; exact hn), fun p hp => newL_ok W kq (rep_rvs k2 _) hp q⟩
/-! x in a list or tuple of flat data -/
def flatD : PyData → Bool | .none => true | .bool _ => true | .int _ => true | .str _ => true | _ => false
def vOf : PyData → V | .none => .non | .bool b => .bl b | .int i => .int i | .str x => .str x | _ => .non
theorem Dq.flat {v : V} {d : PyData} (h : Dq K A v d) (f : flatD d = true) : v = vOf d ∧ flatV v = true := by
  cases h with
  | lst => cases f
  | tup => cases f
  | dct => cases f
  | _ => exact ⟨rfl, rfl⟩
theorem DqAll.flat : ∀ {vs : List V} {ds : List PyData}, DqAll K A vs ds → ds.all flatD = true → vs = ds.map vOf ∧ vs.all flatV = true
  | _, _, .nil, _ => ⟨rfl, rfl⟩
  | _, _, .cons h r, f => by
    have f' : (flatD _ && List.all _ flatD) = true := f
    rw [Bool.and_eq_true] at f'
    obtain ⟨a, b⟩ := h.flat f'.1
    obtain ⟨c, d⟩ := DqAll.flat r f'.2
    refine ⟨by rw [List.map_cons, ← a, ← c], ?_⟩
    show (flatV _ && List.all _ flatV) = true
    rw [b, d]; rfl
def aIn (n : Bool) : AV → AV → MU → PQ → Prop := fun x y μ Q => ∃ d ds xs, isD μ x d ∧ (isL μ y xs ∨ isT y xs) ∧ dats xs = some ds ∧ flatD d = true ∧ ds.all flatD = true ∧ Q (bAV (n ^^ inV (vOf d) (ds.map vOf))) μ
theorem od_in : OpD K R (rIn K false) (aIn false) := by
  rintro A H μ x y ax ay Qc Q W rx ry kq ⟨d, ds, xs, hd, hs, he, f1, f2, q⟩
  rw [xor_f] at q
  obtain ⟨e1, e2⟩ := (rx.data W hd).flat f1
  obtain ⟨p, vs, rfl, h1, h2⟩ : ∃ p vs, y = .ref p ∧ (SqL K H p vs ∨ SqT K H p vs) ∧ RVs K A vs xs := by
    rcases hs with hs | hs
    · obtain ⟨p, vs, e, h1, h2⟩ := ry.seqL W hs; exact ⟨p, vs, e, .inl h1, h2⟩
    · obtain ⟨p, vs, e, h1, h2⟩ := ry.seqT W hs; exact ⟨p, vs, e, .inr h1, h2⟩
  obtain ⟨e3, e4⟩ := (h2.dq he).flat f2
  refine ⟨p, vs, rfl, h1, e2, e4, ?_⟩
  rw [e1, e3]
  exact kq.b W q
theorem od_notIn : OpD K R (rIn K true) (aIn true) := by
  rintro A H μ x y ax ay Qc Q W rx ry kq ⟨d, ds, xs, hd, hs, he, f1, f2, q⟩
  rw [xor_t] at q
  obtain ⟨e1, e2⟩ := (rx.data W hd).flat f1
  obtain ⟨p, vs, rfl, h1, h2⟩ : ∃ p vs, y = .ref p ∧ (SqL K H p vs ∨ SqT K H p vs) ∧ RVs K A vs xs := by
    rcases hs with hs | hs
    · obtain ⟨p, vs, e, h1, h2⟩ := ry.seqL W hs; exact ⟨p, vs, e, .inl h1, h2⟩
    · obtain ⟨p, vs, e, h1, h2⟩ := ry.seqT W hs; exact ⟨p, vs, e, .inr h1, h2⟩
  obtain ⟨e3, e4⟩ := (h2.dq he).flat f2
  refine ⟨p, vs, rfl, h1, e2, e4, ?_⟩
  rw [e1, e3]
  exact kq.b W q
end
end Fv

/-! ### the layer of data: statements, loops, comprehensions, defs -/
namespace Fv
open PySem PySem.Spec PyProof.Rows L2
section
variable {K : PySem.W.Frag} {R : RK} {Wc : WX} {A H A1 H1 : Hp} {μ μ1 : MU} {σ : L2.St}
/-! targets -/
def wgName (i : Nat) : WG' := fun av l μ Q => Q (l.set i (some av)) μ
def wgNil : WGs' := fun avs l μ Q => avs = [] ∧ Q l μ
def wgCons (g : WG') (gs : WGs') : WGs' := fun avs l μ Q => ∃ x r, avs = x :: r ∧ g x l μ (fun l1 μ1 => gs r l1 μ1 Q)
def wgTup (n : Nat) (gs : WGs') : WG' := fun av l μ Q => ∃ xs, isT av xs ∧ xs.length = n ∧ gs xs l μ Q
theorem RL.set {l : Loc} (e : σ.length = l.length) (r : RL K A σ l) {i : Nat} {v : V} {av : AV} (h : RV K A v av) : RL K A (σ.set i (some v)) (l.set i (some av)) := by
  refine ⟨by rw [List.length_set, List.length_set, e], ?_⟩
  intro j x hx
  by_cases z : i = j
  · subst z
    by_cases hl : i < l.length
    · rw [List.getElem?_set_self hl] at hx
      obtain rfl := Option.some.inj (Option.some.inj hx)
      exact ⟨v, by rw [List.getElem?_set_self (by omega)], h⟩
    · rw [List.getElem?_eq_none (by rw [List.length_set]; omega)] at hx; cases hx
  · rw [List.getElem?_set_ne z] at hx
    rw [List.getElem?_set_ne z]
    exact r.at' j x hx
theorem dg_name {i : Nat} : DG K R (gName i) (wgName i) := ⟨fun A H μ σ l v av Qc Q W e r rv kq q =>
  kq _ _ _ _ _ Stp.refl W (by rw [List.length_set, List.length_set, e]) (r.set e rv) q⟩
theorem dgs_nil : DGs K R gNil wgNil := ⟨fun A H μ σ l vs avs Qc Q W e r rv kq ⟨h, q⟩ => by
  subst h
  cases rv
  exact ⟨rfl, kq _ _ _ _ _ Stp.refl W e r q⟩⟩
theorem dgs_cons {g : TG} {gs : TGs} {wg : WG'} {wgs : WGs'} (h : DG K R g wg) (hs : DGs K R gs wgs) : DGs K R (gCons g gs) (wgCons wg wgs) := ⟨fun A H μ σ l vs avs Qc Q W e r rv kq ⟨x, y, ex, q⟩ => by
  subst ex
  cases rv with
  | cons h1 h2 => exact ⟨_, _, rfl, h.run A H μ σ l _ x _ _ W e r h1 (fun A1 H1 μ1 σ1 l1 s1 W1 e1 r1 q1 => hs.run A1 H1 μ1 σ1 l1 _ y Qc Q W1 e1 r1 (h2.mono s1.grow) (kq.go s1) q1) q⟩⟩
theorem dg_tup {n : Nat} {gs : TGs} {wgs : WGs'} (hs : DGs K R gs wgs) : DG K R (gTup K n gs) (wgTup n wgs) := ⟨fun A H μ σ l v av Qc Q W e r rv kq ⟨xs, ht, hn, q⟩ => by
  obtain ⟨a, vs, rfl, h1, h2⟩ := rv.seqT W ht
  exact ⟨a, vs, rfl, h1, by rw [h2.length]; exact hn, hs.run A H μ σ l vs xs Qc Q W e r h2 kq q⟩⟩
/-! statements -/
def wNext : WS' := fun D l μ => D.nx l μ
def wSeq (t u : WS') : WS' := fun D l μ => t { D with nx := u D } l μ
def wDrop (we : WE') : WS' := fun D l μ => we l μ (fun _ μ1 => D.nx l μ1) (fun c μ1 => D.xc c l μ1)
def wRet (we : WE') : WS' := fun D l μ => we l μ D.rt (fun c μ1 => D.xc c l μ1)
def wRetN : WS' := fun D _ μ => D.rt (.dat true .none) μ
def wIfS (wt : WT') (t u : WS') : WS' := fun D l μ => wt l μ (fun b μ1 => if b = true then t D l μ1 else u D l μ1) (fun c μ1 => D.xc c l μ1)
def wAsg (we : WE') (wg : WG') : WS' := fun D l μ => we l μ (fun x μ1 => wg x l μ1 D.nx) (fun c μ1 => D.xc c l μ1)
def wNever : WS' := fun _ _ _ => False
def wPar (i j : Nat) (wa : WA') : WS' := fun D l μ => wa l μ (fun xs μ1 => ∃ x y, xs = [x, y] ∧ D.nx ((l.set i (some x)).set j (some y)) μ1) (fun c μ1 => D.xc c l μ1)
def wBreak : WS' := fun D l μ => D.bk l μ
def wCont : WS' := fun D l μ => D.ct l μ
def wRaise (c : Value) : WS' := fun D l μ => D.xc c l μ
theorem ds_next : DS K R Wc tNext wNext := ⟨fun A H μ σ l Dc D W e r c h => c.nx _ _ _ _ _ Stp.refl W e r h⟩
theorem ds_break : DS K R Wc tBreak wBreak := ⟨fun A H μ σ l Dc D W e r c h => c.bk _ _ _ _ _ Stp.refl W e r h⟩
theorem ds_cont : DS K R Wc tCont wCont := ⟨fun A H μ σ l Dc D W e r c h => c.ct _ _ _ _ _ Stp.refl W e r h⟩
theorem ds_seq {t u : TS} {wt wu : WS'} (ht : DS K R Wc t wt) (hu : DS K R Wc u wu) : DS K R Wc (tSeq t u) (wSeq wt wu) := ⟨fun A H μ σ l Dc D W e r c h =>
  ht.run A H μ σ l _ { D with nx := wu D } W e r ⟨fun A' H' μ' σ' l' s W' e' r' q => hu.run A' H' μ' σ' l' Dc D W' e' r' (c.go s) q, c.bk, c.ct, c.rt, c.xc⟩ h⟩
theorem ds_drop {te : TE} {we : WE'} (h : DE K R Wc te we) : DS K R Wc (tDrop te) (wDrop we) := ⟨fun A H μ σ l Dc D W e r c q =>
  h.run A H μ σ l _ _ _ W r (fun A' H' μ' v av s W' rv q1 => c.nx _ _ _ _ _ s W' e (r.mono s.grow) q1) (c.xc.lk e r) q⟩
theorem ds_ret {te : TE} {we : WE'} (h : DE K R Wc te we) : DS K R Wc (tRet te) (wRet we) := ⟨fun A H μ σ l Dc D W e r c q =>
  h.run A H μ σ l _ _ _ W r c.rt (c.xc.lk e r) q⟩
theorem ds_retN : DS K R Wc tRetN wRetN := ⟨fun A H μ σ l Dc D W e r c q => c.rt.n W q⟩
theorem ds_if {tt : TT} {t u : TS} {wt : WT'} {ws wu : WS'} (h : DT K R Wc tt wt) (ht : DS K R Wc t ws) (hu : DS K R Wc u wu) : DS K R Wc (tIfS tt t u) (wIfS wt ws wu) := ⟨fun A H μ σ l Dc D W e r c q =>
  h.run A H μ σ l _ _ _ W r (fun A' H' μ' b s W' q1 => by
    cases b with
    | true => rw [if_pos rfl] at q1 ⊢; exact ht.run A' H' μ' σ l Dc D W' e (r.mono s.grow) (c.go s) q1
    | false => rw [if_neg Bool.false_ne_true] at q1 ⊢; exact hu.run A' H' μ' σ l Dc D W' e (r.mono s.grow) (c.go s) q1) (c.xc.lk e r) q⟩
theorem ds_asg {te : TE} {we : WE'} {g : TG} {wg : WG'} (h : DE K R Wc te we) (hg : DG K R g wg) : DS K R Wc (tAsg te g) (wAsg we wg) := ⟨fun A H μ σ l Dc D W e r c q =>
  h.run A H μ σ l _ _ _ W r (fun A' H' μ' v av s W' rv q1 => hg.run A' H' μ' σ l v av _ _ W' e (r.mono s.grow) rv (c.nx.go s) q1) (c.xc.lk e r) q⟩
theorem ds_never : DS K R Wc tNever wNever := ⟨fun A H μ σ l Dc D W e r c q => q.elim⟩
theorem ds_par {i j : Nat} {ta : TA} {wa : WA'} (h : DA K R Wc ta wa) : DS K R Wc (tPar i j ta) (wPar i j wa) := ⟨fun A H μ σ l Dc D W e r c q =>
  h.run A H μ σ l _ _ _ W r (fun A' H' μ' vs avs s W' rv ⟨x, y, ex, q1⟩ => by
    subst ex
    obtain ⟨v, u, rfl, h1, h2⟩ := rv.two
    have r' := (r.mono s.grow).set (i := i) e h1
    have e' : (σ.set i (some v)).length = (l.set i (some x)).length := by rw [List.length_set, List.length_set, e]
    exact ⟨v, u, rfl, c.nx _ _ _ _ _ s W' (by rw [List.length_set, List.length_set, List.length_set, List.length_set, e]) (r'.set (i := j) e' h2) q1⟩) (c.xc.lk e r) q⟩
theorem ds_raise {C : Addr} : DS K R Wc (fun _ σ H => Wc (.ref C) none σ H) (wRaise (.ref C)) := ⟨fun A H μ σ l Dc D W e r c q => c.xc _ _ _ _ _ _ Stp.refl W e r q⟩
/-- x += e, of an int -/
def wAug (i : Nat) (we : WE') (rd : AV → AV → MU → PQ → Prop) : WS' := fun D l μ => ∃ x, l[i]? = some (some x) ∧ we l μ (fun y μ1 => rd x y μ1 (fun z μ2 => D.nx (l.set i (some z)) μ2)) (fun c μ1 => D.xc c l μ1)
theorem ds_aug {i : Nat} {te : TE} {ti : TIp} {we : WE'} {rd : AV → AV → MU → PQ → Prop} (h : DE K R Wc te we) (ho : OpD K R ti rd) : DS K R Wc (tAug i te ti) (wAug i we rd) := ⟨fun A H μ σ l Dc D W e r c ⟨x, hx, q⟩ => by
  obtain ⟨v, hv, rv⟩ := r.at' i x hx
  exact ⟨v, hv, h.run A H μ σ l _ _ _ W r (fun A' H' μ' u au s W' ru q1 => ho A' H' μ' v u x au _ _ W' (rv.mono s.grow) ru (fun A2 H2 μ2 z az s2 W2 rz q2 =>
    c.nx _ _ _ _ _ (s.trans s2) W2 (by rw [List.length_set, List.length_set, e]) ((r.mono (s.trans s2).grow).set e rz) q2) q1) (c.xc.lk e r) q⟩⟩
/-! ### for -/
def DEnds.turn (D : DEnds) (I : Loc → MU → Prop) : DEnds := { D with nx := I, ct := I, bk := D.nx }
/-- the turns over these items -/
def wTurns (xs : List AV) (wg : WG') (wb : WS') : WS' := fun D l μ => ∃ Inv : Nat → Loc → MU → Prop, Inv 0 l μ ∧ (∀ i x l' μ', xs[i]? = some x → Inv i l' μ' → wg x l' μ' (fun l2 μ2 => wb (D.turn (Inv (i + 1))) l2 μ2)) ∧ ∀ l' μ', Inv xs.length l' μ' → D.nx l' μ'
/-- data that are gone over -/
def overL (av : AV) (xs : List AV) : Prop := ∃ k ds, av = .dat k (.list ds) ∧ xs = ds.map (AV.dat k)
def overT (av : AV) (xs : List AV) : Prop := ∃ k ds, av = .dat k (.tuple ds) ∧ xs = ds.map (AV.dat k)
theorem overL.at {v : V} {av : AV} {xs : List AV} (r : RV K A v av) (h : overL av xs) : ∃ a vs, v = .ref a ∧ SqL K A a vs ∧ RVs K A vs xs := by
  obtain ⟨k, ds, rfl, rfl⟩ := h
  cases k with
  | true => obtain ⟨a, vs, rfl, h1, h2⟩ := Tr.inv_lst r; exact ⟨a, vs, rfl, SqL.of h1, RVs.of_tr h2⟩
  | false => obtain ⟨a, vs, rfl, h1, h2⟩ := Dq.inv_lst r; exact ⟨a, vs, rfl, h1, RVs.of_dq h2⟩
theorem overT.at {v : V} {av : AV} {xs : List AV} (r : RV K A v av) (h : overT av xs) : ∃ a vs, v = .ref a ∧ SqT K A a vs ∧ RVs K A vs xs := by
  obtain ⟨k, ds, rfl, rfl⟩ := h
  cases k with
  | true => obtain ⟨a, vs, rfl, h1, h2⟩ := Tr.inv_tup r; exact ⟨a, vs, rfl, SqT.of h1, RVs.of_tr h2⟩
  | false => obtain ⟨a, vs, rfl, h1, h2⟩ := Dq.inv_tup r; exact ⟨a, vs, rfl, h1, RVs.of_dq h2⟩
/-- what stands between the turns, of the heap -/
def PvOf (K : PySem.W.Frag) (R : RK) (A H : Hp) (μ : MU) (Inv : Nat → Loc → MU → Prop) (i : Nat) (σ : L2.St) (Hc : Hp) : Prop :=
  ∃ A' μ' l', Stp A H μ A' Hc μ' ∧ WW K R A' Hc μ' ∧ σ.length = l'.length ∧ RL K A' σ l' ∧ Inv i l' μ'
theorem turn_ok {xs : List AV} {vs : List V} {g : TG} {wg : WG'} {tb : TS} {wb : WS'} {Dc : Ends} {D : DEnds} {Inv : Nat → Loc → MU → Prop} (hg : DG K R g wg) (hb : DS K R Wc tb wb) (c : Cn K R Wc A H μ Dc D) (rv : RVs K A vs xs)
    (step : ∀ i x l' μ', xs[i]? = some x → Inv i l' μ' → wg x l' μ' (fun l2 μ2 => wb (D.turn (Inv (i + 1))) l2 μ2)) {i : Nat} {x : V} {ax : AV} {σ : L2.St} {Hc : Hp} (hx : xs[i]? = some ax) (rx : RV K A x ax) (p : PvOf K R A H μ Inv i σ Hc) :
    g x σ Hc fun σ2 H2 => tb { Dc with nx := PvOf K R A H μ Inv (i + 1), ct := PvOf K R A H μ Inv (i + 1), bk := Dc.nx } σ2 H2 := by
  obtain ⟨A', μ', l', s, W, e, r, iv⟩ := p
  refine hg.run A' Hc μ' σ l' x ax _ _ W e r (rx.mono s.grow) (fun A2 H2 μ2 σ2 l2 s2 W2 e2 r2 q => ?_) (step i ax l' μ' hx iv)
  have g2 := s.trans s2
  have nx : LS K R A2 H2 μ2 (PvOf K R A H μ Inv (i + 1)) (Inv (i + 1)) := fun A3 H3 μ3 σ3 l3 s3 W3 e3 r3 q3 => ⟨A3, μ3, l3, g2.trans s3, W3, e3, r3, q3⟩
  exact hb.run A2 H2 μ2 σ2 l2 _ (D.turn (Inv (i + 1))) W2 e2 r2 ⟨nx, c.nx.go g2, nx, c.rt.go g2, c.xc.go g2⟩ q
def wForL (wl : WE') (wg : WG') (wb : WS') : WS' := fun D l μ => wl l μ (fun x μ1 => ∃ xs, overL x xs ∧ wTurns xs wg wb D l μ1) (fun c μ1 => D.xc c l μ1)
def wForT (wl : WE') (wg : WG') (wb : WS') : WS' := fun D l μ => wl l μ (fun x μ1 => ∃ xs, overT x xs ∧ wTurns xs wg wb D l μ1) (fun c μ1 => D.xc c l μ1)
theorem ds_forL {tl : TE} {wl : WE'} {g : TG} {wg : WG'} {tb : TS} {wb : WS'} (hl : DE K R Wc tl wl) (hg : DG K R g wg) (hb : DS K R Wc tb wb) : DS K R Wc (tFor (iList K tl) g tb) (wForL wl wg wb) := ⟨fun A H μ σ l Dc D W e r c q =>
  hl.run A H μ σ l _ _ _ W r (fun A1 H1 μ1 v av s1 W1 rv ⟨xs, ho, hti⟩ => by
    obtain ⟨Inv, i0, step, fin⟩ := hti
    obtain ⟨a, vs, rfl, h1, h2⟩ := ho.at rv
    have c1 := c.go s1
    refine ⟨a, rfl, ⟨vs, W1.sub.seq h1⟩, for_list (K := K) (a := a) (xs := vs) (PvOf K R A1 H1 μ1 Inv) ⟨A1, μ1, l, Stp.refl, W1, e, r.mono s1.grow, i0⟩ (fun i σ' H' _ ⟨A', μ', l', s, W', _⟩ => (s.grow.trans W'.sub).seq h1) (fun i x σ' H' hx p => ?_) (fun σ' H' ⟨A', μ', l', s, W', e', r', iv⟩ => ?_)⟩
    · have hi : i < xs.length := by rw [← h2.length]; exact (List.getElem?_eq_some_iff.mp hx).1
      obtain ⟨x', hx', rx⟩ := h2.of (List.getElem?_eq_getElem hi)
      obtain rfl := Option.some.inj (hx.symm.trans hx')
      exact turn_ok hg hb c1 h2 step (List.getElem?_eq_getElem hi) rx p
    · rw [h2.length] at iv
      exact c1.nx _ _ _ _ _ s W' e' r' (fin l' μ' iv)) (c.xc.lk e r) q⟩
theorem ds_forT {tl : TE} {wl : WE'} {g : TG} {wg : WG'} {tb : TS} {wb : WS'} (hl : DE K R Wc tl wl) (hg : DG K R g wg) (hb : DS K R Wc tb wb) : DS K R Wc (tFor (iTup K tl) g tb) (wForT wl wg wb) := ⟨fun A H μ σ l Dc D W e r c q =>
  hl.run A H μ σ l _ _ _ W r (fun A1 H1 μ1 v av s1 W1 rv ⟨xs, ho, hti⟩ => by
    obtain ⟨Inv, i0, step, fin⟩ := hti
    obtain ⟨a, vs, rfl, h1, h2⟩ := ho.at rv
    have c1 := c.go s1
    refine ⟨a, rfl, ⟨vs, sqt_same W1.sub h1⟩, for_tup (K := K) (a := a) (xs := vs) (PvOf K R A1 H1 μ1 Inv) ⟨A1, μ1, l, Stp.refl, W1, e, r.mono s1.grow, i0⟩ (fun i σ' H' _ ⟨A', μ', l', s, W', _⟩ => sqt_same (s.grow.trans W'.sub) h1) (fun i x σ' H' hx p => ?_) (fun σ' H' ⟨A', μ', l', s, W', e', r', iv⟩ => ?_)⟩
    · have hi : i < xs.length := by rw [← h2.length]; exact (List.getElem?_eq_some_iff.mp hx).1
      obtain ⟨x', hx', rx⟩ := h2.of (List.getElem?_eq_getElem hi)
      obtain rfl := Option.some.inj (hx.symm.trans hx')
      exact turn_ok hg hb c1 h2 step (List.getElem?_eq_getElem hi) rx p
    · rw [h2.length] at iv
      exact c1.nx _ _ _ _ _ s W' e' r' (fin l' μ' iv)) (c.xc.lk e r) q⟩
/-- for over range(n), range(a, b) -/
def wCount (lo : Int) (n : Nat) (wg : WG') (wb : WS') : WS' := fun D l μ => ∃ Inv : Nat → Loc → MU → Prop, Inv 0 l μ ∧ (∀ i l' μ', i < n → Inv i l' μ' → wg (iAV (lo + i)) l' μ' (fun l2 μ2 => wb (D.turn (Inv (i + 1))) l2 μ2)) ∧ ∀ l' μ', Inv n l' μ' → D.nx l' μ'
def wForR1 (wa : WA') (wg : WG') (wb : WS') : WS' := fun D l μ => wa l μ (fun xs μ1 => ∃ x j, xs = [x] ∧ isI x j ∧ -(2 ^ 62) ≤ j ∧ j < 2 ^ 62 ∧ wCount 0 j.toNat wg wb D l μ1) (fun c μ1 => D.xc c l μ1)
def wForR2 (wa : WA') (wg : WG') (wb : WS') : WS' := fun D l μ => wa l μ (fun xs μ1 => ∃ x y i j, xs = [x, y] ∧ isI x i ∧ isI y j ∧ (-(2 ^ 62) ≤ i ∧ i < 2 ^ 62 ∧ -(2 ^ 62) ≤ j ∧ j < 2 ^ 62) ∧ wCount i (j - i).toNat wg wb D l μ1) (fun c μ1 => D.xc c l μ1)
theorem count_ok {lo : Int} {n : Nat} {l : Loc} {g : TG} {wg : WG'} {tb : TS} {wb : WS'} {Dc : Ends} {D : DEnds} (hg : DG K R g wg) (hb : DS K R Wc tb wb) (W : WW K R A H μ) (e : σ.length = l.length) (r : RL K A σ l) (c : Cn K R Wc A H μ Dc D) (h : wCount lo n wg wb D l μ) :
    ∃ W : Nat → Nat → L2.St → Hp → Prop, (∃ m, W 0 m σ H) ∧ ∀ i m σ H, W i m σ H →
      ((Itr lo n).stop i H ∧ Dc.nx σ H) ∨ ((Itr lo n).go i H ∧ ∃ N : L2.St → Hp → Prop, (∀ σ' H', N σ' H' → ∃ m', m' < m ∧ W (i + 1) m' σ' H') ∧ ∀ x H', (Itr lo n).yld i H x H' → g x σ H' fun σ2 H2 => tb { Dc with nx := N, ct := N, bk := Dc.nx } σ2 H2) := by
  obtain ⟨Inv, i0, step, fin⟩ := h
  refine for_range (PvOf K R A H μ Inv) ⟨A, μ, l, Stp.refl, W, e, r, i0⟩ (fun i σ' H' hi p => ?_) (fun σ' H' ⟨A', μ', l', s, W', e', r', iv⟩ => c.nx _ _ _ _ _ s W' e' r' (fin l' μ' iv))
  have step' : ∀ j x l' μ', ((List.range n).map fun (k : Nat) => iAV (lo + k))[j]? = some x → Inv j l' μ' → wg x l' μ' (fun l2 μ2 => wb (D.turn (Inv (j + 1))) l2 μ2) := fun j x l' μ' hx iv => by
    rw [List.getElem?_map] at hx
    obtain ⟨k, hk, rfl⟩ := Option.map_eq_some_iff.mp hx
    obtain ⟨hj, rfl⟩ := List.getElem?_eq_some_iff.mp hk
    rw [List.length_range] at hj
    rw [List.getElem_range]
    exact step j l' μ' hj iv
  have rvs : RVs K A ((List.range n).map fun (k : Nat) => V.int (lo + k)) ((List.range n).map fun (k : Nat) => iAV (lo + k)) := by
    generalize List.range n = L
    induction L with
    | nil => exact .nil
    | cons a L ih => exact .cons (Tr.int _) ih
  exact turn_ok hg hb c rvs step' (by rw [List.getElem?_map, List.getElem?_range hi]; rfl) (show RV K A (.int (lo + i)) (iAV (lo + i)) from Tr.int _) p
theorem ds_forR1 {ta : TA} {wa : WA'} {g : TG} {wg : WG'} {tb : TS} {wb : WS'} (ha : DA K R Wc ta wa) (hg : DG K R g wg) (hb : DS K R Wc tb wb) : DS K R Wc (tFor (iRng1 ta) g tb) (wForR1 wa wg wb) := ⟨fun A H μ σ l Dc D W e r c q =>
  ha.run A H μ σ l _ _ _ W r (fun A1 H1 μ1 vs avs s1 W1 rv ⟨x, j, ex, hj, b1, b2, h⟩ => by
    subst ex
    obtain ⟨v, rfl, r1⟩ := rv.one
    exact ⟨j, by rw [r1.i hj], b1, b2, count_ok hg hb W1 e (r.mono s1.grow) (c.go s1) h⟩) (c.xc.lk e r) q⟩
theorem ds_forR2 {ta : TA} {wa : WA'} {g : TG} {wg : WG'} {tb : TS} {wb : WS'} (ha : DA K R Wc ta wa) (hg : DG K R g wg) (hb : DS K R Wc tb wb) : DS K R Wc (tFor (iRng2 ta) g tb) (wForR2 wa wg wb) := ⟨fun A H μ σ l Dc D W e r c q =>
  ha.run A H μ σ l _ _ _ W r (fun A1 H1 μ1 vs avs s1 W1 rv ⟨x, y, i, j, ex, hi, hj, b, h⟩ => by
    subst ex
    obtain ⟨v, u, rfl, r1, r2⟩ := rv.two
    exact ⟨i, j, by rw [r1.i hi, r2.i hj], b, count_ok hg hb W1 e (r.mono s1.grow) (c.go s1) h⟩) (c.xc.lk e r) q⟩
/-! ### comprehensions: what their items do leaves what is spoken of as it is -/
def wipeA (l : Loc) : List Nat → Loc
  | [] => l
  | v :: vs => (wipeA l vs).set v none
theorem wipeA_length (l : Loc) : ∀ vs, (wipeA l vs).length = l.length
  | [] => rfl
  | v :: vs => by rw [wipeA, List.length_set, wipeA_length l vs]
theorem RL.wipe {l : Loc} (e : σ.length = l.length) (r : RL K A σ l) : ∀ vs, RL K A (wipe σ vs) (wipeA l vs)
  | [] => r
  | v :: vs => by
    have ih := RL.wipe e r vs
    refine ⟨by rw [L2.wipe, wipeA, List.length_set, List.length_set, wipe_length, wipeA_length, e], ?_⟩
    intro j x hx
    by_cases z : v = j
    · subst z
      by_cases hl : v < (wipeA l vs).length
      · rw [wipeA, List.getElem?_set_self hl] at hx; cases hx
      · rw [List.getElem?_eq_none (by rw [wipeA, List.length_set]; omega)] at hx; cases hx
    · rw [wipeA, List.getElem?_set_ne z] at hx
      obtain ⟨u, h1, h2⟩ := ih.at' j x hx
      exact ⟨u, by rw [L2.wipe, List.getElem?_set_ne z]; exact h1, h2⟩
/-- one item's turn: what may come of it (none: it is left out) -/
def lcItem (wg : WG') (wt : WT') (we : WE') (vs : List Nat) (l : Loc) (μ : MU) (x : AV) (rel : Option (Bool × PyData) → Prop) : Prop :=
  wg x (wipeA l vs) μ (fun l2 μ1 => μ1 = μ ∧ wt l2 μ (fun b μ2 => μ2 = μ ∧ if b = true then we l2 μ (fun y μ3 => μ3 = μ ∧ ∃ k d, y = .dat k d ∧ rel (some (k, d))) noX else rel none) noX)
/-- what is told of a comprehension over these items: a list of what may come of each -/
def lcAll (m : Bool) (wg : WG') (wt : WT') (we : WE') (vs : List Nat) (l : Loc) (μ : MU) (xs : List AV) (Q : PQ) : Prop :=
  xs.length < 100000 ∧ ∃ rel : Nat → Option (Bool × PyData) → Prop, (∀ i x, xs[i]? = some x → lcItem wg wt we vs l μ x (rel i)) ∧
    ∀ zs : List (Option (Bool × PyData)), zs.length = xs.length → (∀ i z, zs[i]? = some z → rel i z) → newL m (zs.filterMap fun z => z.map fun p => AV.dat p.1 p.2) μ Q
/-- the target names its own variables only -/
def OwnT (g : TG) (vs : List Nat) : Prop := ∀ v σ H Q, g v σ H Q → g v σ H fun σ2 H2 => wipe σ2 vs = wipe σ vs ∧ Q σ2 H2
theorem wipe_set_mem : ∀ (vs : List Nat) (σ : L2.St) (i : Nat) (x : Option V), i ∈ vs → wipe (σ.set i x) vs = wipe σ vs
  | v :: vs, σ, i, x, h => by
    rw [L2.wipe, L2.wipe]
    by_cases z : i ∈ vs
    · rw [wipe_set_mem vs σ i x z]
    · have e : i = v := by
        rcases List.mem_cons.mp h with h | h
        · exact h
        · exact absurd h z
      subst e
      have key : ∀ (ws : List Nat) (τ : L2.St), (wipe (τ.set i x) ws).set i none = (wipe τ ws).set i none := by
        intro ws τ
        induction ws with
        | nil => rw [L2.wipe, L2.wipe, List.set_set]
        | cons w ws ih =>
          rw [L2.wipe, L2.wipe]
          by_cases q : w = i
          · subst q; rw [ih]
          · rw [List.set_comm _ _ q, List.set_comm _ _ q, ih]
      exact key vs σ
theorem ownT_name {i : Nat} {vs : List Nat} (h : i ∈ vs) : OwnT (gName i) vs := fun v σ H Q q => ⟨wipe_set_mem vs σ i _ h, q⟩
def OwnTs (g : TGs) (vs : List Nat) : Prop := ∀ us σ H Q, g us σ H Q → g us σ H fun σ2 H2 => wipe σ2 vs = wipe σ vs ∧ Q σ2 H2
theorem ownTs_nil {vs : List Nat} : OwnTs gNil vs := fun us σ H Q ⟨e, q⟩ => ⟨e, rfl, q⟩
theorem ownTs_name {i : Nat} {g : TGs} {vs : List Nat} (h : i ∈ vs) (hs : OwnTs g vs) : OwnTs (gCons (gName i) g) vs := fun us σ H Q ⟨v, r, e, q⟩ => ⟨v, r, e, by
  have q2 := hs r (σ.set i (some v)) H Q q
  have e3 := wipe_set_mem vs σ i (some v) h
  show g r (σ.set i (some v)) H _
  rw [e3] at q2
  exact q2⟩
theorem ownT_tup {n : Nat} {g : TGs} {vs : List Nat} (hs : OwnTs g vs) : OwnT (gTup K n g) vs := fun v σ H Q ⟨a, xs, e, h1, h2, q⟩ => ⟨a, xs, e, h1, h2, hs xs σ H Q q⟩
/-- behind i turns -/
def LcPv (K : PySem.W.Frag) (R : RK) (A H : Hp) (μ : MU) (D : Addr) (rel : Nat → Option (Bool × PyData) → Prop) (i : Nat) (Hc : Hp) : Prop :=
  ∃ (A' : Hp) (acc : List V) (zs : List (Option (Bool × PyData))), Stp A H μ A' Hc μ ∧ WW K R A' Hc μ ∧ A' D = none ∧ Hc D = some (.lst acc) ∧ zs.length = i ∧ (∀ j z, zs[j]? = some z → rel j z) ∧ RVs K A' acc (zs.filterMap fun z => z.map fun p => AV.dat p.1 p.2)
theorem lc_start {D : Addr} {rel : Nat → Option (Bool × PyData) → Prop} (W : WW K R A H μ) (hD : H D = none) : LcPv K R A H μ D rel 0 (upd H D (.lst [])) := by
  obtain ⟨W1, s1⟩ := W.own (p := D) (ho := .lst []) (o := .lst []) hD ⟨[], rfl, .nil⟩
  have n := W.free hD
  have lt : ∀ a o, μ a = some o → updM μ D (.lst []) a = some o := fun a o h => by
    rw [updM_ne (fun z => by rw [z, n.1] at h; cases h)]; exact h
  exact ⟨A, [], [], s1.less lt, W1.less lt, n.2, upd_same, rfl, fun j z h => by simp at h, .nil⟩
theorem filterMap_le {α β : Type} (f : α → Option β) : ∀ l : List α, (l.filterMap f).length ≤ l.length
  | [] => Nat.le_refl _
  | a :: l => by
    rw [List.filterMap_cons]
    have := filterMap_le f l
    split
    · rw [List.length_cons]; omega
    · rw [List.length_cons, List.length_cons]; omega
theorem wipe_wipe (vs : List Nat) : wipe (wipe σ vs) vs = wipe σ vs := by
  have : ∀ (ws : List Nat), (∀ w ∈ ws, w ∈ vs) → wipe (wipe σ ws) vs = wipe σ vs := by
    intro ws
    induction ws with
    | nil => intro _; rfl
    | cons w ws ih => intro h; rw [L2.wipe.eq_2 σ w ws, wipe_set_mem vs _ w none (h w List.mem_cons_self)]; exact ih fun z hz => h z (List.mem_cons_of_mem _ hz)
  exact this vs fun _ h => h
theorem WW.priv {D : Addr} {o : HO} (W : WW K R A H μ) (nμ : μ D = none) (nA : A D = none) : WW K R A (upd H D o) μ :=
  ⟨fun b x e => by rw [upd_ne (ne_of_none e nA)]; exact W.sub b x e, fun a u e => by
    obtain ⟨h1, ho, h2, h3⟩ := W.obs a u e
    exact ⟨h1, ho, by rw [upd_ne (fun z => by rw [z, nμ] at e; cases e)]; exact h2, h3⟩⟩
theorem Stp.priv {D : Addr} {o : HO} (s : Stp A H μ A1 H1 μ1) (hD : H D = none) : Stp A H μ A1 (upd H1 D o) μ1 :=
  ⟨s.grow, fun a h1 h2 => by rw [upd_ne (fun z => h1 (by rw [z]; exact hD))]; exact s.frame a h1 h2, fun a h => by rw [upd_ne (fun z => h (by rw [z]; exact hD))]; exact s.live a h, s.new, s.only⟩
theorem lc_turn {D : Addr} {rel : Nat → Option (Bool × PyData) → Prop} {l : Loc} {g : TG} {tt : TT} {te : TE} {wg : WG'} {wt : WT'} {we : WE'} {vs : List Nat} (hg : DG K R g wg) (ht : DT K R (fun _ _ _ _ => False) tt wt) (he : DE K R (fun _ _ _ _ => False) te we) (ow : OwnT g vs)
    (W0 : WW K R A H μ) (e : σ.length = l.length) (r : RL K A σ l) {i : Nat} {x : V} {ax : AV} {Hc : Hp} (hi : i < 100000) (hD : H D = none) (rx : RV K A x ax) (item : lcItem wg wt we vs l μ ax (rel i)) (p : LcPv K R A H μ D rel i Hc) :
    g x (wipe σ vs) Hc fun σ2 H2 => wipe σ2 vs = wipe σ vs ∧ tt σ2 H2 fun b H3 => if b = true then te σ2 H3 fun y H4 => ∃ acc, H4 D = some (.lst acc) ∧ acc.length < sizeLine ∧ LcPv K R A H μ D rel (i + 1) (upd H4 D (.lst (acc ++ [y]))) else LcPv K R A H μ D rel (i + 1) H3 := by
  obtain ⟨A', acc, zs, s, W, nA, eD, hz, hrel, racc⟩ := p
  have hacc : acc.length ≤ i := by rw [racc.length, ← hz]; exact filterMap_le _ _
  have nμ : μ D = none := (W0.free hD).1
  have more : ∀ z, rel i z → ∀ j y, (zs ++ [z])[j]? = some y → rel j y := fun z hzz j y hj => by
    by_cases q : j < i
    · rw [List.getElem?_append_left (by omega)] at hj; exact hrel j y hj
    · have hj2 := (List.getElem?_eq_some_iff.mp hj).1
      rw [List.length_append, hz] at hj2
      have : j = i := by have : [z].length = 1 := rfl; omega
      subst this
      rw [List.getElem?_append_right (by omega), hz, Nat.sub_self] at hj
      obtain rfl := Option.some.inj hj
      exact hzz
  have stay : ∀ {A2 H2 : Hp}, Stp A' Hc μ A2 H2 μ → H2 D = some (.lst acc) ∧ A2 D = none := fun {A2 H2} s2 => by
    have n : Hc D ≠ none := by rw [eD]; simp
    refine ⟨by rw [s2.frame D n nμ, eD], ?_⟩
    cases q : A2 D with
    | none => rfl
    | some o =>
      rcases s2.new D nA (by rw [q]; simp) with h | h
      · exact absurd h n
      · exact absurd nμ h
  have h1 : g x (wipe σ vs) Hc fun σ2 H2 => tt σ2 H2 fun b H3 => if b = true then te σ2 H3 fun y H4 => ∃ acc, H4 D = some (.lst acc) ∧ acc.length < sizeLine ∧ LcPv K R A H μ D rel (i + 1) (upd H4 D (.lst (acc ++ [y]))) else LcPv K R A H μ D rel (i + 1) H3 := by
    refine hg.run A' Hc μ (wipe σ vs) (wipeA l vs) x ax _ _ W (by rw [wipe_length, wipeA_length, e]) ((r.wipe e vs).mono s.grow) (rx.mono s.grow) (fun A2 H2 μ2 σ2 l2 s2 W2 e2 r2 ⟨em, q⟩ => ?_) item
    subst em
    refine ht.run A2 H2 μ2 σ2 l2 _ _ noX W2 r2 (fun A3 H3 μ3 b s3 W3 ⟨em, q3⟩ => ?_) (fun _ _ _ _ _ _ z => z.elim) q
    subst em
    cases b with
    | false =>
      rw [if_neg Bool.false_ne_true] at q3 ⊢
      have s23 := s2.trans s3
      obtain ⟨k1, k2⟩ := stay s23
      exact ⟨A3, acc, zs ++ [none], s.trans s23, W3, k2, k1, by rw [List.length_append, hz]; rfl, more _ q3, by
        rw [List.filterMap_append]
        show RVs K A3 acc (_ ++ [])
        rw [List.append_nil]
        exact racc.mono s23.grow⟩
    | true =>
      rw [if_pos rfl] at q3 ⊢
      refine he.run A3 H3 μ3 σ2 l2 _ _ noX W3 (r2.mono s3.grow) (fun A4 H4 μ4 y ay s4 W4 ry ⟨em, k, d, ey, hr⟩ => ?_) (fun _ _ _ _ _ _ z => z.elim) q3
      subst em ey
      have s24 := (s2.trans s3).trans s4
      obtain ⟨k1, k2⟩ := stay s24
      refine ⟨acc, k1, sz_lt (by omega), A4, acc ++ [y], zs ++ [some (k, d)], (s.trans s24).priv hD, W4.priv nμ k2, k2, upd_same, by rw [List.length_append, hz]; rfl, more _ hr, ?_⟩
      rw [List.filterMap_append]
      exact (racc.mono s24.grow).app (.cons ry .nil)
  have h2 := ow _ _ _ _ h1
  rw [wipe_wipe] at h2
  exact h2
theorem lc_end {m : Bool} {D : Addr} {rel : Nat → Option (Bool × PyData) → Prop} {n : Nat} {Qc : VK} {Q : PQ} {Hc : Hp} (W0 : WW K R A H μ) (hD : H D = none) (kq : LQ K R A H μ Qc Q)
    (fin : ∀ zs : List (Option (Bool × PyData)), zs.length = n → (∀ i z, zs[i]? = some z → rel i z) → newL m (zs.filterMap fun z => z.map fun p => AV.dat p.1 p.2) μ Q) (p : LcPv K R A H μ D rel n Hc) : Qc (.ref D) Hc := by
  obtain ⟨A', acc, zs, s, W, nA, eD, hz, hrel, racc⟩ := p
  have nμ : μ D = none := (W0.free hD).1
  have q := fin zs hz hrel
  -- it stands there as one that may change
  have W1 : WW K R A' Hc (updM μ D (.lst (zs.filterMap fun z => z.map fun p => AV.dat p.1 p.2))) := ⟨W.sub, fun a o h => by
    by_cases z : a = D
    · subst z
      rw [updM_same] at h
      obtain rfl := Option.some.inj h
      exact ⟨nA, _, eD, acc, rfl, racc⟩
    · rw [updM_ne z] at h; exact W.obs a o h⟩
  have s1 : Stp A H μ A' Hc (updM μ D (.lst (zs.filterMap fun z => z.map fun p => AV.dat p.1 p.2))) := ⟨s.grow, s.frame, s.live, s.new, fun a h1 h2 => by
    by_cases z : a = D
    · exact absurd hD (by rw [← z]; exact h2)
    · rw [updM_ne z] at h1; exact h1⟩
  cases m with
  | true => exact kq _ _ _ _ (.ref D) s1 W1 rfl (q D nμ)
  | false =>
    refine frz_ok W1 (kq.go s1) (show RV K A' (.ref D) (.ref D) from rfl) updM_same ?_
    rw [delM_updM nμ]
    exact q
def wLcL (m : Bool) (wl : WE') (wg : WG') (wt : WT') (we : WE') (vs : List Nat) : WE' := fun l μ Q X => wl l μ (fun x μ1 => ∃ xs, overL x xs ∧ lcAll m wg wt we vs l μ1 xs Q) X
def wLcT (m : Bool) (wl : WE') (wg : WG') (wt : WT') (we : WE') (vs : List Nat) : WE' := fun l μ Q X => wl l μ (fun x μ1 => ∃ xs, overT x xs ∧ lcAll m wg wt we vs l μ1 xs Q) X
theorem d_lcL {m : Bool} {tl : TE} {wl : WE'} {g : TG} {tt : TT} {te : TE} {wg : WG'} {wt : WT'} {we : WE'} {vs : List Nat} (hl : DE K R Wc tl wl) (hg : DG K R g wg) (ht : DT K R (fun _ _ _ _ => False) tt wt) (he : DE K R (fun _ _ _ _ => False) te we) (ow : OwnT g vs) :
    DE K R Wc (tLc (iList K tl) g tt te vs) (wLcL m wl wg wt we vs) := ⟨fun A H μ σ l Qc Q X W L kq kx q =>
  hl.run A H μ σ l _ _ X W L (fun A1 H1 μ1 v av s1 W1 rv ⟨xs, ho, hn, rel, item, fin⟩ => by
    obtain ⟨a, us, rfl, h1, h2⟩ := ho.at rv
    have r1 := L.mono s1.grow
    refine ⟨a, rfl, ⟨us, W1.sub.seq h1⟩, fun D hD => lc_list (K := K) (a := a) (xs := us) (LcPv K R A1 H1 μ1 D rel) (lc_start W1 hD) (fun i H' _ ⟨A', acc, zs, s, W', _⟩ => (s.grow.trans W'.sub).seq h1) (fun i x H' hx p => ?_) (fun H' p => ?_)⟩
    · have hi : i < xs.length := by rw [← h2.length]; exact (List.getElem?_eq_some_iff.mp hx).1
      obtain ⟨x', hx', rx⟩ := h2.of (List.getElem?_eq_getElem hi)
      obtain rfl := Option.some.inj (hx.symm.trans hx')
      exact lc_turn hg ht he ow W1 r1.len r1 (by omega) hD rx (item i _ (List.getElem?_eq_getElem hi)) p
    · rw [h2.length] at p
      exact lc_end W1 hD (kq.go s1) fin p) kx q⟩
theorem d_lcT {m : Bool} {tl : TE} {wl : WE'} {g : TG} {tt : TT} {te : TE} {wg : WG'} {wt : WT'} {we : WE'} {vs : List Nat} (hl : DE K R Wc tl wl) (hg : DG K R g wg) (ht : DT K R (fun _ _ _ _ => False) tt wt) (he : DE K R (fun _ _ _ _ => False) te we) (ow : OwnT g vs) :
    DE K R Wc (tLc (iTup K tl) g tt te vs) (wLcT m wl wg wt we vs) := ⟨fun A H μ σ l Qc Q X W L kq kx q =>
  hl.run A H μ σ l _ _ X W L (fun A1 H1 μ1 v av s1 W1 rv ⟨xs, ho, hn, rel, item, fin⟩ => by
    obtain ⟨a, us, rfl, h1, h2⟩ := ho.at rv
    have r1 := L.mono s1.grow
    refine ⟨a, rfl, ⟨us, sqt_same W1.sub h1⟩, fun D hD => lc_tup (K := K) (a := a) (xs := us) (LcPv K R A1 H1 μ1 D rel) (lc_start W1 hD) (fun i H' _ ⟨A', acc, zs, s, W', _⟩ => sqt_same (s.grow.trans W'.sub) h1) (fun i x H' hx p => ?_) (fun H' p => ?_)⟩
    · have hi : i < xs.length := by rw [← h2.length]; exact (List.getElem?_eq_some_iff.mp hx).1
      obtain ⟨x', hx', rx⟩ := h2.of (List.getElem?_eq_getElem hi)
      obtain rfl := Option.some.inj (hx.symm.trans hx')
      exact lc_turn hg ht he ow W1 r1.len r1 (by omega) hD rx (item i _ (List.getElem?_eq_getElem hi)) p
    · rw [h2.length] at p
      exact lc_end W1 hD (kq.go s1) fin p) kx q⟩
/-- [.. for i in range(n)] -/
def wLcR1 (m : Bool) (wa : WA') (wg : WG') (wt : WT') (we : WE') (vs : List Nat) : WE' := fun l μ Q X => wa l μ (fun xs μ1 => ∃ x j, xs = [x] ∧ isI x j ∧ -(2 ^ 62) ≤ j ∧ j < 2 ^ 62 ∧ lcAll m wg wt we vs l μ1 ((List.range j.toNat).map fun (k : Nat) => iAV (k : Int)) Q) X
theorem d_lcR1 {m : Bool} {ta : TA} {wa : WA'} {g : TG} {tt : TT} {te : TE} {wg : WG'} {wt : WT'} {we : WE'} {vs : List Nat} (ha : DA K R Wc ta wa) (hg : DG K R g wg) (ht : DT K R (fun _ _ _ _ => False) tt wt) (he : DE K R (fun _ _ _ _ => False) te we) (ow : OwnT g vs) :
    DE K R Wc (tLc (iRng1 ta) g tt te vs) (wLcR1 m wa wg wt we vs) := ⟨fun A H μ σ l Qc Q X W L kq kx q =>
  ha.run A H μ σ l _ _ X W L (fun A1 H1 μ1 us avs s1 W1 rv ⟨x, j, ex, hj, b1, b2, hn, rel, item, fin⟩ => by
    subst ex
    obtain ⟨v, rfl, rx⟩ := rv.one
    have r1 := L.mono s1.grow
    rw [List.length_map, List.length_range] at hn
    refine ⟨j, by rw [rx.i hj], b1, b2, fun D hD => lc_range (lo := 0) (n := j.toNat) (LcPv K R A1 H1 μ1 D rel) (lc_start W1 hD) (fun i H' hi p => ?_) (fun H' p => ?_)⟩
    · rw [Int.zero_add]
      exact lc_turn hg ht he ow W1 r1.len r1 (by omega) hD (show RV K A1 (.int (i : Int)) (iAV (i : Int)) from Tr.int _) (item i _ (by rw [List.getElem?_map, List.getElem?_range hi]; rfl)) p
    · rw [List.length_map, List.length_range] at fin
      exact lc_end W1 hD (kq.go s1) fin p) kx q⟩
/-! ### what an item's turns come to, where it is told at once -/
theorem lcAll_map {m : Bool} {wg : WG'} {wt : WT'} {we : WE'} {vs : List Nat} {l : Loc} {μ : MU} {xs : List AV} {Q : PQ} {k : Bool} {α : Type} (L : List α) (f : α → PyData) (hl : xs.length = L.length) (hn : L.length < 100000)
    (item : ∀ (i : Nat) (x : AV) (a : α), xs[i]? = some x → L[i]? = some a → lcItem wg wt we vs l μ x (fun z => z = some (k, f a))) (fin : newL m ((L.map f).map (AV.dat k)) μ Q) : lcAll m wg wt we vs l μ xs Q := by
  refine ⟨by omega, fun i z => ∀ a : α, L[i]? = some a → z = some (k, f a), fun i x hx => ?_, fun zs hz hrel => ?_⟩
  · have hi : i < L.length := by rw [← hl]; exact (List.getElem?_eq_some_iff.mp hx).1
    have ha := List.getElem?_eq_getElem hi
    have e : (fun z => ∀ a : α, L[i]? = some a → z = some (k, f a)) = fun z => z = some (k, f L[i]) := by
      funext z
      rw [ha]
      exact propext ⟨fun h => h _ rfl, fun h a e => by rw [← Option.some.inj e]; exact h⟩
    show lcItem wg wt we vs l μ x (fun z => ∀ a : α, L[i]? = some a → z = some (k, f a))
    rw [e]
    exact item i x _ hx ha
  · have e : zs = (L.map f).map fun d => some (k, d) := by
      refine List.ext_getElem (by rw [List.length_map, List.length_map]; omega) fun i h1 h2 => ?_
      have h3 : i < L.length := by omega
      rw [hrel i _ (List.getElem?_eq_getElem h1) _ (List.getElem?_eq_getElem h3), List.getElem_map, List.getElem_map]
    have e2 : (zs.filterMap fun z => z.map fun p => AV.dat p.1 p.2) = (L.map f).map (AV.dat k) := by
      rw [e]
      generalize L.map f = M
      induction M with
      | nil => rfl
      | cons a M ih =>
        rw [List.map_cons, List.filterMap_cons, List.map_cons, ← ih]; rfl
    rw [e2]
    exact fin
/-! ### a def's contract -/
def subM (μ' μ : MU) : Prop := ∀ a o, μ' a = some o → μ a = some o
theorem subM.refl {μ : MU} : subM μ μ := fun _ _ h => h
theorem subM_own {μ : MU} {a : Addr} {o : OB} (h : μ a = none) : subM μ (updM μ a o) := fun b u e => by
  rw [updM_ne (fun z => by rw [z, h] at e; cases e)]; exact e
/-- objects that are no longer spoken of are let go -/
def flatD' : PyData → Bool | .none => true | .bool _ => true | .int _ => true | .str _ => true | _ => false
/-- the same data, perhaps less known of where they stand -/
def wkAV (av av' : AV) : Prop := av = av' ∨ ∃ k j x, av = .dat k x ∧ av' = .dat j x ∧ (j = true → k = true ∨ flatD' x = true)
theorem RV.wk {v : V} {av av' : AV} (r : RV K A v av) (h : wkAV av av') : RV K A v av' := by
  rcases h with rfl | ⟨k, j, x, rfl, rfl, h⟩
  · exact r
  · cases j with
    | false => exact r.dq
    | true =>
      rcases h rfl with rfl | h
      · exact r
      · have d := r.dq
        cases d with
        | non => exact Tr.non
        | bl b => exact Tr.bl b
        | int i => exact Tr.int i
        | str y => exact Tr.str y
        | _ => cases h
def dropQ (P : PQ) : PQ := fun av μ => ∃ μ' av', subM μ' μ ∧ wkAV av av' ∧ P av' μ'
def entry (P : PQ) (X : PXq) : DEnds := ⟨fun _ μ => dropQ P (.dat true .none) μ, dropQ P, fun _ _ => False, fun _ _ => False, fun c _ μ => X c μ⟩
def startA (n : Nat) (avs : List AV) : Loc := avs.map some ++ List.replicate (n - avs.length) none
theorem RL.start {N : List Str} {vs : List V} {avs : List AV} (r : RVs K A vs avs) : RL K A (L2.start N vs) (startA N.length avs) := by
  have hl := r.length
  refine ⟨by unfold L2.start startA; rw [List.length_append, List.length_append, List.length_map, List.length_map, List.length_replicate, List.length_replicate, hl], fun i av h => ?_⟩
  unfold startA at h
  unfold L2.start
  by_cases hi : i < avs.length
  · rw [List.getElem?_append_left (by rw [List.length_map]; exact hi), List.getElem?_map] at h
    obtain ⟨x, hx, e⟩ := Option.map_eq_some_iff.mp h
    obtain rfl := Option.some.inj e
    obtain ⟨v, hv, rv⟩ := r.of hx
    exact ⟨v, by rw [List.getElem?_append_left (by rw [List.length_map]; omega), List.getElem?_map, hv]; rfl, rv⟩
  · rw [List.getElem?_append_right (by rw [List.length_map]; omega)] at h
    have := List.mem_of_getElem? h
    rw [List.mem_replicate] at this
    cases this.2
/-- a body's reading, from its reading of data -/
theorem body_of {f : FD} {N : List Str} {t : TS} {ws : WS'} {vs : List V} {H : Hp} {Q : VK} {E : XK} (hd : DS K R (fun c d _ H => E c d H) t ws) (hb : ∀ avs μ P X, f avs μ P X → ws (entry P X) (startA N.length avs) μ) (h : spD K R f vs H Q E) :
    t { nx := fun _ H' => Q .non H', rt := Q } (L2.start N vs) H := by
  obtain ⟨A, μ, avs, P, X, W, rv, hf, kq, kx⟩ := h
  refine hd.run A H μ (L2.start N vs) (startA N.length avs) _ (entry P X) W (RL.start rv).len (RL.start rv) ⟨?_, ?_, ?_, ?_, ?_⟩ (hb avs μ P X hf)
  · intro A' H' μ' σ' l' s W' e r ⟨μ2, av', hs, hw, q⟩
    exact kq A' H' μ2 .non av' (s.less hs) (W'.less hs) (RV.wk (show RV K A' .non (.dat true .none) from Tr.non) hw) q
  · intro A' H' μ' σ' l' s W' e r q; exact q.elim
  · intro A' H' μ' σ' l' s W' e r q; exact q.elim
  · intro A' H' μ' v av s W' r ⟨μ2, av', hs, hw, q⟩
    exact kq A' H' μ2 v av' (s.less hs) (W'.less hs) (r.wk hw) q
  · intro A' H' μ' σ' l' c s W' e r q
    exact kx A' H' μ' c s W' q
end
end Fv

/-! ### the layer of data: contracts, refusals -/
namespace Fv
open PySem PySem.Spec PyProof.Rows L2
section
variable {K : PySem.W.Frag} {R : RK} {Wc : WX} {A H A1 H1 : Hp} {μ μ1 : MU} {σ : L2.St}
def aIsN (n : Bool) : AV → AV → MU → PQ → Prop := fun x y μ Q => ∃ b, isNone' x b ∧ isNone' y true ∧ Q (bAV (n ^^ b)) μ
theorem od_isN : OpD K R (fun x y H Q => y = .non ∧ Q (.bl (decide (x = .non))) H) (aIsN false) := by
  rintro A H μ x y ax ay Qc Q W rx ry kq ⟨b, hb, hy, q⟩
  rw [xor_f] at q
  exact ⟨of_decide_eq_true (ry.none hy), by rw [rx.none hb]; exact kq.b W q⟩
theorem od_notN : OpD K R (fun x y H Q => y = .non ∧ Q (.bl (!decide (x = .non))) H) (aIsN true) := by
  rintro A H μ x y ax ay Qc Q W rx ry kq ⟨b, hb, hy, q⟩
  rw [xor_t] at q
  exact ⟨of_decide_eq_true (ry.none hy), by rw [rx.none hb]; exact kq.b W q⟩
theorem od_ip {g : Int → Int → Int} : OpD K R (ipI g) (aI0 fun i j => iAV (g i j)) := by
  rintro A H μ x y ax ay Qc Q W rx ry kq ⟨i, j, hi, hj, q⟩
  exact ⟨i, j, rx.i hi, ry.i hj, kq.i W q⟩
/-! repr, isinstance of data -/
def bRepr : List AV → MU → PQ → Prop := fun xs μ Q => ∃ x d, xs = [x] ∧ isD μ x d ∧ d.hasDict = false ∧ d.showable = true ∧ d.depth ≤ 64 ∧ d.shown.length ≤ sizeLine ∧ Q (.dat true (.str d.shown)) μ
theorem cd_repr : CallD K R (rReprD K) bRepr := by
  rintro A H μ vs _ Qc Q W r kq ⟨x, d, rfl, hd, nd, h1, h2, h3, q⟩
  obtain ⟨v, rfl, r1⟩ := r.one
  exact ⟨v, d, rfl, (r1.data W hd).dp nd, h1, nd, h2, h3, kq.s W q⟩
theorem Dq.isi {v : V} {d : PyData} {A H : Hp} (s : Same A H) (h : Tr A v d) : TyX K H v (.type (tyD d)) := by
  cases h with
  | non => exact .base .non
  | bl b => exact .base (.bl b)
  | int i => exact .base (.int i)
  | str x => exact .base (.str x)
  | lst h _ => exact .base (.lst (s _ _ h))
  | tup h _ => exact .base (.tup (s _ _ h))
  | dct h => exact .base (.dK (s _ _ h))
/-- isinstance(x, T) of tracked data, or of a list that may change -/
def tyO : AV → Option String | .dat true x => some (tyD x) | .ref _ => some "list" | _ => none
def isiB (T S : String) : Bool := decide (T = S) || (decide (T = "bool") && decide (S = "int"))
def bIsi : List AV → MU → PQ → Prop := fun xs μ Q => ∃ x T S, xs = [x, .ty S] ∧ tyO x = some T ∧ (∀ a, x = .ref a → ∃ ys, μ a = some (.lst ys)) ∧ S ∈ ["bool", "int", "str", "list", "tuple", "dict"] ∧ Q (bAV (isiB T S)) μ
theorem kit_all (d : PyData) {S : String} (h : S ∈ ["bool", "int", "str", "list", "tuple", "dict"]) : PySem.W.kitOne K (.type (tyD d)) (.type S) = some (isiB (tyD d) S) := by
  have key : ∀ s : String, s ∈ ["NoneType", "bool", "int", "str", "list", "tuple", "dict"] → ∀ t : String, t ∈ ["bool", "int", "str", "list", "tuple", "dict"] → kitB s t = some (isiB s t) := by decide +kernel
  exact kit_ty (key _ (by cases d <;> simp [tyD]) _ h)
theorem cd_isi : CallD K R (rIsi K) bIsi := by
  rintro A H μ vs _ Qc Q W r kq ⟨x, T, S, rfl, hT, ho, hS, q⟩
  obtain ⟨v, u, rfl, r1, r2⟩ := r.two
  cases (show u = .ty S from r2)
  cases x with
  | dat k d =>
    cases k with
    | false => cases hT
    | true =>
      obtain rfl := Option.some.inj (show some (tyD d) = some T from hT)
      exact ⟨v, _, _, _, _, rfl, .ty _, Dq.isi W.sub r1, kit_all d hS, kq.b W q⟩
  | ref a =>
    obtain rfl := Option.some.inj (show some "list" = some T from hT)
    obtain ⟨ys, hm⟩ := ho a rfl
    obtain ⟨_, hob, h1, vs, rfl, _⟩ := W.obs a _ hm
    cases (show v = .ref a from r1)
    exact ⟨_, _, _, _, _, rfl, .ty _, .base (.lst h1), kit_all (.list []) hS, kq.b W q⟩
  | ty n => cases hT
  | ob x => cases hT
/-! try .. except X: suite -/
/-- which exceptions a clause takes: told by the class -/
def wTry (xm : Value → Bool → Prop) (wb ws : WS') : WS' := fun D l μ => wb { D with xc := fun c l' μ' => ∃ b, xm c b ∧ (b = true → ws D l' μ') ∧ (b = false → D.xc c l' μ') } l μ
theorem ds_try {c : Value} {xm : Value → Bool → Prop} {tb : WX → TS} {ts : Addr → Value → Option Addr → TS} {wb ws : WS'} (hx : ∀ k b, xm k b → PySem.W.exmOne K k c = some b) (hb : ∀ W : WX, DS K R W (tb W) wb) (hs : ∀ a k d, DS K R Wc (ts a k d) ws) :
    DS K R Wc (fun D σ H => tb (wOnly K c ts Wc D) D σ H) (wTry xm wb ws) := ⟨fun A H μ σ l Dc D W e r cn q =>
  (hb (wOnly K c ts Wc Dc)).run A H μ σ l Dc { D with xc := fun c l' μ' => ∃ b, xm c b ∧ (b = true → ws D l' μ') ∧ (b = false → D.xc c l' μ') } W e r ⟨cn.nx, cn.bk, cn.ct, cn.rt, fun A' H' μ' σ' l' k s W' e' r' ⟨b, hb1, h1, h2⟩ =>
    ⟨b, hx k b hb1, fun z a _ => (hs a k none).run A' H' μ' σ' l' Dc D W' e' r' (cn.go s) (h1 z), fun z => cn.xc A' H' μ' σ' l' k s W' e' r' (h2 z)⟩⟩ q⟩
end
/-! ### a def and its contract -/
section
variable {P : Program} {w : World} {K : PySem.W.Frag} {R : RK} {mg : Str → Option Value} {base : Heap}
/-- a def that keeps its promise, one that errors leave -/
def GoodX (P : Program) (w : World) (K : PySem.W.Frag) (mg : Str → Option Value) (base : Heap) (k : Nat) (nm : Str) (ps : List Str) (sp : Sp) : Prop :=
  ∃ (f : Addr) (fd : FuncData), mg nm = some (.ref f) ∧ PySem.W.keepIn K (.ref f) = true ∧ Binds K fd ps [] ∧ FnOk P w K mg base (L2.CX P w) k f fd ps sp
theorem Good.imp {k : Nat} {nm : Str} {ps : List Str} {sp sp' : Sp} (h : Good P w K mg base k nm ps sp) (hs : ∀ vs H Q E, sp' vs H Q E → sp vs H Q E) : Good P w K mg base k nm ps sp' := by
  obtain ⟨f, fd, a, b, c, d⟩ := h
  exact ⟨f, fd, a, b, c, d.imp hs⟩
theorem GoodX.imp {k : Nat} {nm : Str} {ps : List Str} {sp sp' : Sp} (h : GoodX P w K mg base k nm ps sp) (hs : ∀ vs H Q E, sp' vs H Q E → sp vs H Q E) : GoodX P w K mg base k nm ps sp' := by
  obtain ⟨f, fd, a, b, c, d⟩ := h
  exact ⟨f, fd, a, b, c, d.imp hs⟩
/-- where nothing is raised -/
theorem GoodX.calm {k : Nat} {nm : Str} {ps : List Str} {sp : Sp} (h : GoodX P w K mg base k nm ps sp) : Good P w K mg base k nm ps (fun vs H Q _ => sp vs H Q E0) := by
  obtain ⟨f, fd, a, b, c, F⟩ := h
  refine ⟨f, fd, a, b, c, fun vs H Q E q => F.len vs H Q E0 q, fun A outer s H args us vs Q E hr en bt rv q => ?_⟩
  refine codeAny_mono (F.run A outer s H args us vs Q E0 hr en bt rv q) fun r s' hr' => ?_
  cases r with
  | ok fl => cases fl <;> exact hr'
  | error e =>
    have z : L2.CX P w outer H s E0 e s' := hr'
    unfold L2.CX at z
    simp [E0] at z
theorem GoodD.of {nm : Str} {st : Stmt} {N ps : List Str} {k : Nat} {f : FD} (D : DefAt K mg nm st ps) (S : FnScope N ps (defScope st)) (len : ∀ avs μ P X, f avs μ P X → avs.length = ps.length)
    (hbody : ∀ (fa : Addr) (cdv : Value) (A : Around) (outer : List Env) (s : Shared) (H : Hp) (E : XK), Room k (A.deeper (envOfC nm (defScope st) s.heap.objs.size fa cdv)) →
      ∃ t, PSs (cxOf CX0 P w K mg base N nm (defScope st) fa cdv A outer s H E).nox (defBody st) t ∧ ∃ ws, DS K R (fun c d _ H => E c d H) t ws ∧ ∀ avs μ P X, f avs μ P X → ws (entry P X) (startA N.length avs) μ) :
    Good P w K mg base (k + 1) nm ps (spD K R f) := by
  refine Good.of D S (fun vs H Q E ⟨A, μ, avs, Qa, X, W, rv, hf, _⟩ => by rw [rv.length]; exact len _ _ _ _ hf) fun fa cdv A outer s H vs Q E hr h => ?_
  obtain ⟨t, ht, ws, hd, hw⟩ := hbody fa cdv A outer s H E hr
  exact ⟨t, ht, body_of hd hw h⟩
theorem GoodXD.of {nm : Str} {st : Stmt} {N ps : List Str} {k : Nat} {f : FD} (D : DefAt K mg nm st ps) (S : FnScope N ps (defScope st)) (len : ∀ avs μ P X, f avs μ P X → avs.length = ps.length)
    (hbody : ∀ (fa : Addr) (cdv : Value) (A : Around) (outer : List Env) (s : Shared) (H : Hp) (E : XK), Room k (A.deeper (envOfC nm (defScope st) s.heap.objs.size fa cdv)) →
      ∃ t, PSs (cxOf (L2.CX P w) P w K mg base N nm (defScope st) fa cdv A outer s H E) (defBody st) t ∧ ∃ ws, DS K R (fun c d _ H => E c d H) t ws ∧ ∀ avs μ P X, f avs μ P X → ws (entry P X) (startA N.length avs) μ) :
    GoodX P w K mg base (k + 1) nm ps (spD K R f) := by
  obtain ⟨fa, fd, hm, F, hb⟩ := D
  refine ⟨fa, fd, hm, F.kp, hb, F.okX S (fun vs H Q E ⟨A, μ, avs, Qa, X, W, rv, hf, _⟩ => by rw [rv.length]; exact len _ _ _ _ hf) fun cdv A outer s H vs Q E hr h => ?_⟩
  obtain ⟨t, ht, ws, hd, hw⟩ := hbody fa cdv A outer s H E hr
  exact ⟨t, ht, body_of hd hw h⟩
end
end Fv

/-! ### the layer of data: contracts by the number of arguments, exceptions' classes, plain readings -/
namespace Fv
open PySem PySem.Spec PyProof.Rows L2
def fd1 (f : AV → MU → PQ → PXq → Prop) : FD := fun avs μ P X => ∃ a, avs = [a] ∧ f a μ P X
def fd2 (f : AV → AV → MU → PQ → PXq → Prop) : FD := fun avs μ P X => ∃ a b, avs = [a, b] ∧ f a b μ P X
def fd3 (f : AV → AV → AV → MU → PQ → PXq → Prop) : FD := fun avs μ P X => ∃ a b c, avs = [a, b, c] ∧ f a b c μ P X
def fd4 (f : AV → AV → AV → AV → MU → PQ → PXq → Prop) : FD := fun avs μ P X => ∃ a b c d, avs = [a, b, c, d] ∧ f a b c d μ P X
def fd5 (f : AV → AV → AV → AV → AV → MU → PQ → PXq → Prop) : FD := fun avs μ P X => ∃ a b c d e, avs = [a, b, c, d, e] ∧ f a b c d e μ P X
/-- what the top has of an exception's class -/
structure ExC (K : PySem.W.Frag) (mg : Str → Option Value) (nm : Str) (C : Addr) : Prop where
  g : mg nm = some (.ref C)
  x : PySem.W.excIn K C [.type "ValueError", .type "Exception", .type "BaseException", .type "object"] "ValueError.__new__" = true
  k : PySem.W.keepIn K (.ref C) = true
  b : PySem.W.subIn K (.ref C) (.type "BaseException") = some true
  t : PySem.W.typeIn K (.ref C) = some (.type "type")
  i : PySem.W.isClsIn K C = true
theorem tyN_mem {S : String} (h : S ∈ ["int", "str", "bool", "NoneType", "list", "tuple", "dict"]) : TyN S := by
  simp only [List.mem_cons, List.not_mem_nil, or_false] at h
  rcases h with rfl | rfl | rfl | rfl | rfl | rfl | rfl
  · exact .a
  · exact .b
  · exact .c
  · exact .d
  · exact .e
  · exact .f
  · exact .g
section
variable {K : PySem.W.Frag} {R : RK} {Wc : WX}
theorem d_call0c {f : FD} {ta : TA} {wa : WA'} (ha : DA K R Wc ta wa) : DE K R Wc (tCall (fun vs H Q _ => spD K R f vs H Q E0) [] E0 ta) (wCall0 f wa) := d_call0 ha
theorem d_tyInB {ta : TE} {tt : TA} {wa : WE'} {ts : List String} (ha : DE K R Wc ta wa) (ht : ∀ σ H Q, Q (ts.map V.ty) H → tt σ H Q) (hts : (ts.all fun S => ["int", "str", "bool", "NoneType", "list", "tuple", "dict"].contains S) = true ∧ ts.length ≤ 100) : DE K R Wc (tOp (rInTy K) ta (tTup tt)) (wTyIn wa ts) :=
  d_tyIn ha ht (fun S hS => tyN_mem (List.contains_iff_mem.mp (List.all_eq_true.mp hts.1 S hS))) hts.2
/-- isinstance(x, (T, ..)) -/
def wIsiT (wa : WE') (ts : List String) : WE' := fun l μ Q X => wa l μ (fun x μ1 => ∃ T, tyO x = some T ∧ (∀ a, x = .ref a → ∃ ys, μ1 a = some (.lst ys)) ∧ Q (bAV (ts.any fun S => isiB T S)) μ1) X
theorem kitAny_all {d : PyData} : ∀ {ts : List String}, (∀ S ∈ ts, S ∈ ["bool", "int", "str", "list", "tuple", "dict"]) → PySem.W.kitAny K (.type (tyD d)) (ts.map Value.type) = some (ts.any fun S => isiB (tyD d) S)
  | [], _ => kitAny_nil
  | S :: ts, h => by
    have ih := kitAny_all (d := d) (ts := ts) fun s hs => h s (List.mem_cons_of_mem _ hs)
    have h1 := kit_all (K := K) d (h S List.mem_cons_self)
    refine kitAny_cons h1 (fun z => ?_) (fun z => ?_)
    · rw [ih, List.any_cons, z]; rfl
    · rw [List.any_cons, z]; rfl
theorem clsV_all : ∀ ts : List String, Paired ClsV (ts.map V.ty) (ts.map Value.type)
  | [] => .nil
  | S :: ts => .cons (.ty S) (clsV_all ts)
theorem d_isiT {ta : TE} {tt : TA} {wa : WE'} {ts : List String} (ha : DE K R Wc ta wa) (ht : ∀ σ H Q, Q (ts.map V.ty) H → tt σ H Q) (hts : (ts.all fun S => ["bool", "int", "str", "list", "tuple", "dict"].contains S) = true ∧ ts.length ≤ 100) : DE K R Wc (tCB (rIsiT K) (tCons ta (tCons (tTup tt) tNil))) (wIsiT wa ts) := ⟨fun A H μ σ l Qc Q X W L kq kx h =>
  ha.run A H μ σ l _ _ X W L (fun A1 H1 μ1 x ax s1 W1 r1 ⟨T, hT, ho, q1⟩ => by
    have mem : ∀ S ∈ ts, S ∈ ["bool", "int", "str", "list", "tuple", "dict"] := fun S hS => by
      have := List.all_eq_true.mp hts.1 S hS
      exact List.contains_iff_mem.mp this
    have hlen := hts.2
    refine ht _ _ _ ⟨sz_of (by rw [List.length_map]; omega), fun p hp => ?_⟩
    obtain ⟨W2, s2⟩ := W1.extS (same_new (o := .tup (ts.map V.ty)) hp)
    have s12 := s1.trans s2
    have hX : ∃ d : PyData, T = tyD d ∧ TyX K (upd H1 p (.tup (ts.map V.ty))) x (.type (tyD d)) := by
      cases ax with
      | dat k d =>
        cases k with
        | false => cases hT
        | true => exact ⟨d, (Option.some.inj (show some (tyD d) = some T from hT)).symm, Dq.isi W2.sub r1⟩
      | ref a =>
        obtain ⟨ys, hm⟩ := ho a rfl
        obtain ⟨_, hob, h1, vs, rfl, _⟩ := W2.obs a _ hm
        cases (show x = .ref a from r1)
        exact ⟨.list [], (Option.some.inj (show some "list" = some T from hT)).symm, .base (.lst h1)⟩
      | ty n => cases hT
      | ob x => cases hT
    obtain ⟨d, rfl, hX⟩ := hX
    exact ⟨x, p, _, _, _, _, rfl, upd_same, clsV_all ts, hX, kitAny_all mem, (kq.go s12).b W2 q1⟩) kx h⟩
end
/-! plain readings -/
theorem isI_int {k : Bool} {i j : Int} : isI (.dat k (.int i)) j ↔ i = j := Iff.rfl
theorem isB_bool {k : Bool} {i j : Bool} : isB (.dat k (.bool i)) j ↔ i = j := Iff.rfl
theorem isS_str {k : Bool} {i j : Str} : isS (.dat k (.str i)) j ↔ i = j := Iff.rfl
theorem isI_str {k : Bool} {i : Str} {j : Int} : isI (.dat k (.str i)) j ↔ False := Iff.rfl
theorem isI_bool {k : Bool} {i : Bool} {j : Int} : isI (.dat k (.bool i)) j ↔ False := Iff.rfl
theorem isS_int {k : Bool} {i : Int} {j : Str} : isS (.dat k (.int i)) j ↔ False := Iff.rfl
theorem isS_bool {k : Bool} {i : Bool} {j : Str} : isS (.dat k (.bool i)) j ↔ False := Iff.rfl
theorem isB_int {k : Bool} {i : Int} {j : Bool} : isB (.dat k (.int i)) j ↔ False := Iff.rfl
theorem isB_str {k : Bool} {i : Str} {j : Bool} : isB (.dat k (.str i)) j ↔ False := Iff.rfl
theorem isL_list {μ : MU} {k : Bool} {ds : List PyData} {xs : List AV} : isL μ (.dat k (.list ds)) xs ↔ ds.map (AV.dat k) = xs := Iff.rfl
theorem isL_tuple {μ : MU} {k : Bool} {ds : List PyData} {xs : List AV} : isL μ (.dat k (.tuple ds)) xs ↔ False := Iff.rfl
theorem isL_ref {μ : MU} {a : Addr} {xs : List AV} : isL μ (.ref a) xs ↔ μ a = some (.lst xs) := Iff.rfl
theorem isT_tuple {k : Bool} {ds : List PyData} {xs : List AV} : isT (.dat k (.tuple ds)) xs ↔ ds.map (AV.dat k) = xs := Iff.rfl
theorem isT_list {k : Bool} {ds : List PyData} {xs : List AV} : isT (.dat k (.list ds)) xs ↔ False := Iff.rfl
theorem isT_ref {a : Addr} {xs : List AV} : isT (.ref a) xs ↔ False := Iff.rfl
theorem isD_dat {μ : MU} {k : Bool} {x y : PyData} : isD μ (.dat k x) y ↔ x = y := Iff.rfl
theorem isD_ref {μ : MU} {a : Addr} {y : PyData} : isD μ (.ref a) y ↔ ∃ ds : List PyData, μ a = some (.lst (ds.map (AV.dat true))) ∧ y = .list ds := Iff.rfl
theorem isNo_none {k b : Bool} : isNone' (.dat k .none) b ↔ b = true := Iff.rfl
theorem isNo_int {k b : Bool} {i : Int} : isNone' (.dat k (.int i)) b ↔ b = false := Iff.rfl
theorem isNo_str {k b : Bool} {i : Str} : isNone' (.dat k (.str i)) b ↔ b = false := Iff.rfl
theorem isNo_bool {k b : Bool} {i : Bool} : isNone' (.dat k (.bool i)) b ↔ b = false := Iff.rfl
theorem isNo_list {k b : Bool} {i : List PyData} : isNone' (.dat k (.list i)) b ↔ b = false := Iff.rfl
theorem isNo_tuple {k b : Bool} {i : List PyData} : isNone' (.dat k (.tuple i)) b ↔ b = false := Iff.rfl
theorem isNo_ref {b : Bool} {a : Addr} : isNone' (.ref a) b ↔ b = false := Iff.rfl
theorem dats_nil : dats [] = some [] := rfl
theorem dats_cons {k : Bool} {x : PyData} {r : List AV} : dats (.dat k x :: r) = (dats r).map (x :: ·) := by
  show (match datOf (AV.dat k x), dats r with | some d, some ds => some (d :: ds) | _, _ => none) = _
  cases dats r <;> rfl
theorem fr_dat {k : Bool} {x : PyData} : AV.fr (.dat k x) = k := rfl
theorem tyO_dat {x : PyData} : tyO (.dat true x) = some (tyD x) := rfl
theorem tyO_ref {a : Addr} : tyO (.ref a) = some "list" := rfl
theorem tyD_none : tyD .none = "NoneType" := rfl
theorem tyD_bool {b : Bool} : tyD (.bool b) = "bool" := rfl
theorem tyD_int {b : Int} : tyD (.int b) = "int" := rfl
theorem tyD_str {b : Str} : tyD (.str b) = "str" := rfl
theorem tyD_list {b : List PyData} : tyD (.list b) = "list" := rfl
theorem tyD_tuple {b : List PyData} : tyD (.tuple b) = "tuple" := rfl
theorem tyD_dict {b : List (PyData × PyData)} : tyD (.dict b) = "dict" := rfl
theorem isI.ex {av : AV} {i : Int} (h : isI av i) : ∃ k, av = .dat k (.int i) := by
  cases av with
  | dat k x => cases x with
    | int j => cases (show j = i from h); exact ⟨k, rfl⟩
    | _ => exact h.elim
  | _ => exact h.elim
theorem isB.ex {av : AV} {i : Bool} (h : isB av i) : ∃ k, av = .dat k (.bool i) := by
  cases av with
  | dat k x => cases x with
    | bool j => cases (show j = i from h); exact ⟨k, rfl⟩
    | _ => exact h.elim
  | _ => exact h.elim
theorem isS.ex {av : AV} {i : Str} (h : isS av i) : ∃ k, av = .dat k (.str i) := by
  cases av with
  | dat k x => cases x with
    | str j => cases (show j = i from h); exact ⟨k, rfl⟩
    | _ => exact h.elim
  | _ => exact h.elim
theorem newL_t {xs : List AV} {μ : MU} {Q : PQ} : newL true xs μ Q ↔ ∀ a, μ a = none → Q (.ref a) (updM μ a (.lst xs)) := Iff.rfl
theorem newL_f {xs : List AV} {μ : MU} {Q : PQ} : newL false xs μ Q ↔ ∃ ds, dats xs = some ds ∧ Q (.dat (xs.all AV.fr) (.list ds)) μ := Iff.rfl
theorem dropQ.here {P : PQ} {av : AV} {μ : MU} (h : P av μ) : dropQ P av μ := ⟨μ, av, subM.refl, .inl rfl, h⟩
theorem dropQ.own {P : PQ} {av : AV} {μ : MU} {a : Addr} {o : OB} (n : μ a = none) (h : P av μ) : dropQ P av (updM μ a o) := ⟨μ, av, subM_own n, .inl rfl, h⟩
/-- .. what is told is known less exactly -/
theorem dropQ.rd {P : PQ} {k : Bool} {x : PyData} {μ : MU} (h : P (.dat false x) μ) : dropQ P (.dat k x) μ := ⟨μ, _, subM.refl, .inr ⟨k, false, x, rfl, rfl, fun z => by cases z⟩, h⟩
theorem dropQ.i {P : PQ} {k : Bool} {i : Int} {μ : MU} (h : P (iAV i) μ) : dropQ P (.dat k (.int i)) μ := ⟨μ, _, subM.refl, .inr ⟨k, true, _, rfl, rfl, fun _ => .inr rfl⟩, h⟩
theorem dats_at : ∀ {xs : List AV} {ds : List PyData}, dats xs = some ds → ∀ {i : Nat} {d : PyData}, ds[i]? = some d → ∃ k, xs[i]? = some (.dat k d)
  | [], ds, h, i, d, e => by cases (show some [] = some ds from h); simp at e
  | x :: r, ds, h, i, d, e => by
    have h : (match datOf x, dats r with | some d, some ds => some (d :: ds) | _, _ => none) = some ds := h
    cases x with
    | dat k y =>
      cases z : dats r with
      | none => rw [z] at h; cases h
      | some es =>
        rw [z] at h
        cases (show some (y :: es) = some ds from h)
        cases i with
        | zero => cases (show some y = some d from e); exact ⟨k, rfl⟩
        | succ i => exact dats_at z (i := i) e
    | ref a => cases h
    | ty n => cases h
    | ob x => cases h
theorem dats_len : ∀ {xs : List AV} {ds : List PyData}, dats xs = some ds → xs.length = ds.length
  | [], ds, h => by cases (show some [] = some ds from h); rfl
  | x :: r, ds, h => by
    have h : (match datOf x, dats r with | some d, some ds => some (d :: ds) | _, _ => none) = some ds := h
    cases hx : datOf x with
    | none => rw [hx] at h; cases h
    | some y =>
      cases z : dats r with
      | none => rw [hx, z] at h; cases h
      | some es =>
        rw [hx, z] at h
        cases (show some (y :: es) = some ds from h)
        rw [List.length_cons, List.length_cons, dats_len z]
theorem dats_app : ∀ {xs ys : List AV} {ds es : List PyData}, dats xs = some ds → dats ys = some es → dats (xs ++ ys) = some (ds ++ es)
  | [], ys, ds, es, h, h' => by cases (show some [] = some ds from h); exact h'
  | x :: r, ys, ds, es, h, h' => by
    have h : (match datOf x, dats r with | some d, some ds => some (d :: ds) | _, _ => none) = some ds := h
    cases hx : datOf x with
    | none => rw [hx] at h; cases h
    | some y =>
      cases z : dats r with
      | none => rw [hx, z] at h; cases h
      | some fs =>
        rw [hx, z] at h
        cases (show some (y :: fs) = some ds from h)
        show (match datOf x, dats (r ++ ys) with | some d, some ds => some (d :: ds) | _, _ => none) = _
        rw [hx, dats_app z h']; rfl
theorem atA_m1 {α : Type} {xs : List α} {v : α} (h : xs[xs.length - 1]? = some v) : atI xs (-1) = some v := by
  have hl : xs.length - 1 < xs.length := (List.getElem?_eq_some_iff.mp h).1
  unfold L2.atI ixN
  rw [if_neg (by decide), if_pos (by omega)]
  show xs[((-1 : Int) + (xs.length : Int)).toNat]? = some v
  rw [show ((-1 : Int) + (xs.length : Int)).toNat = xs.length - 1 by omega]
  exact h
/-! over a list or a tuple -/
theorem pi_or {X : Cx} {tg it : Expr} {w1 w2 : TI} (h1 : PI X tg it w1) (h2 : PI X tg it w2) : PI X tg it (fun σ H R => w1 σ H R ∨ w2 σ H R) := ⟨fun pins s σ H R I h => h.elim (h1.run pins s σ H R I) (h2.run pins s σ H R I)⟩
def iSeq (K : PySem.W.Frag) (tl : TE) : TI := fun σ H R => iList K tl σ H R ∨ iTup K tl σ H R
theorem pi_seq {X : Cx} {tg it : Expr} {tl : TE} (h1 : PI X tg it (iList X.K tl)) (h2 : PI X tg it (iTup X.K tl)) : PI X tg it (iSeq X.K tl) := pi_or h1 h2
def wForS (i : Nat) (wg : WG') (wb : WS') : WS' := fun D l μ => ∃ av xs, l[i]? = some (some av) ∧ (overL av xs ∨ overT av xs) ∧ wTurns xs wg wb D l μ
section
variable {K : PySem.W.Frag} {R : RK} {Wc : WX}
theorem ds_forS {i : Nat} {g : TG} {wg : WG'} {tb : TS} {wb : WS'} (hg : DG K R g wg) (hb : DS K R Wc tb wb) : DS K R Wc (tFor (iSeq K (tVar i)) g tb) (wForS i wg wb) := ⟨fun A H μ σ l Dc D W e r c ⟨av, xs, hi, ho, q⟩ => by
  rcases ho with ho | ho
  · exact .inl ((ds_forL (wl := wVar i) d_var hg hb).run A H μ σ l Dc D W e r c ⟨av, hi, xs, ho, q⟩)
  · exact .inr ((ds_forT (wl := wVar i) d_var hg hb).run A H μ σ l Dc D W e r c ⟨av, hi, xs, ho, q⟩)⟩
def wLcS (m : Bool) (i : Nat) (wg : WG') (wt : WT') (we : WE') (vs : List Nat) : WE' := fun l μ Q X => ∃ av xs, l[i]? = some (some av) ∧ (overL av xs ∨ overT av xs) ∧ lcAll m wg wt we vs l μ xs Q
theorem d_lcS {m : Bool} {i : Nat} {g : TG} {tt : TT} {te : TE} {wg : WG'} {wt : WT'} {we : WE'} {vs : List Nat} (hg : DG K R g wg) (ht : DT K R (fun _ _ _ _ => False) tt wt) (he : DE K R (fun _ _ _ _ => False) te we) (ow : OwnT g vs) :
    DE K R Wc (tLc (iSeq K (tVar i)) g tt te vs) (wLcS m i wg wt we vs) := ⟨fun A H μ σ l Qc Q X W L kq kx ⟨av, xs, hi, ho, q⟩ => by
  rcases ho with ho | ho
  · exact .inl ((d_lcL (m := m) (wl := wVar i) d_var hg ht he ow).run A H μ σ l Qc Q X W L kq kx ⟨av, hi, xs, ho, q⟩)
  · exact .inr ((d_lcT (m := m) (wl := wVar i) d_var hg ht he ow).run A H μ σ l Qc Q X W L kq kx ⟨av, hi, xs, ho, q⟩)⟩
theorem overL_list {k : Bool} {ds : List PyData} : overL (.dat k (.list ds)) (ds.map (AV.dat k)) := ⟨k, ds, rfl, rfl⟩
theorem overT_tuple {k : Bool} {ds : List PyData} : overT (.dat k (.tuple ds)) (ds.map (AV.dat k)) := ⟨k, ds, rfl, rfl⟩
end
/-! an item of a list that may change is stored -/
def wgSub (wo wi : WE') : WG' := fun av l μ Q => wo l μ (fun o μ1 => wi l μ1 (fun i μ2 => ∃ a xs k j, o = .ref a ∧ isI i k ∧ μ2 a = some (.lst xs) ∧ ixN xs.length k = some j ∧ Q l (updM μ2 a (.lst (xs.set j av)))) noX) noX
theorem RVs.set {K : PySem.W.Frag} {A : Hp} {v : V} {x : AV} (r : RV K A v x) : ∀ {vs : List V} {xs : List AV} (i : Nat), RVs K A vs xs → RVs K A (vs.set i v) (xs.set i x)
  | _, _, _, .nil => .nil
  | _, _, 0, .cons _ t => .cons r t
  | _, _, i + 1, .cons q t => .cons q (RVs.set r i t)
section
variable {K : PySem.W.Frag} {R : RK} {Wc : WX}
theorem dg_sub {to ti : TE} {wo wi : WE'} (ho : DE K R (fun _ _ _ _ => False) to wo) (hi : DE K R (fun _ _ _ _ => False) ti wi) : DG K R (gSub to ti rSetL) (wgSub wo wi) := ⟨fun A H μ σ l v av Qc Q W e r rv kq q =>
  ho.run A H μ σ l _ _ noX W r (fun A1 H1 μ1 o ao s1 W1 ro q1 => hi.run A1 H1 μ1 σ l _ _ noX W1 (r.mono s1.grow) (fun A2 H2 μ2 i ai s2 W2 ri ⟨a, xs, k, j, eo, hk, hm, hj, q2⟩ => by
    subst eo
    cases (show o = .ref a from ro)
    obtain ⟨n, hob, h1, vs, rfl, h2⟩ := W2.obs a _ hm
    have s12 := s1.trans s2
    obtain ⟨W3, s3⟩ := W2.mut hm (ho := .lst (vs.set j v)) (o := .lst (xs.set j av)) ⟨_, rfl, RVs.set (rv.mono s12.grow) j h2⟩
    exact ⟨a, vs, k, j, rfl, ri.i hk, h1, by rw [h2.length]; exact hj, kq _ _ _ _ _ (s12.trans s3) W3 e (r.mono (s12.trans s3).grow) q2⟩) (fun _ _ _ _ _ _ z => z.elim) q1) (fun _ _ _ _ _ _ z => z.elim) q⟩
end
theorem dats_appT (a b : List PyData) : dats (a.map (AV.dat true) ++ b.map (AV.dat true)) = some (a ++ b) := by rw [← List.map_append]; exact dats_map _
theorem aCat_f {a b : List PyData} {μ : MU} {Q : PQ} (hl : a.length + b.length ≤ 100000) (q : Q (.dat true (.list (a ++ b))) μ) : aCat false (.dat true (.list a)) (.dat true (.list b)) μ Q :=
  ⟨a.map (AV.dat true), b.map (AV.dat true), rfl, rfl, ⟨.inl ⟨all_frT a, rfl⟩, .inr (.inl rfl)⟩, ⟨.inl ⟨all_frT b, rfl⟩, .inr (.inl rfl)⟩, by rw [List.length_map, List.length_map]; exact hl, a ++ b, dats_appT a b, by
    rw [← List.map_append, all_frT]; exact q⟩
/-- one that may change: the items of both -/
theorem aCat_o {x y : AV} {xs ys : List AV} {μ : MU} {Q : PQ} (h1 : isL μ x xs) (h2 : isL μ y ys) (f1 : fullL x xs) (f2 : fullL y ys) (hl : xs.length + ys.length ≤ 100000) (q : ∀ a, μ a = none → Q (.ref a) (updM μ a (.lst (xs ++ ys)))) : aCat true x y μ Q := ⟨xs, ys, h1, h2, f1, f2, hl, q⟩
theorem fullL_t {a : List PyData} : fullL (.dat true (.list a)) (a.map (AV.dat true)) := ⟨.inl ⟨all_frT a, rfl⟩, .inr (.inl rfl)⟩
theorem fullL_o {a : Addr} {xs : List AV} : fullL (.ref a) xs := ⟨.inr ⟨a, rfl⟩, .inr (.inr ⟨a, rfl⟩)⟩
/-- an item of written data, at a place that is drawn -/
theorem at_cases {α : Type} {xs : List α} {i : Int} (h0 : 0 ≤ i) (h1 : i < xs.length) : ∃ x, x ∈ xs ∧ atI xs i = some x := by
  obtain ⟨j, rfl⟩ : ∃ j : Nat, i = (j : Int) := ⟨i.toNat, by omega⟩
  have hj : j < xs.length := by omega
  exact ⟨xs[j], List.getElem_mem hj, atI_nat (List.getElem?_eq_getElem hj)⟩
theorem at_map {α β : Type} (f : α → β) {xs : List α} {i : Int} (h0 : 0 ≤ i) (h1 : i < xs.length) : ∃ x, x ∈ xs ∧ atI (xs.map f) i = some (f x) := by
  obtain ⟨j, rfl⟩ : ∃ j : Nat, i = (j : Int) := ⟨i.toNat, by omega⟩
  have hj : j < xs.length := by omega
  exact ⟨xs[j], List.getElem_mem hj, atI_nat (by rw [List.getElem?_map, List.getElem?_eq_getElem hj]; rfl)⟩
theorem newF_t {ds : List PyData} {μ : MU} {Q : PQ} (q : Q (.dat true (.list ds)) μ) : newF (ds.map (AV.dat true)) μ Q := ⟨ds, dats_map ds, by rw [all_frT]; exact q⟩
theorem newT_t {ds : List PyData} {μ : MU} {Q : PQ} (q : Q (.dat true (.tuple ds)) μ) : newT (ds.map (AV.dat true)) μ Q := ⟨ds, dats_map ds, by rw [all_frT]; exact q⟩
/-! constants of the program's top; a target that takes a list or a tuple -/
structure ConT (K : PySem.W.Frag) (mg : Str → Option Value) (nm : Str) (a : Addr) (xs : List V) : Prop where
  g : mg nm = some (.ref a)
  s : ∀ H : Hp, SqT K H a xs
structure ConI (mg : Str → Option Value) (nm : Str) (n : Int) (t : Tok) : Prop where
  g : mg nm = some (.int n t)
theorem pg_or {X : Cx} {tg : Expr} {g1 g2 : TG} (h1 : PG X tg g1) (h2 : PG X tg g2) : PG X tg (fun v σ H Q => g1 v σ H Q ∨ g2 v σ H Q) := ⟨fun pins s σ H v u Q I r h => h.elim (h1.run pins s σ H v u Q I r) (h2.run pins s σ H v u Q I r)⟩
def gTL (K : PySem.W.Frag) (n : Nat) (t : TGs) : TG := fun v σ H Q => gTup K n t v σ H Q ∨ gLst K n t v σ H Q
theorem pg_TL {X : Cx} {tg : Expr} {n : Nat} {t : TGs} (h1 : PG X tg (gTup X.K n t)) (h2 : PG X tg (gLst X.K n t)) : PG X tg (gTL X.K n t) := pg_or h1 h2
def wgTL (n : Nat) (gs : WGs') : WG' := fun av l μ Q => ∃ xs, (isT av xs ∨ isL μ av xs) ∧ xs.length = n ∧ gs xs l μ Q
section
variable {K : PySem.W.Frag} {R : RK} {Wc : WX}
theorem dg_TL {n : Nat} {gs : TGs} {wgs : WGs'} (hs : DGs K R gs wgs) : DG K R (gTL K n gs) (wgTL n wgs) := ⟨fun A H μ σ l v av Qc Q W e r rv kq ⟨xs, ht, hn, q⟩ => by
  rcases ht with ht | ht
  · exact .inl ((dg_tup (n := n) hs).run A H μ σ l v av Qc Q W e r rv kq ⟨xs, ht, hn, q⟩)
  · obtain ⟨a, vs, rfl, h1, h2⟩ := rv.seqL W ht
    exact .inr ⟨a, vs, rfl, h1, by rw [h2.length]; exact hn, hs.run A H μ σ l vs xs Qc Q W e r h2 kq q⟩⟩
end
/-- what is never reached -/
def tNevE : TE := fun _ _ _ => False
theorem pe_never {X : Cx} {e : Expr} : PE X e tNevE := ⟨fun _ _ _ _ _ _ h => h.elim⟩
def wNevE : WE' := fun _ _ _ _ => False
theorem d_never {K : PySem.W.Frag} {R : RK} {Wc : WX} : DE K R Wc tNevE wNevE := ⟨fun _ _ _ _ _ _ _ _ _ _ _ _ h => h.elim⟩
theorem lcAll_ds {m : Bool} {wg : WG'} {wt : WT'} {we : WE'} {vs : List Nat} {l : Loc} {μ : MU} {k j : Bool} {ds : List PyData} {Q : PQ} (f : PyData → PyData) (hn : ds.length < 100000)
    (item : ∀ d ∈ ds, lcItem wg wt we vs l μ (.dat j d) (fun z => z = some (k, f d))) (fin : newL m ((ds.map f).map (AV.dat k)) μ Q) : lcAll m wg wt we vs l μ (ds.map (AV.dat j)) Q :=
  lcAll_map ds f (by rw [List.length_map]) hn (fun i x a hx ha => by
    rw [List.getElem?_map, ha] at hx
    obtain rfl := (Option.some.inj hx).symm
    exact item a (List.mem_of_getElem? ha)) fin
/-- .. where of each item one of several things may come -/
theorem lcAll_rel {m : Bool} {wg : WG'} {wt : WT'} {we : WE'} {vs : List Nat} {l : Loc} {μ : MU} {k j : Bool} {ds : List PyData} {Q : PQ} (r : PyData → PyData → Prop) (hn : ds.length < 100000)
    (item : ∀ d ∈ ds, lcItem wg wt we vs l μ (.dat j d) (fun z => ∃ e, r d e ∧ z = some (k, e))) (fin : ∀ es : List PyData, es.length = ds.length → (∀ (i : Nat) (d e : PyData), ds[i]? = some d → es[i]? = some e → r d e) → newL m (es.map (AV.dat k)) μ Q) : lcAll m wg wt we vs l μ (ds.map (AV.dat j)) Q := by
  refine ⟨by rw [List.length_map]; exact hn, fun i z => ∀ d : PyData, ds[i]? = some d → ∃ e, r d e ∧ z = some (k, e), fun i x hx => ?_, fun zs hz hrel => ?_⟩
  · rw [List.getElem?_map] at hx
    obtain ⟨d, hd, rfl⟩ := Option.map_eq_some_iff.mp hx
    have e : (fun z => ∀ d : PyData, ds[i]? = some d → ∃ e, r d e ∧ z = some (k, e)) = fun z => ∃ e, r d e ∧ z = some (k, e) := by
      funext z
      rw [hd]
      exact propext ⟨fun h => h _ rfl, fun h a e => by rw [← Option.some.inj e]; exact h⟩
    show lcItem wg wt we vs l μ (AV.dat j d) (fun z => ∀ d : PyData, ds[i]? = some d → ∃ e, r d e ∧ z = some (k, e))
    rw [e]
    exact item d (List.mem_of_getElem? hd)
  · rw [List.length_map] at hz
    -- what came of each
    have hex : ∃ es : List PyData, es.length = ds.length ∧ zs = es.map (fun e => some (k, e)) ∧ ∀ (i : Nat) (d e : PyData), ds[i]? = some d → es[i]? = some e → r d e := by
      refine ⟨zs.map (fun z => (z.getD (k, .none)).2), by rw [List.length_map, hz], ?_, fun i d e h1 h2 => ?_⟩
      · refine List.ext_getElem (by rw [List.length_map, List.length_map]) fun i h1 h2 => ?_
        obtain ⟨e, _, q⟩ := hrel i _ (List.getElem?_eq_getElem h1) _ (List.getElem?_eq_getElem (by omega))
        rw [List.getElem_map, List.getElem_map, q]; rfl
      · rw [List.getElem?_map] at h2
        obtain ⟨z, hzz, rfl⟩ := Option.map_eq_some_iff.mp h2
        obtain ⟨e, q1, rfl⟩ := hrel i z hzz d h1
        exact q1
    obtain ⟨es, h1, rfl, h2⟩ := hex
    have e2 : ((es.map fun e => some (k, e)).filterMap fun z => z.map fun p => AV.dat p.1 p.2) = es.map (AV.dat k) := by
      clear h1 h2 hrel hz
      induction es with
      | nil => rfl
      | cons a M ih => rw [List.map_cons, List.filterMap_cons, List.map_cons, ← ih]; rfl
    rw [e2]
    exact fin es h1 h2
/-- {} -/
theorem d_dict {K : PySem.W.Frag} {R : RK} {Wc : WX} : DE K R Wc tDNewK (wC (.dat true (.dict []))) := ⟨fun A H μ σ l Qc Q X W L kq kx q p hp => by
  obtain ⟨W1, s1⟩ := W.alloc (.dK []) hp
  exact kq _ _ _ _ (.dat true (.dict [])) s1 W1 (Tr.dct upd_same) q⟩
/-! objects on the way: what is spoken of stays -/
theorem subM.trans {a b c : MU} (h : subM a b) (g : subM b c) : subM a c := fun p o e => g p o (h p o e)
theorem subM.upd {μ μ' : MU} {a : Addr} {o : OB} (h : subM μ μ') (n : μ a = none) : subM μ (updM μ' a o) := fun b u e => by
  rw [updM_ne (fun z => by rw [z, n] at e; cases e)]; exact h b u e
theorem subM.none {μ μ' : MU} {a : Addr} (h : subM μ μ') (n : μ' a = none) : μ a = none := by
  cases e : μ a with
  | none => rfl
  | some o => rw [h a o e] at n; cases n
theorem aCat_g {x y : AV} {xs ys : List AV} {μ : MU} {Q : PQ} (h1 : isL μ x xs) (h2 : isL μ y ys) (f1 : fullL x xs) (f2 : fullL y ys) (hl : xs.length + ys.length ≤ 100000) (q : ∀ a μ', μ a = none → μ' a = some (.lst (xs ++ ys)) → subM μ μ' → Q (.ref a) μ') : aCat true x y μ Q :=
  aCat_o h1 h2 f1 f2 hl fun a ha => q a _ ha updM_same (subM_own ha)
theorem dropQ.sub {P : PQ} {av : AV} {μ μ' : MU} (s : subM μ μ') (h : P av μ) : dropQ P av μ' := ⟨μ, av, s, .inl rfl, h⟩
theorem dropQ.subrd {P : PQ} {k j : Bool} {x : PyData} {μ μ' : MU} (s : subM μ μ') (w : j = true → k = true ∨ flatD' x = true) (h : P (.dat j x) μ) : dropQ P (.dat k x) μ' := ⟨μ, _, s, .inr ⟨k, j, x, rfl, rfl, w⟩, h⟩
theorem at_all {α : Type} {xs : List α} {v : Int} {p : α → Prop} (h0 : 0 ≤ v) (h1 : v < xs.length) (h : ∀ x ∈ xs, p x) : ∃ x, atI xs v = some x ∧ p x := by
  obtain ⟨x, hx, hat⟩ := at_cases h0 h1
  exact ⟨x, hat, h x hx⟩
end Fv

/-! ### the text of data, an empty dict among them -/
namespace Fv
open PySem PySem.Spec PyProof.Rows L2
section
variable {X : Cx} {pins : List (Addr × Obj)} {σ : L2.St} {H : Hp} {s : Shared}
theorem dct_reads (J : Inv X pins σ H s) {a : Addr} (e : H a = some (.dK [])) : Reads s.heap (.ref a) (.dict []) [a] ∧ (a == sysModules) = false := by
  obtain ⟨_, h2, ws, kv, ob, es, ep, g1, g2, g3, g4, g5, g6⟩ := dk_of J.hok e
  cases kv
  have ez : es.toList = [] := by
    cases z : es.toList with
    | nil => rfl
    | cons y r => rw [z] at g5; cases g5
  refine ⟨?_, h2⟩
  have r1 : ReadsAll s.heap (es.toList.map (·.key)) (([] : List (PyData × PyData)).map (·.1)) [] := by rw [ez]; exact .nil
  have r2 : ReadsAll s.heap (es.toList.map (·.val)) (([] : List (PyData × PyData)).map (·.2)) [] := by rw [ez]; exact .nil
  exact Reads.dict g1 g2.1 g3 r1 r2
mutual
theorem Dq.look (J : Inv X pins σ H s) : ∀ (d : PyData) (v : V) (u : Value), Dq X.K H v d → RelV v u → ∃ as, Reads s.heap u d as
  | .none, _, _, h, r => by cases h; cases r; exact ⟨_, .none⟩
  | .bool b, _, _, h, r => by cases h; cases r; exact ⟨_, .bool b⟩
  | .int i, _, _, h, r => by
    cases h
    rcases r with ⟨t, e⟩
    rw [e]; exact ⟨_, .int i t⟩
  | .str y, _, _, h, r => by
    cases h
    rcases r with ⟨t, e⟩
    rw [e]; exact ⟨_, .str y t⟩
  | .list es, _, _, h, r => by
    cases h with
    | lst hq hr =>
      cases r
      have q := J.list hq
      rcases q with ⟨vals, rel, ⟨ob, n, g1, g2, g3, g4⟩, g5⟩
      rcases Dq.lookAll J es _ vals hr rel with ⟨as, g6⟩
      exact ⟨_, .list g1 g2 g4 g6⟩
  | .tuple es, _, _, h, r => by
    cases h with
    | tup hq hr =>
      cases r
      have q := J.tuple hq
      rcases q with ⟨vals, rel, ⟨ob, g1, g2, n, g3⟩, g4⟩
      rcases Dq.lookAll J es _ vals hr rel with ⟨as, g6⟩
      exact ⟨_, .tuple g1 g2 g3 g6⟩
  | .dict kvs, _, _, h, r => by
    cases h with
    | dct e => cases r; exact ⟨_, (dct_reads J e).1⟩
theorem Dq.lookAll (J : Inv X pins σ H s) : ∀ (es : List PyData) (vs : List V) (us : List Value), DqAll X.K H vs es → Vals vs us → ∃ as, ReadsAll s.heap us es as
  | [], _, _, h, r => by cases h; cases r; exact ⟨_, .nil⟩
  | e :: es, _, _, h, r => by
    cases h with
    | cons h1 h2 => cases r with
      | cons r1 r2 =>
        rcases Dq.look J e _ _ h1 r1 with ⟨as, g1⟩
        rcases Dq.lookAll J es _ _ h2 r2 with ⟨bs, g2⟩
        exact ⟨_, .cons g1 g2⟩
end
theorem mem_all_le {es : List PyData} {n : Nat} (h : (listText (PyData.shownAll es)).length ≤ n) : ∀ t ∈ PyData.shownAll es, t.length ≤ n := fun t ht => Nat.le_trans (listText_mem_le ht) h
theorem mem_tup_le {es : List PyData} {n : Nat} (h : (tupleText (PyData.shownAll es)).length ≤ n) : ∀ t ∈ PyData.shownAll es, t.length ≤ n := fun t ht => Nat.le_trans (tupleText_mem_le ht) h
mutual
/-- the text of what stands for such data -/
theorem Dq.text (J : Inv X pins σ H s) : ∀ (d : PyData) (v : V) (u : Value), Dq X.K H v d → RelV v u → d.showable = true → d.shown.length ≤ sizeLine → ∃ bs, ReadAtMost s.heap d.depth bs ∧ ReprK X.prog X.w bs s.heap d.depth u d.shown
  | .list es, v, u, h, r, hs, hz => by
    rcases Dq.look J _ _ _ h r with ⟨as, rd⟩
    cases h with
    | lst hq hr =>
      cases r
      have q := J.list hq
      rcases q with ⟨vals, rel, ⟨ob, n, g1, g2, g3, g4⟩, g5⟩
      have hz1 : (listText (PyData.shownAll es)).length ≤ sizeLine := by simpa only [PyData.shown] using hz
      have hs1 : PyData.showableAll es = true := by simpa [PyData.showable] using hs
      rcases Dq.textAll J es _ vals hr rel hs1 (mem_all_le hz1) with ⟨bs, k1, k2⟩
      have out : _ ∉ bs := not_mem_of_deeper rd (by simp only [PyData.depth]; exact Nat.lt_succ_self _) k1
      refine ⟨_ :: bs, ReadAtMost.cons rd (by simp only [PyData.depth]; exact Nat.le_succ _) k1, ?_⟩
      simp only [PyData.depth, PyData.shown]
      cases vals with
      | nil =>
        cases es with
        | nil => exact .listEmpty g1 g2 g4
        | cons y ys => have := k2.length_eq; simp [PyData.shownAll] at this
      | cons y ys => exact .list g1 g2 g4 out (by have := k2.length_eq; simpa using this) fun i y' e => k2.item i y' (by simpa using e)
  | .tuple es, v, u, h, r, hs, hz => by
    rcases Dq.look J _ _ _ h r with ⟨as, rd⟩
    cases h with
    | tup hq hr =>
      cases r
      have q := J.tuple hq
      rcases q with ⟨vals, rel, ⟨ob, g1, g2, n, g3⟩, g4⟩
      have hz1 : (tupleText (PyData.shownAll es)).length ≤ sizeLine := by simpa only [PyData.shown] using hz
      have hs1 : PyData.showableAll es = true := by simpa [PyData.showable] using hs
      rcases Dq.textAll J es _ vals hr rel hs1 (mem_tup_le hz1) with ⟨bs, k1, k2⟩
      have out : _ ∉ bs := not_mem_of_deeper rd (by simp only [PyData.depth]; exact Nat.lt_succ_self _) k1
      refine ⟨_ :: bs, ReadAtMost.cons rd (by simp only [PyData.depth]; exact Nat.le_succ _) k1, ?_⟩
      simp only [PyData.depth, PyData.shown]
      exact .tuple g1 g2 g3 out k2
  | .dict kvs, v, u, h, r, hs, hz => by
    cases h with
    | dct e =>
      cases r
      rcases dct_reads J e with ⟨rd, ns⟩
      exact ReprK.of_reads rd hs (fun _ hm => by rw [List.mem_singleton] at hm; rw [← hm] at ns; simp at ns) hz
  | .none, v, u, h, r, hs, hz => by rcases Dq.look J _ _ _ h r with ⟨as, rd⟩; exact ReprK.of_reads rd hs (fun z => by cases z) hz
  | .bool b, v, u, h, r, hs, hz => by rcases Dq.look J _ _ _ h r with ⟨as, rd⟩; exact ReprK.of_reads rd hs (fun z => by cases z) hz
  | .int b, v, u, h, r, hs, hz => by rcases Dq.look J _ _ _ h r with ⟨as, rd⟩; exact ReprK.of_reads rd hs (fun z => by cases z) hz
  | .str b, v, u, h, r, hs, hz => by rcases Dq.look J _ _ _ h r with ⟨as, rd⟩; exact ReprK.of_reads rd hs (fun z => by cases z) hz
theorem Dq.textAll (J : Inv X pins σ H s) : ∀ (es : List PyData) (vs : List V) (us : List Value), DqAll X.K H vs es → Vals vs us → PyData.showableAll es = true → (∀ t ∈ PyData.shownAll es, t.length ≤ sizeLine) → ∃ bs, ReadAtMost s.heap (PyData.depthAll es) bs ∧ ReprAllK X.prog X.w bs s.heap (PyData.depthAll es) us (PyData.shownAll es)
  | [], _, _, h, r, _, _ => by cases h; cases r; exact ⟨[], (fun _ q => nomatch q), .nil⟩
  | e :: es, _, _, h, r, hs, hz => by
    cases h with
    | cons h1 h2 => cases r with
      | cons r1 r2 =>
        have hs2 : (PyData.showable e && PyData.showableAll es) = true := hs
        rw [Bool.and_eq_true] at hs2
        simp only [PyData.shownAll, List.mem_cons] at hz
        rcases Dq.text J e _ _ h1 r1 hs2.1 (hz _ (.inl rfl)) with ⟨b1, k1, k2⟩
        rcases Dq.textAll J es _ _ h2 r2 hs2.2 (fun t ht => hz t (.inr ht)) with ⟨b2, k3, k4⟩
        refine ⟨b1 ++ b2, ReadAtMost.append (k1.mono ?_) (k3.mono ?_), ?_⟩
        · simp only [PyData.depthAll]; exact Nat.le_max_left _ _
        · simp only [PyData.depthAll]; exact Nat.le_max_right _ _
        · simp only [PyData.depthAll, PyData.shownAll]
          exact .cons ((k2.more fun b q => List.mem_append.mpr (.inl q)).level_le (Nat.le_max_left _ _)) (k4.more_le (fun b q => List.mem_append.mpr (.inr q)) (Nat.le_max_right _ _))
end
end
def rReprQ (K : PySem.W.Frag) : List V → Hp → VK → Prop := fun xs H Q => ∃ x d, xs = [x] ∧ Dq K H x d ∧ d.showable = true ∧ d.depth ≤ 64 ∧ d.shown.length ≤ sizeLine ∧ Q (.str d.shown) H
section
variable {X : Cx}
theorem call_reprQ (hg : X.A.guards = some []) (hu : X.A.units + 66 < cLine) : CallR X (.builtin "repr") (rReprQ X.K) := by
  intro pins s σ H xs us Q J r h
  obtain ⟨x, d, rfl, hd, hs, hdep, hz, q⟩ := h
  obtain ⟨u, rfl, rx⟩ := vals1 r
  have fin : ∀ (h' : Heap) (u' : Tok) (tk : Nat), (∀ b o, s.heap.get? b = some o → h'.get? b = some o) → EP X pins σ Q (.str d.shown u') { s with heap := h', toks := tk } := fun h' u' tk kp =>
    ⟨.str d.shown, H, J.kept (t' := tk) kp, ⟨_, rfl⟩, q⟩
  cases d with
  | list es =>
    rcases Dq.look J _ _ _ hd rx with ⟨as, rd⟩
    cases hd with
    | lst hq hr =>
      cases rx
      have q0 := J.list hq
      rcases q0 with ⟨vals, rel, ⟨ob, n, g1, g2, g3, g4⟩, g5⟩
      have hz1 : (listText (PyData.shownAll es)).length ≤ sizeLine := by simpa only [PyData.shown] using hz
      have hs1 : PyData.showableAll es = true := by simpa [PyData.showable] using hs
      rcases Dq.textAll J es _ vals hr rel hs1 (mem_all_le hz1) with ⟨bs, k1, k2⟩
      have out : _ ∉ bs := not_mem_of_deeper rd (by simp only [PyData.depth]; exact Nat.lt_succ_self _) k1
      have hdep1 : PyData.depthAll es + 1 ≤ 64 := by simpa [PyData.depth] using hdep
      refine call_repr_slot (by omega) ⟨ob, g1, g2⟩ F.slot_list_repr.toG ?_
      simp only [PyData.shown] at fin
      cases vals with
      | nil =>
        cases es with
        | nil => exact call_list_repr_empty ⟨ob, g1, g2⟩ g1 g4 ⟨_, _, rfl, fin s.heap _ _ fun _ _ e => e⟩
        | cons y ys => have := k2.length_eq; simp [PyData.shownAll] at this
      | cons y ys => exact call_list_reprK g1 g2 g4 out (by have := k2.length_eq; simpa using this) (fun i y' e => k2.item i y' (by simpa using e)) hg (fun b _ => Clear.nil b) (by show X.A.units + 1 + _ < cLine; omega) (fun _ _ e => e) (fun h' u' tk kp => ⟨_, _, rfl, fin h' u' tk kp⟩) hz1
  | tuple es =>
    rcases Dq.look J _ _ _ hd rx with ⟨as, rd⟩
    cases hd with
    | tup hq hr =>
      cases rx
      have q0 := J.tuple hq
      rcases q0 with ⟨vals, rel, ⟨ob, g1, g2, n, g3⟩, g4⟩
      have hz1 : (tupleText (PyData.shownAll es)).length ≤ sizeLine := by simpa only [PyData.shown] using hz
      have hs1 : PyData.showableAll es = true := by simpa [PyData.showable] using hs
      rcases Dq.textAll J es _ vals hr rel hs1 (mem_tup_le hz1) with ⟨bs, k1, k2⟩
      have out : _ ∉ bs := not_mem_of_deeper rd (by simp only [PyData.depth]; exact Nat.lt_succ_self _) k1
      have hdep1 : PyData.depthAll es + 1 ≤ 64 := by simpa [PyData.depth] using hdep
      refine call_repr_slot (by omega) ⟨ob, g1, g2⟩ F.slot_tuple_repr ?_
      simp only [PyData.shown] at fin
      exact call_tuple_reprK g1 g2 g3 out k2 hg (fun b _ => Clear.nil b) (by show X.A.units + 1 + _ < cLine; omega) (fun _ _ e => e) (fun h' u' tk kp => ⟨_, _, rfl, fin h' u' tk kp⟩) hz1
  | dict kvs =>
    cases hd with
    | dct e =>
      cases rx
      obtain ⟨_, h2, ws, kv, ob, es, ep, g1, g2, g3, g4, g5, g6⟩ := dk_of J.hok e
      cases kv
      have ez : es.toList = [] := by
        cases z : es.toList with
        | nil => rfl
        | cons y r => rw [z] at g5; cases g5
      refine call_repr_slot (by omega) ⟨ob, g1, g2.1⟩ F.slot_dict_repr ?_
      exact call_dict_reprK (as := []) (ps := []) (d := 0) g1 g2.1 g3 h2 (by simp) (by rw [ez]; exact .nil) hg (fun b _ => Clear.nil b) (by show X.A.units + 1 + _ < cLine; omega) (fun _ _ e => e) (fun h' u' tk kp => ⟨_, _, rfl, fin h' u' tk kp⟩) hz
  | none => cases hd; cases rx; exact P.repr_of_none (fin s.heap _ _ fun _ _ e => e)
  | bool b =>
    cases hd; cases rx
    refine P.repr_of_bool ?_
    have := fin s.heap s.toks (s.toks + 1) fun _ _ e => e
    cases b <;> exact this
  | int i =>
    cases hd
    rcases rx with ⟨t, e⟩
    have hi : i.natAbs.log2 < 1920 := by simpa [PyData.showable] using hs
    rw [e]
    exact P.repr_of_int hi (fin s.heap _ _ fun _ _ e => e)
  | str y =>
    cases hd
    rcases rx with ⟨t, e⟩
    rw [e]
    exact P.repr_of_str (fin s.heap _ _ fun _ _ e => e) hz
end
section
variable {K : PySem.W.Frag} {R : RK}
def bReprQ : List AV → MU → PQ → Prop := fun xs μ Q => ∃ x d, xs = [x] ∧ isD μ x d ∧ d.showable = true ∧ d.depth ≤ 64 ∧ d.shown.length ≤ sizeLine ∧ Q (.dat true (.str d.shown)) μ
theorem cd_reprQ : CallD K R (rReprQ K) bReprQ := by
  rintro A H μ vs _ Qc Q W r kq ⟨x, d, rfl, hd, h1, h2, h3, q⟩
  obtain ⟨v, rfl, r1⟩ := r.one
  exact ⟨v, d, rfl, r1.data W hd, h1, h2, h3, kq.s W q⟩
end
end Fv

/-! data whose text is not long -/
namespace Fv
open PySem PySem.Spec PyProof.Rows L2
structure Sh (D W : Nat) (d : PyData) : Prop where
  short : d.leavesShort 70 = true
  shows : d.showable = true
  deep : d.depth ≤ D
  size : d.weight ≤ W
theorem sh_int {i : Int} (h : i.natAbs < 10 ^ 62) : Sh 0 300 (.int i) := by
  have h1 : (PyData.shown (.int i)).length ≤ 70 := by
    have := int_text_length_le10 (a := i) (k := 62) (by decide) h
    show (Str.ofString (toString i)).length ≤ 70
    rw [PySem.ofString_length]; omega
  have h2 : i.natAbs.log2 ≤ 250 := by
    by_cases h0 : i.natAbs = 0
    · rw [h0]; decide
    · have := (Nat.log2_lt h0 (k := 251)).mpr (by have : (10 : Nat) ^ 62 < 2 ^ 251 := by decide
                                                  exact Nat.lt_trans h this)
      omega
  refine ⟨?_, ?_, by simp [PyData.depth], by simp only [PyData.weight]; split <;> omega⟩
  · show decide ((PyData.shown (.int i)).length ≤ 70) = true
    exact decide_eq_true h1
  · show decide (i.natAbs.log2 < 1920) = true
    exact decide_eq_true (by omega)
theorem sh_str {x : Str} (h : (x.cps.toList.all fun c => decide (c < 16 ^ 8)) = true) (hl : x.length ≤ 100) : Sh 0 300 (.str x) := by
  refine ⟨h, rfl, by simp [PyData.depth], ?_⟩
  have e : x.length = x.cps.size := rfl
  simp only [PyData.weight]
  omega
theorem sh_none : Sh 0 300 .none := ⟨rfl, rfl, by simp [PyData.depth], by simp [PyData.weight]⟩
theorem sh_bool {b : Bool} : Sh 0 300 (.bool b) := ⟨rfl, rfl, by simp [PyData.depth], by simp [PyData.weight]⟩
theorem sh_dict : Sh 2 300 (.dict []) := ⟨rfl, rfl, by simp [PyData.depth, PyData.depthKv], by simp [PyData.weight, PyData.weightKv]⟩
theorem sh_mono {D D' W W' : Nat} {d : PyData} (h : Sh D W d) (hD : D ≤ D') (hW : W ≤ W') : Sh D' W' d := ⟨h.short, h.shows, Nat.le_trans h.deep hD, Nat.le_trans h.size hW⟩
theorem sh_all {D W : Nat} : ∀ {es : List PyData}, (∀ e ∈ es, Sh D W e) → PyData.leavesShortAll 70 es = true ∧ PyData.showableAll es = true ∧ PyData.depthAll es ≤ D + 1 ∧ PyData.weightAll es ≤ (W + 1) * es.length
  | [], _ => ⟨rfl, rfl, by simp [PyData.depthAll], by simp [PyData.weightAll]⟩
  | e :: r, h => by
    obtain ⟨a, b, d, f⟩ := sh_all (es := r) fun x hx => h x (List.mem_cons_of_mem _ hx)
    have g := h e List.mem_cons_self
    refine ⟨?_, ?_, ?_, ?_⟩
    · show (PyData.leavesShort 70 e && PyData.leavesShortAll 70 r) = true
      rw [g.short, a]; rfl
    · show (PyData.showable e && PyData.showableAll r) = true
      rw [g.shows, b]; rfl
    · have := g.deep
      simp only [PyData.depthAll]
      omega
    · have := g.size
      simp only [PyData.weightAll, List.length_cons, Nat.mul_add, Nat.mul_one]
      omega
theorem sh_list {D W : Nat} {es : List PyData} (h : ∀ e ∈ es, Sh D W e) : Sh (D + 2) ((W + 1) * es.length + 5) (.list es) := by
  obtain ⟨a, b, d, f⟩ := sh_all h
  exact ⟨a, b, by simp only [PyData.depth]; omega, by simp only [PyData.weight]; omega⟩
theorem sh_tuple {D W : Nat} {es : List PyData} (h : ∀ e ∈ es, Sh D W e) : Sh (D + 2) ((W + 1) * es.length + 5) (.tuple es) := by
  obtain ⟨a, b, d, f⟩ := sh_all h
  exact ⟨a, b, by simp only [PyData.depth]; omega, by simp only [PyData.weight]; omega⟩
/-- a list or a tuple of at most n such -/
theorem sh_seq {D W n : Nat} {d : PyData} {es : List PyData} (e : d = .list es ∨ d = .tuple es) (hn : es.length ≤ n) (h : ∀ e ∈ es, Sh D W e) : Sh (D + 2) ((W + 1) * n + 5) d := by
  have hw : (W + 1) * es.length + 5 ≤ (W + 1) * n + 5 := Nat.add_le_add_right (Nat.mul_le_mul_left _ hn) _
  rcases e with rfl | rfl
  · exact sh_mono (sh_list h) (Nat.le_refl _) hw
  · exact sh_mono (sh_tuple h) (Nat.le_refl _) hw
theorem Sh.fits {D W : Nat} {d : PyData} (h : Sh D W d) (hW : W ≤ 100000) : d.shown.length ≤ sizeLine := by
  have h1 := PyData.shown_le 70 (by decide) d h.short
  have h2 : (70 + 2) * d.weight ≤ 72 * 100000 := Nat.mul_le_mul (by omega) (Nat.le_trans h.size hW)
  rw [sizeLine_eq]
  omega
end Fv

/-! A law's def run in the layer of data. -/
namespace Fv
open PySem PySem.Spec PyProof.Rows L2
def fd_law (x : AV) (μ : MU) (P : PQ) (X : PXq) : Prop := ∃ ns : List Int, x = .dat false (.list (ns.map PyData.int)) ∧ ns.length ≤ 63 ∧ ∀ μ', P (bAV true) μ'
theorem dq_ints {K : PySem.W.Frag} {H : Hp} : ∀ ns : List Int, DqAll K H (ns.map V.int) (ns.map PyData.int)
  | [] => .nil
  | n :: r => .cons (.int n) (dq_ints r)
section
variable {P : Program} {w : World} {K : PySem.W.Frag} {R : RK} {mg : Str → Option Value} {base : Heap}
def aIsBl : AV → AV → MU → PQ → Prop := fun x y μ Q => ∃ i j, isB x i ∧ isB y j ∧ Q (bAV (decide (i = j))) μ
theorem od_isBl : OpD K R rIsB aIsBl := by
  rintro A H μ x y ax ay Qc Q W rx ry kq ⟨i, j, hi, hj, q⟩
  exact ⟨i, j, rx.b hi, ry.b hj, kq.b W q⟩
theorem run_defD {nm : Str} {st : Stmt} {N : List Str} {p : Str} {k : Nat} {A : Around} {outer : List Env} {s : Shared} {H : Hp} {a fa : Addr} {ns : List Int}
    (D : DefAt K mg nm st [p]) (S : FnScope N [p] (defScope st)) (hfa : mg nm = some (.ref fa)) (room : Room (k + 1) A) (en : Env0 P w K mg base A outer s H) (hS : SqL K H a (ns.map V.int)) (hn : ns.length ≤ 63)
    (hbody : ∀ (f : Addr) (cdv : Value), Room k (A.deeper (envOfC nm (defScope st) s.heap.objs.size f cdv)) → ∃ t, PSs (cxOf CX0 P w K mg base N nm (defScope st) f cdv A outer s H E0).nox (defBody st) t ∧
      ∃ ws, DS K R (fun c d _ H => E0 c d H) t ws ∧ ∀ avs μ P X, fd1 fd_law avs μ P X → ws (entry P X) (startA N.length avs) μ) :
    codeAny (model P w) A (.call (.ref fa) ⟨[.ref a], []⟩) (CR CX0 outer P w H s (fun v _ => v = .bl true) E0) s := by
  obtain ⟨f, fd, hm, F, hb⟩ := D
  obtain rfl : f = fa := by rw [hm] at hfa; injection hfa with e; injection e
  refine run_def (N := N) (ps := [p]) (vs := [.ref a]) (us := [.ref a]) F S room en (hb s [.ref a] (run_def.e_kin en) rfl) (.cons rfl .nil) rfl fun cdv hr => ?_
  obtain ⟨t, ht, ws, hd, hw⟩ := hbody f cdv hr
  refine ⟨t, ht, body_of (f := fd1 fd_law) (Q := fun v _ => v = .bl true) hd hw ⟨H, fun _ => none, [.dat false (.list (ns.map PyData.int))], fun av _ => av = bAV true, noX, ⟨Same.refl _, fun _ _ z => by cases z⟩, .cons (.lst hS (dq_ints ns)) .nil, ⟨_, rfl, ns, rfl, hn, fun _ => rfl⟩, ?_, fun _ _ _ _ _ _ z => z.elim⟩⟩
  intro A' H' μ' v av _ _ rv e
  subst e
  cases rv
  rfl
end
end Fv

/-! Tuples put together, cut; a number's text. -/
namespace Fv
open PySem PySem.Spec PyProof.Rows L2
section
variable {K : PySem.W.Frag} {R : RK} {Wc : WX} {A H : Hp} {μ : MU}
theorem newT_dats {ds : List PyData} {xs : List AV} {Q : PQ} (e : xs = ds.map (AV.dat true)) (h : newT xs μ Q) : Q (.dat true (.tuple ds)) μ := by
  subst e
  obtain ⟨ds', h1, q⟩ := h
  rw [dats_map] at h1
  obtain rfl := Option.some.inj h1
  rw [all_frT] at q
  exact q
def aCatT : AV → AV → MU → PQ → Prop := fun x y μ Q => ∃ ds es, x = .dat true (.tuple ds) ∧ y = .dat true (.tuple es) ∧ ds.length + es.length ≤ 100000 ∧ newT ((ds ++ es).map (AV.dat true)) μ Q
theorem od_catT : OpD K R (rCatA K) aCatT := by
  rintro A H μ x y ax ay Qc Q W rx ry kq ⟨ds, es, rfl, rfl, hn, q⟩
  obtain ⟨a, vs, rfl, h1, h2⟩ := Tr.inv_tup rx
  obtain ⟨b, us, rfl, h3, h4⟩ := Tr.inv_tup ry
  have r1 := RVs.of_tr (K := K) h2
  have r2 := RVs.of_tr (K := K) h4
  have l1 := r1.length
  have l2 := r2.length
  rw [List.length_map] at l1 l2
  refine ⟨a, b, vs, us, rfl, rfl, SqT.of (W.sub _ _ h1), SqT.of (W.sub _ _ h3), sz_of (by omega), fun e => ?_, fun _ e => ?_, fun _ _ p hp => ?_⟩
  · have : ds = [] := List.eq_nil_of_length_eq_zero (by rw [← l1, e]; rfl)
    exact kq _ _ _ _ (.dat true (.tuple es)) Stp.refl W (show Tr A _ (.tuple es) from .tup h3 h4) (newT_dats (by rw [this]; rfl) q)
  · have : es = [] := List.eq_nil_of_length_eq_zero (by rw [← l2, e]; rfl)
    exact kq _ _ _ _ (.dat true (.tuple ds)) Stp.refl W (show Tr A _ (.tuple ds) from .tup h1 h2) (newT_dats (by rw [this, List.append_nil]) q)
  · exact newT_ok W kq (by rw [List.map_append]; exact r1.app r2) hp q
def wSlT (we : WE') (wl wh : WO') : WE' := fun l μ Q X => we l μ (fun x μ1 => wl l μ1 (fun lo μ2 => wh l μ2 (fun hi μ3 => ∃ ds, x = .dat true (.tuple ds) ∧ newT (cutA (ds.map (AV.dat true)) lo hi) μ3 Q) X) X) X
theorem d_slT {te : TE} {tl th : TO} {we : WE'} {wl wh : WO'} (he : DE K R Wc te we) (hl : DO K R Wc tl wl) (hh : DO K R Wc th wh) : DE K R Wc (tSl (rSlA K) te tl th) (wSlT we wl wh) := ⟨fun A H μ σ l Qc Q X W L kq kx h =>
  he.run A H μ σ l _ _ X W L (fun A1 H1 μ1 x ax s1 W1 r1 q1 => hl.run A1 H1 μ1 σ l _ _ X W1 (L.mono s1.grow) (fun A2 H2 μ2 lo s2 W2 q2 =>
    hh.run A2 H2 μ2 σ l _ _ X W2 (L.mono (s1.trans s2).grow) (fun A3 H3 μ3 hi s3 W3 ⟨ds, hx, q3⟩ => by
      subst hx
      have r3 := RV.mono (s2.trans s3).grow r1
      obtain ⟨a, vs, rfl, h1, h2⟩ := Tr.inv_tup r3
      have rr := RVs.of_tr (K := K) h2
      have l1 := rr.length
      have kq3 := kq.go ((s1.trans s2).trans s3)
      refine ⟨a, vs, rfl, SqT.of (W3.sub _ _ h1), fun ⟨e1, e2⟩ => ?_, fun _ p hp => newT_ok W3 kq3 (rr.cut lo hi) hp q3⟩
      refine kq3 _ _ _ _ (.dat true (.tuple ds)) Stp.refl W3 (show Tr A3 _ (.tuple ds) from .tup h1 h2) (newT_dats ?_ q3)
      unfold cutA
      rw [← l1, e1, e2, List.drop_zero, Nat.sub_zero, l1, List.take_length]) (kx.go (s1.trans s2)) q2) (kx.go s1) q1) kx h⟩
/-- try .. except X: suite, where no other error comes out -/
def wTry0 (xm : Value → Prop) (wb ws : WS') : WS' := fun D l μ => wb { D with xc := fun c l' μ' => xm c ∧ ws D l' μ' } l μ
theorem ds_try0 {c : Value} {xm : Value → Prop} {tb : WX → TS} {ts : Addr → Value → Option Addr → TS} {wb ws : WS'} (hx : ∀ k, xm k → PySem.W.exmOne K k c = some true) (hb : ∀ W : WX, DS K R W (tb W) wb) (hs : ∀ a k d, DS K R Wc (ts a k d) ws) :
    DS K R Wc (fun D σ H => tb (wOnly K c ts (fun _ _ _ _ => False) D) D σ H) (wTry0 xm wb ws) := ⟨fun A H μ σ l Dc D W e r cn q =>
  (hb (wOnly K c ts (fun _ _ _ _ => False) Dc)).run A H μ σ l Dc { D with xc := fun c l' μ' => xm c ∧ ws D l' μ' } W e r ⟨cn.nx, cn.bk, cn.ct, cn.rt, fun A' H' μ' σ' l' k s W' e' r' ⟨hk, h1⟩ =>
    ⟨true, hx k hk, fun _ a _ => (hs a k none).run A' H' μ' σ' l' Dc D W' e' r' (cn.go s) h1, fun z => nomatch z⟩⟩ q⟩
abbrev rStrI : List V → Hp → VK → Prop := fun xs H Q => ∃ i, xs = [.int i] ∧ i.natAbs.log2 < 1920 ∧ Q (.str (toString i)) H
def bStr : List AV → MU → PQ → Prop := fun xs μ Q => ∃ x i, xs = [x] ∧ isI x i ∧ i.natAbs.log2 < 1920 ∧ Q (.dat true (.str (toString i))) μ
theorem cd_str : CallD K R rStrI bStr := by
  rintro A H μ vs _ Qc Q W r kq ⟨x, i, rfl, hi, hl, q⟩
  obtain ⟨v, rfl, r1⟩ := r.one
  exact ⟨i, by rw [r1.i hi], hl, kq.s W q⟩
end
end Fv

/-! A caught exception that is kept behind its suite, and asked for its class. -/
namespace Fv
open PySem PySem.Spec PyProof.Rows L2
section
variable {X : Cx} {pins : List (Addr × Obj)} {σ : L2.St} {H : Hp} {s : Shared}
/-- an object that the entry's heap had not is tracked from now on -/
theorem inv_track {a : Addr} {o : HO} (I : Inv X pins σ H s) (h0 : X.s_0.heap.get? a = none) (hn : H a = none) (nL : a ≠ X.env.locals) (nc : ∀ x c, X.env.cells.lookup x = some c → c ≠ a) (np : ∀ p ∈ X.pn ++ pins, p.1 ≠ a) (new : ObjOk X.prog X.w (upd H a o) s.heap a o) : Inv X pins σ (upd H a o) s :=
  ⟨I.ok, I.os, I.bare, ⟨I.base.keep, I.base.slot, fun b u q n hx => by rw [upd_ne (fun z => by rw [z, h0] at q; cases q)]; exact I.base.free b u q n hx, I.base.there,
      fun b xs q => by rw [upd_ne (ne_of_none (I.base.tups b xs q) hn)]; exact I.base.tups b xs q,
      fun b u xs q => by rw [upd_ne (ne_of_none (I.base.frzs b u xs q) hn)]; exact I.base.frzs b u xs q,
      fun b ps q => by
        obtain ⟨m, e⟩ := I.base.tbls b ps q
        exact ⟨m, by rw [upd_ne (ne_of_none e hn)]; exact e⟩⟩,
    I.loc, I.cell, by rw [upd_ne (Ne.symm nL)]; exact I.free, fun x c e => by rw [upd_ne (nc x c e)]; exact I.freeC x c e,
    fun p hp => by
      obtain ⟨e, n, r⟩ := I.pin p hp
      exact ⟨e, by rw [upd_ne (np p hp)]; exact n, r⟩, I.hok.laidN (fun _ _ z => z) hn new, I.len⟩
theorem inv_suite0 (I : Inv X pins σ H s) (a : Addr) : Inv (X.suite a (X.pn ++ pins)) [] σ H s :=
  ⟨I.ok.suite _ _, I.os, I.bare, I.base, I.loc, I.cell, I.free, I.freeC, fun p hp => I.pin p (by rw [List.append_nil] at hp; exact hp), I.hok, I.len⟩
theorem inv_unsuite0 {a : Addr} {pn' : List (Addr × Obj)} (I : Inv (X.suite a (X.pn ++ pins)) pn' σ H s) (ok : X.Ok) : Inv X pins σ H s :=
  ⟨ok, I.os, I.bare, I.base, I.loc, I.cell, I.free, I.freeC, fun p hp => I.pin p (List.mem_append_left _ hp), I.hok, I.len⟩
end
/-- what the clause wishes of an exception of the body: slot i is its name's, the object is tracked from then on -/
def wAsK (K : PySem.W.Frag) (c : Value) (i : Nat) (ts : TS) (Wout : WX) (D : Ends) : WX := fun cls d σ H =>
  ∃ b, PySem.W.exmOne K cls c = some b ∧ (b = true → ∃ Dc, cls = .ref Dc ∧ d = none ∧ ∀ a, H a = none → ts { nx := fun σ' H' => D.nx (σ'.set i none) H', rt := D.rt, bk := fun σ' H' => D.bk (σ'.set i none) H', ct := fun σ' H' => D.ct (σ'.set i none) H' } (σ.set i (some (.ref a))) (upd H a (ExH Dc a))) ∧
    (b = false → Wout cls d σ H)
section
variable {X : Cx} {x n : Str} {c : Value} {i : Nat} {body suite : List Stmt} {b₀ : Stmt} {np pos pos' : Pos} {tb : WX → TS} {ts : TS} {Wout : WX}
theorem ps_try_asK (hs : X.stack = X.env :: X.outer) (hf : X.env.frame = some X.env.locals) (hN : X.N.Nodup) (hi : X.N[i]? = some n) (hln : X.env.kindOf n = some .local) (hc : Names X x c) (tk : Takes X Wout) (hex : X.ex = [])
    (hb : ∀ (W : WX) (pn : List (Addr × Obj)) (xe : Value → Shared → Prop), Takes (X.tr pn xe) W → PassesOwn (model X.prog X.w) X.A X.env xe → PSs (X.tr pn xe) body (tb W))
    (hsu : ∀ (a : Addr) (pn : List (Addr × Obj)), PSs (X.suite a pn) (b₀ :: suite) ts) :
    PS X (.Try body [.ExceptHandler (some (.Name x np)) (some n) (b₀ :: suite) pos'] [] [] pos) (fun D σ H => tb (wAsK X.K c i ts Wout D) D σ H) := by
  refine ⟨fun pins s σ H D I h => ?_⟩
  have ok := I.ok
  have hfr : X.A.frames = some (X.env :: X.outer) := by rw [ok.frames, hs]
  have hloc : L2.Loc X.env.scope n := .inl hln
  refine wpAny_Try_except ?_
  refine wpAny_mono ((hb (wAsK X.K c i ts Wout D) (X.pn ++ pins) (fun e s₁ => wpAny (model X.prog X.w) X.A (noteFrame e X.env) (fun _ s₂ => wpAny (model X.prog X.w) X.A (setFlight e none) (fun _ s₃ =>
    wpAny (model X.prog X.w) X.A (handleBy e X.env [.ExceptHandler (some (.Name x np)) (some n) (b₀ :: suite) pos']) (SP X pins D) X.xe s₃) X.xe s₂) X.xe s₁) (fun u s' xx => ?_) PassesOwn.looking).run [] s σ H D (I.toTry _) h) (fun f s1 hsp => ?_) (fun e s1 he => he)
  · -- the catch
    obtain ⟨a, B, sI, pins', σ', H', cls, d, rfl, J', nb, up, sky, na, os, ag, b, hb1, hyes, hno⟩ := xx
    have J : Inv X pins σ' H' sI := J'.ofTry ok
    have sky' : Sky B (X.env :: X.outer) a (Zc cls d) X.env.locals s'.heap := by rw [← hs]; exact sky
    show wpAny (model X.prog X.w) X.A (noteFrame (.ref a) X.env) _ _ _
    refine Sky.land Zc.steady hfr hf sky' fun h3 fl3 up3 => ?_
    have J3 : Inv X pins σ' H' { s' with heap := h3 } := J.landed nb fl3.1 (up.trans up3) os ag
    obtain ⟨oe3, vs3, he3, hz3, hd3⟩ := fl3.there
    have notFr : ∀ {h : Heap} {o : Obj} {vs : Array Value}, h.FunFrames B (X.env :: X.outer) → h.get? a = some o → o.data = .fields vs → a ∉ frs (X.env :: X.outer) := fun {h o vs} ff e dd hm => by
      obtain ⟨_, o', e', hnf⟩ := ff.mem hm
      rw [e] at e'; cases e'
      exact hnf _ dd
    have nfr := notFr fl3.2.2.1 he3 hd3
    have nL : a ≠ X.env.locals := fun z => nfr (List.mem_filterMap.mpr ⟨X.env, List.mem_cons_self, by rw [hf, z]⟩)
    have nF : a ∉ X.fs := fun hm => by
      obtain ⟨e, he, q⟩ := List.mem_filterMap.mp hm
      exact nfr (List.mem_filterMap.mpr ⟨e, List.mem_cons_of_mem _ he, q⟩)
    have nI : sI.heap.get? a = none := by
      cases e : sI.heap.get? a with
      | none => rfl
      | some o =>
        have z := nb a o e (by rw [hs]; exact nfr)
        rw [fl3.2.1] at z; cases z
    have h0 : X.s_0.heap.get? a = none := by
      cases e : X.s_0.heap.get? a with
      | none => rfl
      | some o =>
        obtain ⟨o', z⟩ := J.base.there a o e (by rw [hex]; exact fun z => nomatch z)
        rw [nI] at z; cases z
    have np' : ∀ p ∈ X.pn ++ pins, p.1 ≠ a := fun p hp z => by
      have e := (J.pin p hp).1
      rw [z, nI] at e; cases e
    have S3 := J3.suite he3 hd3 na nL nF
    refine wpAny_handleBy_cons (codeAny_handlers_test ?_) (by intro q; cases q)
    have LT : PySem.W.Looks (model X.prog X.w) h3 (typeOf (.ref a)) cls := fun A Q E s k q => wpAny_typeOf_ref (k _ _ he3) (by rw [hz3.1]; exact q)
    have LM := PySem.W.exm_one (M := model X.prog X.w) (J3.kIn) LT hb1
    have test : ∀ {Q : Value → Shared → Prop} {E : Value → Shared → Prop}, Q c { s' with heap := h3 } → wpAny (model X.prog X.w) (X.A.mark (some (.ref a))) (eval (.Name x np) X.env) Q E { s' with heap := h3 } := fun {Q E} q => by
      obtain ⟨hg, hdbg, hm | ⟨hm, hv, hnn⟩⟩ := hc
      · exact ld_glob (X := X.suite a ((a, oe3) :: (X.pn ++ pins))) S3 hg hm q hdbg
      · exact ld_blt (X := X.suite a ((a, oe3) :: (X.pn ++ pins))) S3 hg hm hv q hnn hdbg
    refine test (LM.here ?_)
    cases b with
    | true =>
      obtain ⟨Dc, rfl, rfl, hy⟩ := hyes rfl
      refine codeAny_handlers_suite_as ?_
      refine HandSPX.lands_againZ fl3 fun h4 fl4 up4 => ?_
      have J4 : Inv X pins σ' H' { s' with heap := h4 } := J.landed nb fl4.1 ((up.trans up3).trans up4) os ag
      obtain ⟨oe4, vs4, he4, hz4, hd4⟩ := fl4.there
      have nc : ∀ x c, X.env.cells.lookup x = some c → c ≠ a := fun x c e z => by
        obtain ⟨v, o, ho, hd⟩ := J4.cell x c e
        rw [z] at ho
        rw [show h4.get? a = some o from ho] at he4
        cases he4
        rw [hd] at hd4; cases hd4
      have T4 : Inv X pins σ' (upd H' a (ExH Dc a)) { s' with heap := h4 } := inv_track J4 h0 na nL nc np' ⟨⟨oe4, vs4, he4, hz4, hd4⟩, ⟨oe4, he4⟩, fun h1 h2 ⟨oe, vs, e, z, d⟩ k => ⟨oe, vs, k _ e, z, d⟩⟩
      have S4 := inv_suite0 T4 a
      refine store_ok (X := X.suite a (X.pn ++ pins)) (v := .ref a) S4 hN hi hloc rfl (fun s5 S5 => ?_) (.inr hln)
      refine wpAny_mono ((hsu a (X.pn ++ pins)).run [] s5 _ _ _ S5 (hy a na)) (fun f s6 hsp => ?_) (fun _ _ z => False.elim z)
      have end_ : ∀ {σ6 : L2.St} {H6 : Hp} {Q : Shared → Prop}, Inv (X.suite a (X.pn ++ pins)) [] σ6 H6 s6 → (∀ s7, Inv X pins (σ6.set i none) H6 s7 → Q s7) →
          wpAny (model X.prog X.w) X.A (do bindName X.env n .none; unbindBehindTheSuite X.env n pos') (fun _ s7 => Q s7) X.xe s6 := fun {σ6 H6 Q} S6 hq => gone_ok (inv_unsuite0 S6 ok) hN hi hln hq
      cases f with
      | next =>
        obtain ⟨σ6, H6, S6, q6⟩ := hsp
        exact end_ S6 fun s7 J7 => ⟨_, _, J7, q6⟩
      | brk =>
        obtain ⟨σ6, H6, S6, q6⟩ := hsp
        exact end_ S6 fun s7 J7 => ⟨_, _, J7, q6⟩
      | cont =>
        obtain ⟨σ6, H6, S6, q6⟩ := hsp
        exact end_ S6 fun s7 J7 => ⟨_, _, J7, q6⟩
      | ret u =>
        obtain ⟨v6, σ6, H6, S6, r6, q6⟩ := hsp
        exact end_ S6 fun s7 J7 => ⟨_, _, _, J7, r6, q6⟩
    | false =>
      show wpAny _ X.A (handleBy (.ref a) X.env []) _ _ _
      refine wpAny_handleBy_nil ?_
      obtain ⟨k1, k2, k3, oe, vs, T, oT, ts', he, hz, hd, h1, hr⟩ := id fl3
      unfold PySem.passOn
      refine wpAny_bind (wpAny_field he hd h1 ?_)
      rw [if_neg (show ¬ ((Value.ref T == Value.none) = true) from by simp)]
      have fin : wpAny (model X.prog X.w) X.A (setFlight (.ref a) X.env.frame) (fun _ s4 => wpAny (model X.prog X.w) X.A (throw (.ref a) : Sem Flow) (SP X pins D) X.xe s4) X.xe { s' with heap := h3 } := by
        rw [hf]
        refine HandSPX.setFlight_upZ fl3 fun h4 hh4 up4 => wpAny_throw (tk _ _ ?_)
        exact ⟨a, B, sI, pins, σ', H', cls, d, rfl, J, nb, (up.trans up3).trans up4, .inr (.inr (by rw [hs]; exact hh4)), na, os, ag, hno rfl⟩
      first
        | exact wpAny_bind (wpAny_pure (wpAny_bind fin))
        | exact wpAny_bind fin
  · cases f with
    | next =>
      obtain ⟨σ', H', J', q⟩ := hsp
      exact wpAny_execs_nil ⟨σ', H', J'.ofTry ok, q⟩
    | brk =>
      obtain ⟨σ', H', J', q⟩ := hsp
      exact ⟨σ', H', J'.ofTry ok, q⟩
    | cont =>
      obtain ⟨σ', H', J', q⟩ := hsp
      exact ⟨σ', H', J'.ofTry ok, q⟩
    | ret u =>
      obtain ⟨v, σ', H', J', r, q⟩ := hsp
      exact ⟨v, σ', H', J'.ofTry ok, r, q⟩
end
/-! isinstance of a kept exception -/
def rIsX (K : PySem.W.Frag) : List V → Hp → VK → Prop := fun xs H Q => ∃ (a D : Addr) (c : V) (cv : Value) (b : Bool), xs = [.ref a, c] ∧ H a = some (ExH D a) ∧ ExcC K D ∧ ClsV c cv ∧ PySem.W.kitOne K (.ref D) cv = some b ∧ Q (.bl b) H
def rIsXT (K : PySem.W.Frag) : List V → Hp → VK → Prop := fun xs H Q => ∃ (a D tp : Addr) (cs : List V) (us : List Value) (b : Bool), xs = [.ref a, .ref tp] ∧ H a = some (ExH D a) ∧ ExcC K D ∧ H tp = some (.tup cs) ∧ Paired ClsV cs us ∧ PySem.W.kitAny K (.ref D) us = some b ∧ Q (.bl b) H
section
variable {X : Cx}
theorem exh_at {pins : List (Addr × Obj)} {σ : L2.St} {H : Hp} {s : Shared} {a D : Addr} (I : Inv X pins σ H s) (h : H a = some (ExH D a)) : ∃ oe, PySem.W.InstAt s.heap a oe D none := by
  obtain ⟨⟨oe, vs, hget, hz, hv⟩, _⟩ := I.hok a _ h
  refine ⟨oe, ?_⟩
  obtain ⟨oc, od, oda, osl⟩ := oe
  obtain ⟨h1, h2⟩ := hz
  dsimp only at h1 h2 hv
  subst h1 h2 hv
  exact ⟨hget, rfl, rfl, trivial⟩
theorem call_isX : CallR X (.builtin "isinstance") (rIsX X.K) := by
  intro pins s σ H xs us Q I r h
  obtain ⟨a, D, c, cv, b, rfl, ha, C, hcv, e, q⟩ := h
  obtain ⟨u1, u2, rfl, r1, r2⟩ := vals2 r
  cases (show u1 = Value.ref a from r1)
  have ec := hcv.eq r2
  subst ec
  obtain ⟨oe, J⟩ := exh_at I ha
  exact PySem.W.kia_one (PySem.W.handS_kitx_exc C.hg C.hk C.hs C.hd C.ha C.hn C.ht C.hm) I.kIn J e (fun z => nomatch z) fun tk => ⟨.bl b, H, I.tok tk, rfl, q⟩
theorem call_isXT : CallR X (.builtin "isinstance") (rIsXT X.K) := by
  intro pins s σ H xs us Q I r h
  obtain ⟨a, D, tp, cs, ws, b, rfl, ha, C, hT, k, e, q⟩ := h
  obtain ⟨u1, u2, rfl, r1, r2⟩ := vals2 r
  cases (show u1 = Value.ref a from r1)
  cases (show u2 = Value.ref tp from r2)
  obtain ⟨oe, J⟩ := exh_at I ha
  obtain ⟨_, its, rv, o, h1, h2, n, h3⟩ := (show ObjOk X.prog X.w H s.heap tp (.tup cs) from I.hok tp _ hT)
  have e3 := ClsV.all k rv
  subst e3
  obtain ⟨oc, od, dt, sl⟩ := o
  simp only at h2 h3
  subst h2 h3
  exact PySem.W.kia_tup (PySem.W.handS_kitx_exc C.hg C.hk C.hs C.hd C.ha C.hn C.ht C.hm) I.kIn J h1 e (fun z => nomatch z) fun tk => ⟨.bl b, H, I.tok tk, rfl, q⟩
end
/-! in the layer of data -/
def clsA : AV → Value → Prop | .ty n, v => v = .type n | .ref C, v => v = .ref C | _, _ => False
section
variable {K : PySem.W.Frag} {R : RK} {Wc : WX} {A H A1 H1 : Hp} {μ μ1 : MU} {σ : L2.St}
theorem clsA.v {v : V} {av : AV} {c : Value} (r : RV K A v av) (h : clsA av c) : ClsV v c := by
  cases av with
  | dat k x => exact h.elim
  | ob x => exact h.elim
  | ref C => cases (show v = .ref C from r); cases (show c = .ref C from h); exact .own C
  | ty n => cases (show v = .ty n from r); cases (show c = .type n from h); exact .ty n
theorem clsA_ref {C : Addr} {v : Value} : clsA (.ref C) v ↔ v = .ref C := Iff.rfl
theorem clsA_ty {n : String} {v : Value} : clsA (.ty n) v ↔ v = .type n := Iff.rfl
theorem d_cls {C : Addr} : DE K R Wc (tC (.ref C)) (wC (.ref C)) := ⟨fun A H μ σ l Qc Q X W L kq kx h => kq.at W (av := .ref C) rfl h⟩
def bIsX (K : PySem.W.Frag) : List AV → MU → PQ → Prop := fun xs μ Q => ∃ (a D : Addr) (c : AV) (cv : Value) (b : Bool), xs = [.ref a, c] ∧ μ a = some (.exc a D) ∧ ExcC K D ∧ clsA c cv ∧ PySem.W.kitOne K (.ref D) cv = some b ∧ Q (bAV b) μ
theorem cd_isX : CallD K R (rIsX K) (bIsX K) := by
  rintro A H μ vs _ Qc Q W r kq ⟨a, D, c, cv, b, rfl, hμ, C, hc, e, q⟩
  obtain ⟨v, u, rfl, r1, r2⟩ := r.two
  cases (show v = .ref a from r1)
  obtain ⟨_, ho, h1, rfl⟩ := W.obs a _ hμ
  exact ⟨a, D, u, cv, b, rfl, h1, C, hc.v r2, e, kq.b W q⟩
theorem own_pair : ∀ cs : List Addr, Paired ClsV (cs.map V.ref) (cs.map Value.ref)
  | [] => .nil
  | c :: cs => .cons (.own c) (own_pair cs)
def wIsXT (K : PySem.W.Frag) (wa : WE') (us : List Value) : WE' := fun l μ Q X => wa l μ (fun x μ1 => ∃ (a D : Addr) (b : Bool), x = .ref a ∧ μ1 a = some (.exc a D) ∧ ExcC K D ∧ PySem.W.kitAny K (.ref D) us = some b ∧ Q (bAV b) μ1) X
theorem d_isXT {ta : TE} {tt : TA} {wa : WE'} {cs : List Addr} (ha : DE K R Wc ta wa) (ht : ∀ σ H Q, Q (cs.map V.ref) H → tt σ H Q) (hl : cs.length ≤ 100) : DE K R Wc (tCB (rIsXT K) (tCons ta (tCons (tTup tt) tNil))) (wIsXT K wa (cs.map Value.ref)) := ⟨fun A H μ σ l Qc Q X W L kq kx h =>
  ha.run A H μ σ l _ _ X W L (fun A1 H1 μ1 x ax s1 W1 r1 ⟨a, D, b, ex, hμ, C, e, q1⟩ => by
    subst ex
    cases (show x = .ref a from r1)
    obtain ⟨_, ho, h1, rfl⟩ := W1.obs a _ hμ
    refine ht _ _ _ ⟨sz_of (by rw [List.length_map]; omega), fun p hp => ?_⟩
    have sn := same_new (o := .tup (cs.map V.ref)) hp
    obtain ⟨W2, s2⟩ := W1.extS sn
    exact ⟨a, D, p, _, _, b, rfl, sn _ _ h1, C, upd_same, own_pair cs, e, ((kq.go s1).go s2).b W2 q1⟩) kx h⟩
/-- try .. except X as n: suite, where no other error comes out -/
def endAs (i : Nat) (D : DEnds) : DEnds := { D with nx := fun l μ => D.nx (l.set i none) μ, bk := fun l μ => D.bk (l.set i none) μ, ct := fun l μ => D.ct (l.set i none) μ, xc := fun _ _ _ => False }
def wTryAs (i : Nat) (xm : Value → Addr → Prop) (wb ws : WS') : WS' := fun D l μ => wb { D with xc := fun c l' μ' => ∃ Dc, xm c Dc ∧ ∀ a, μ' a = none → ws (endAs i D) (l'.set i (some (.ref a))) (updM μ' a (.exc a Dc)) } l μ
theorem RL.unset {A : Hp} {l : Loc} (e : σ.length = l.length) (r : RL K A σ l) {i : Nat} : RL K A (σ.set i none) (l.set i none) := by
  refine ⟨by rw [List.length_set, List.length_set, e], ?_⟩
  intro j x hx
  by_cases z : i = j
  · subst z
    by_cases hl : i < l.length
    · rw [List.getElem?_set_self hl] at hx; cases hx
    · rw [List.getElem?_eq_none (by rw [List.length_set]; omega)] at hx; cases hx
  · rw [List.getElem?_set_ne z] at hx
    rw [List.getElem?_set_ne z]
    exact r.at' j x hx
theorem ds_tryAs {c : Value} {i : Nat} {xm : Value → Addr → Prop} {tb : WX → TS} {ts : TS} {wb ws : WS'} (hx : ∀ k Dc, xm k Dc → k = .ref Dc ∧ PySem.W.exmOne K k c = some true) (hb : ∀ W : WX, DS K R W (tb W) wb) (hs : DS K R (fun _ _ _ _ => False) ts ws) :
    DS K R Wc (fun D σ H => tb (wAsK K c i ts (fun _ _ _ _ => False) D) D σ H) (wTryAs i xm wb ws) := ⟨fun A H μ σ l Dc D W e r cn q =>
  (hb (wAsK K c i ts (fun _ _ _ _ => False) Dc)).run A H μ σ l Dc { D with xc := fun c l' μ' => ∃ Dc, xm c Dc ∧ ∀ a, μ' a = none → ws (endAs i D) (l'.set i (some (.ref a))) (updM μ' a (.exc a Dc)) } W e r ⟨cn.nx, cn.bk, cn.ct, cn.rt, fun A' H' μ' σ' l' k s W' e' r' ⟨Cc, hk, h1⟩ => by
    obtain ⟨rfl, hm⟩ := hx k Cc hk
    refine ⟨true, hm, fun _ => ⟨Cc, rfl, rfl, fun a ha => ?_⟩, fun z => nomatch z⟩
    obtain ⟨W2, s2⟩ := W'.own (p := a) (ho := ExH Cc a) (o := .exc a Cc) ha rfl
    have g2 := s.trans s2
    refine hs.run A' _ _ _ _ _ (endAs i D) W2 (by rw [List.length_set, List.length_set, e']) (RL.set e' (r'.mono s2.grow) (v := .ref a) (av := .ref a) rfl) ⟨?_, ?_, ?_, cn.rt.go g2, fun _ _ _ _ _ _ _ _ _ _ z => z.elim⟩ (h1 a (W'.free ha).1)
    · intro A3 H3 μ3 σ3 l3 s3 W3 e3 r3 q3
      exact cn.nx _ _ _ _ _ (g2.trans s3) W3 (by rw [List.length_set, List.length_set, e3]) (RL.unset e3 r3) q3
    · intro A3 H3 μ3 σ3 l3 s3 W3 e3 r3 q3
      exact cn.bk _ _ _ _ _ (g2.trans s3) W3 (by rw [List.length_set, List.length_set, e3]) (RL.unset e3 r3) q3
    · intro A3 H3 μ3 σ3 l3 s3 W3 e3 r3 q3
      exact cn.ct _ _ _ _ _ (g2.trans s3) W3 (by rw [List.length_set, List.length_set, e3]) (RL.unset e3 r3) q3⟩ q⟩
end
end Fv

/-! Loops and comprehensions over any walk, in the layer of data: two lists side by side, with numbers, backwards, a text's signs. -/
namespace Fv
open PySem PySem.Spec PyProof.Rows L2
section
variable {K : PySem.W.Frag} {R : RK} {Wc : WX} {A H A1 H1 : Hp} {μ μ1 : MU} {σ : L2.St}
/-- what a walk's turns give: the data that xs tells, perhaps in new tuples -/
structure WalkD (K : PySem.W.Frag) (R : RK) (A H : Hp) (μ : MU) (J : It) (xs : List AV) : Prop where
  ex : ∃ (G : Hp → Prop) (Y : Nat → Hp → V → Hp → Prop), Walk J xs.length G Y ∧ (∀ A' H', Same A A' → Same A' H' → G H') ∧
    ∀ A' Hc μ' i x H', i < xs.length → Stp A H μ A' Hc μ' → WW K R A' Hc μ' → Y i Hc x H' → ∃ A'' ax, xs[i]? = some ax ∧ WW K R A'' H' μ' ∧ Stp A' Hc μ' A'' H' μ' ∧ RV K A'' x ax
theorem forW_ok {J : It} {xs : List AV} {l : Loc} {g : TG} {wg : WG'} {tb : TS} {wb : WS'} {Dc : Ends} {D : DEnds} (hw : WalkD K R A H μ J xs) (hg : DG K R g wg) (hb : DS K R Wc tb wb) (W : WW K R A H μ) (e : σ.length = l.length) (r : RL K A σ l) (c : Cn K R Wc A H μ Dc D) (h : wTurns xs wg wb D l μ) :
    ∃ W : Nat → Nat → L2.St → Hp → Prop, (∃ m, W 0 m σ H) ∧ ∀ i m σ H, W i m σ H →
      (J.stop i H ∧ Dc.nx σ H) ∨ (J.go i H ∧ ∃ N : L2.St → Hp → Prop, (∀ σ' H', N σ' H' → ∃ m', m' < m ∧ W (i + 1) m' σ' H') ∧ ∀ x H', J.yld i H x H' → g x σ H' fun σ2 H2 => tb { Dc with nx := N, ct := N, bk := Dc.nx } σ2 H2) := by
  obtain ⟨G, Y, w, hG, hY⟩ := hw.ex
  obtain ⟨Inv, i0, step, fin⟩ := h
  refine for_it w (PvOf K R A H μ Inv) ⟨A, μ, l, Stp.refl, W, e, r, i0⟩ (fun i σ' H' _ ⟨A', μ', l', s, W', _⟩ => hG A' H' s.grow W'.sub) (fun i x σ' Hc H' hi p y => ?_) (fun σ' H' ⟨A', μ', l', s, W', e', r', iv⟩ => c.nx _ _ _ _ _ s W' e' r' (fin l' μ' iv))
  obtain ⟨A', μ', l', s, W', e', r', iv⟩ := p
  obtain ⟨A2, ax, hx, W2, s2, rx⟩ := hY A' Hc μ' i x H' hi s W' y
  refine hg.run A2 H' μ' σ' l' x ax _ _ W2 e' (r'.mono s2.grow) rx (fun A3 H3 μ3 σ3 l3 s3 W3 e3 r3 q => ?_) (step i ax l' μ' hx iv)
  have g2 := (s.trans s2).trans s3
  have nx : LS K R A3 H3 μ3 (PvOf K R A H μ Inv (i + 1)) (Inv (i + 1)) := fun A4 H4 μ4 σ4 l4 s4 W4 e4 r4 q4 => ⟨A4, μ4, l4, g2.trans s4, W4, e4, r4, q4⟩
  exact hb.run A3 H3 μ3 σ3 l3 _ (D.turn (Inv (i + 1))) W3 e3 r3 ⟨nx, c.nx.go g2, nx, c.rt.go g2, c.xc.go g2⟩ q
theorem lcW_ok {m : Bool} {J : It} {xs : List AV} {l : Loc} {g : TG} {tt : TT} {te : TE} {wg : WG'} {wt : WT'} {we : WE'} {vs : List Nat} {Qc : VK} {Q : PQ} (hw : WalkD K R A H μ J xs) (hg : DG K R g wg) (ht : DT K R (fun _ _ _ _ => False) tt wt) (he : DE K R (fun _ _ _ _ => False) te we) (ow : OwnT g vs)
    (W0 : WW K R A H μ) (r : RL K A σ l) (kq : LQ K R A H μ Qc Q) (h : lcAll m wg wt we vs l μ xs Q) : ∀ D, H D = none → ∃ W : Nat → Nat → Hp → Prop, (∃ m, W 0 m (upd H D (.lst []))) ∧ ∀ i m H, W i m H →
      (J.stop i H ∧ Qc (.ref D) H) ∨ (J.go i H ∧ ∃ Nx : Hp → Prop, (∀ H', Nx H' → ∃ m', m' < m ∧ W (i + 1) m' H') ∧ ∀ x H', J.yld i H x H' → g x (wipe σ vs) H' fun σ2 H2 => wipe σ2 vs = wipe σ vs ∧ tt σ2 H2 fun b H3 =>
        if b = true then te σ2 H3 fun y H4 => ∃ acc, H4 D = some (.lst acc) ∧ acc.length < sizeLine ∧ Nx (upd H4 D (.lst (acc ++ [y]))) else Nx H3) := fun D hD => by
  obtain ⟨G, Y, w, hG, hY⟩ := hw.ex
  obtain ⟨hn, rel, item, fin⟩ := h
  have nμ : μ D = none := (W0.free hD).1
  have e : σ.length = l.length := r.len
  refine lc_it w (LcPv K R A H μ D rel) (lc_start W0 hD) (fun i H' _ ⟨A', acc, zs, s, W', _⟩ => hG A' H' s.grow W'.sub) (fun i x Hc H' hi p y => ?_) (fun H' p => lc_end W0 hD kq fin p)
  obtain ⟨A1, acc, zs, s1, W1, nA1, eD1, hz, hrel, racc1⟩ := p
  obtain ⟨A', ax, hx, W, s01, rx⟩ := hY A1 Hc μ i x H' hi s1 W1 y
  have s := s1.trans s01
  have nA : A' D = none := by
    cases q : A' D with
    | none => rfl
    | some o =>
      rcases s01.new D nA1 (by rw [q]; simp) with h | h
      · rw [eD1] at h; cases h
      · exact absurd nμ h
  have eD : H' D = some (.lst acc) := by rw [s01.frame D (by rw [eD1]; simp) nμ, eD1]
  have racc := racc1.mono s01.grow
  have hacc : acc.length ≤ i := by rw [racc.length, ← hz]; exact filterMap_le _ _
  have more : ∀ z, rel i z → ∀ j y, (zs ++ [z])[j]? = some y → rel j y := fun z hzz j y hj => by
    by_cases q : j < i
    · rw [List.getElem?_append_left (by omega)] at hj; exact hrel j y hj
    · have hj2 := (List.getElem?_eq_some_iff.mp hj).1
      rw [List.length_append, hz] at hj2
      have : j = i := by have : [z].length = 1 := rfl; omega
      subst this
      rw [List.getElem?_append_right (by omega), hz, Nat.sub_self] at hj
      obtain rfl := Option.some.inj hj
      exact hzz
  have stay : ∀ {A2 H2 : Hp}, Stp A' H' μ A2 H2 μ → H2 D = some (.lst acc) ∧ A2 D = none := fun {A2 H2} s2 => by
    have n : H' D ≠ none := by rw [eD]; simp
    refine ⟨by rw [s2.frame D n nμ, eD], ?_⟩
    cases q : A2 D with
    | none => rfl
    | some o =>
      rcases s2.new D nA (by rw [q]; simp) with h | h
      · exact absurd h n
      · exact absurd nμ h
  have h1 : g x (wipe σ vs) H' fun σ2 H2 => tt σ2 H2 fun b H3 => if b = true then te σ2 H3 fun y H4 => ∃ acc, H4 D = some (.lst acc) ∧ acc.length < sizeLine ∧ LcPv K R A H μ D rel (i + 1) (upd H4 D (.lst (acc ++ [y]))) else LcPv K R A H μ D rel (i + 1) H3 := by
    refine hg.run A' H' μ (wipe σ vs) (wipeA l vs) x ax _ _ W (by rw [wipe_length, wipeA_length, e]) ((r.wipe e vs).mono s.grow) rx (fun A2 H2 μ2 σ2 l2 s2 W2 e2 r2 ⟨em, q⟩ => ?_) (item i ax hx)
    subst em
    refine ht.run A2 H2 μ2 σ2 l2 _ _ noX W2 r2 (fun A3 H3 μ3 b s3 W3 ⟨em, q3⟩ => ?_) (fun _ _ _ _ _ _ z => z.elim) q
    subst em
    cases b with
    | false =>
      rw [if_neg Bool.false_ne_true] at q3 ⊢
      have s23 := s2.trans s3
      obtain ⟨k1, k2⟩ := stay s23
      exact ⟨A3, acc, zs ++ [none], s.trans s23, W3, k2, k1, by rw [List.length_append, hz]; rfl, more _ q3, by
        rw [List.filterMap_append]
        show RVs K A3 acc (_ ++ [])
        rw [List.append_nil]
        exact racc.mono s23.grow⟩
    | true =>
      rw [if_pos rfl] at q3 ⊢
      refine he.run A3 H3 μ3 σ2 l2 _ _ noX W3 (r2.mono s3.grow) (fun A4 H4 μ4 y ay s4 W4 ry ⟨em, k, d, ey, hr⟩ => ?_) (fun _ _ _ _ _ _ z => z.elim) q3
      subst em ey
      have s24 := (s2.trans s3).trans s4
      obtain ⟨k1, k2⟩ := stay s24
      refine ⟨acc, k1, sz_lt (by omega), A4, acc ++ [y], zs ++ [some (k, d)], (s.trans s24).priv hD, W4.priv nμ k2, k2, upd_same, by rw [List.length_append, hz]; rfl, more _ hr, ?_⟩
      rw [List.filterMap_append]
      exact (racc.mono s24.grow).app (.cons ry .nil)
  have h2 := ow _ _ _ _ h1
  rw [wipe_wipe] at h2
  exact h2
/-! two lists side by side -/
def zipD (ds es : List PyData) : List PyData := List.zipWith (fun x y => .tuple [x, y]) ds es
theorem zipD_length (ds es : List PyData) : (zipD ds es).length = min ds.length es.length := by unfold zipD; rw [List.length_zipWith]
theorem pair_rv {A : Hp} {T : Addr} {u v : V} {k j : Bool} {d e : PyData} (nT : A T = none) (r1 : RV K A u (.dat k d)) (r2 : RV K A v (.dat j e)) : RV K (upd A T (.tup [u, v])) (.ref T) (.dat (k && j) (.tuple [d, e])) := by
  have g : Same A (upd A T (.tup [u, v])) := same_new nT
  cases k with
  | false => exact Dq.tup (SqT.of upd_same) (.cons (Dq.mono g (RV.dq r1)) (.cons (Dq.mono g (RV.dq r2)) .nil))
  | true =>
    cases j with
    | false => exact Dq.tup (SqT.of upd_same) (.cons (Dq.mono g (RV.dq r1)) (.cons (Dq.mono g (RV.dq r2)) .nil))
    | true => exact Tr.tup upd_same (.cons (Tr.mono g r1) (.cons (Tr.mono g r2) .nil))
theorem overAt {k : Bool} {ds : List PyData} {v : V} (r : RV K A v (.dat k (.list ds))) : ∃ a vs, v = .ref a ∧ SqL K A a vs ∧ RVs K A vs (ds.map (AV.dat k)) := overL.at r ⟨k, ds, rfl, rfl⟩
theorem walkD_zip {a b : Addr} {us vs : List V} {k j : Bool} {ds es : List PyData} (h1 : SqL K A a us) (h2 : SqL K A b vs) (r1 : RVs K A us (ds.map (AV.dat k))) (r2 : RVs K A vs (es.map (AV.dat j))) : WalkD K R A H μ (Itz K a b) ((zipD ds es).map (AV.dat (k && j))) := by
  have l1 := r1.length
  have l2 := r2.length
  rw [List.length_map] at l1 l2
  refine ⟨_, _, walk_zip (xs := us) (ys := vs) (by rw [List.length_map, zipD_length, l1, l2]), fun A' H' g s => ⟨(g.trans s).seq h1, (g.trans s).seq h2⟩, fun A' Hc μ' i x H' hi s W y => ?_⟩
  obtain ⟨T, u, v, rfl, hT, rfl, hu, hv⟩ := y
  rw [List.length_map, zipD_length] at hi
  obtain ⟨u', hu', ru⟩ := r1.of (show (ds.map (AV.dat k))[i]? = some (.dat k ds[i]) by rw [List.getElem?_map, List.getElem?_eq_getElem (by omega)]; rfl)
  obtain ⟨v', hv', rv⟩ := r2.of (show (es.map (AV.dat j))[i]? = some (.dat j es[i]) by rw [List.getElem?_map, List.getElem?_eq_getElem (by omega)]; rfl)
  obtain rfl := Option.some.inj (hu.symm.trans hu')
  obtain rfl := Option.some.inj (hv.symm.trans hv')
  obtain ⟨W1, s1⟩ := W.alloc (.tup [u, v]) hT
  refine ⟨_, .dat (k && j) (.tuple [ds[i], es[i]]), ?_, W1, s1, pair_rv (W.free hT).2 (RV.mono s.grow ru) (RV.mono s.grow rv)⟩
  rw [List.getElem?_map]
  unfold zipD
  rw [List.getElem?_zipWith, List.getElem?_eq_getElem (by omega), List.getElem?_eq_getElem (by omega)]
  rfl
def wForZip (wa : WA') (wg : WG') (wb : WS') : WS' := fun D l μ => wa l μ (fun xs μ1 => ∃ k j ds es, xs = [.dat k (.list ds), .dat j (.list es)] ∧ wTurns ((zipD ds es).map (AV.dat (k && j))) wg wb D l μ1) (fun c μ1 => D.xc c l μ1)
theorem ds_forZip {ta : TA} {wa : WA'} {g : TG} {wg : WG'} {tb : TS} {wb : WS'} (ha : DA K R Wc ta wa) (hg : DG K R g wg) (hb : DS K R Wc tb wb) : DS K R Wc (tFor (iZip K ta) g tb) (wForZip wa wg wb) := ⟨fun A H μ σ l Dc D W e r c q =>
  ha.run A H μ σ l _ _ _ W r (fun A1 H1 μ1 vs avs s1 W1 rv ⟨k, j, ds, es, ex, h⟩ => by
    subst ex
    obtain ⟨v, u, rfl, r1, r2⟩ := rv.two
    obtain ⟨a, us, rfl, h1, h2⟩ := overAt r1
    obtain ⟨b, vs, rfl, h3, h4⟩ := overAt r2
    exact ⟨a, b, us, vs, rfl, W1.sub.seq h1, W1.sub.seq h3, forW_ok (walkD_zip h1 h3 h2 h4) hg hb W1 e (r.mono s1.grow) (c.go s1) h⟩) (c.xc.lk e r) q⟩
def wLcZip (m : Bool) (wa : WA') (wg : WG') (wt : WT') (we : WE') (vs : List Nat) : WE' := fun l μ Q X => wa l μ (fun xs μ1 => ∃ k j ds es, xs = [.dat k (.list ds), .dat j (.list es)] ∧ lcAll m wg wt we vs l μ1 ((zipD ds es).map (AV.dat (k && j))) Q) X
theorem d_lcZip {m : Bool} {ta : TA} {wa : WA'} {g : TG} {tt : TT} {te : TE} {wg : WG'} {wt : WT'} {we : WE'} {vs : List Nat} (ha : DA K R Wc ta wa) (hg : DG K R g wg) (ht : DT K R (fun _ _ _ _ => False) tt wt) (he : DE K R (fun _ _ _ _ => False) te we) (ow : OwnT g vs) :
    DE K R Wc (tLc (iZip K ta) g tt te vs) (wLcZip m wa wg wt we vs) := ⟨fun A H μ σ l Qc Q X W L kq kx q =>
  ha.run A H μ σ l _ _ X W L (fun A1 H1 μ1 us avs s1 W1 rv ⟨k, j, ds, es, ex, h⟩ => by
    subst ex
    obtain ⟨v, u, rfl, r1, r2⟩ := rv.two
    obtain ⟨a, us, rfl, h1, h2⟩ := overAt r1
    obtain ⟨b, vs, rfl, h3, h4⟩ := overAt r2
    exact ⟨a, b, us, vs, rfl, W1.sub.seq h1, W1.sub.seq h3, lcW_ok (walkD_zip h1 h3 h2 h4) hg ht he ow W1 (L.mono s1.grow) (kq.go s1) h⟩) kx q⟩
/-! a list with numbers -/
def enumD (ds : List PyData) : List PyData := ds.mapIdx fun i d => .tuple [.int i, d]
theorem walkD_enum {a : Addr} {us : List V} {k : Bool} {ds : List PyData} (h1 : SqL K A a us) (r1 : RVs K A us (ds.map (AV.dat k))) : WalkD K R A H μ (Ite K a) ((enumD ds).map (AV.dat k)) := by
  have l1 := r1.length
  rw [List.length_map] at l1
  have e : ((enumD ds).map (AV.dat k)).length = us.length := by rw [List.length_map, enumD, List.length_mapIdx, l1]
  refine ⟨_, _, by rw [e]; exact walk_enum (xs := us), fun A' H' g s => (g.trans s).seq h1, fun A' Hc μ' i x H' hi s W y => ?_⟩
  obtain ⟨T, u, v, rfl, hT, rfl, hu, hv⟩ := y
  rw [e] at hi
  obtain ⟨v', hv', rv⟩ := r1.of (show (ds.map (AV.dat k))[i]? = some (.dat k ds[i]) by rw [List.getElem?_map, List.getElem?_eq_getElem (by omega)]; rfl)
  obtain rfl := Option.some.inj hu
  obtain rfl := Option.some.inj (hv.symm.trans hv')
  obtain ⟨W1, s1⟩ := W.alloc (.tup [.int (i : Nat), v]) hT
  have rp := pair_rv (K := K) (k := true) (j := k) (d := .int (i : Nat)) (W.free hT).2 (Tr.int _) (RV.mono s.grow rv)
  rw [Bool.true_and] at rp
  refine ⟨_, _, ?_, W1, s1, rp⟩
  rw [List.getElem?_map, enumD, List.getElem?_mapIdx, List.getElem?_eq_getElem (by omega)]
  rfl
def wForEnum (wa : WA') (wg : WG') (wb : WS') : WS' := fun D l μ => wa l μ (fun xs μ1 => ∃ k ds, xs = [.dat k (.list ds)] ∧ wTurns ((enumD ds).map (AV.dat k)) wg wb D l μ1) (fun c μ1 => D.xc c l μ1)
theorem ds_forEnumerate {ta : TA} {wa : WA'} {g : TG} {wg : WG'} {tb : TS} {wb : WS'} (ha : DA K R Wc ta wa) (hg : DG K R g wg) (hb : DS K R Wc tb wb) : DS K R Wc (tFor (iEnum K ta) g tb) (wForEnum wa wg wb) := ⟨fun A H μ σ l Dc D W e r c q =>
  ha.run A H μ σ l _ _ _ W r (fun A1 H1 μ1 vs avs s1 W1 rv ⟨k, ds, ex, h⟩ => by
    subst ex
    obtain ⟨v, rfl, r1⟩ := rv.one
    obtain ⟨a, us, rfl, h1, h2⟩ := overAt r1
    exact ⟨a, us, rfl, W1.sub.seq h1, forW_ok (walkD_enum h1 h2) hg hb W1 e (r.mono s1.grow) (c.go s1) h⟩) (c.xc.lk e r) q⟩
def wLcEnum (m : Bool) (wa : WA') (wg : WG') (wt : WT') (we : WE') (vs : List Nat) : WE' := fun l μ Q X => wa l μ (fun xs μ1 => ∃ k ds, xs = [.dat k (.list ds)] ∧ lcAll m wg wt we vs l μ1 ((enumD ds).map (AV.dat k)) Q) X
theorem d_lcEnumerate {m : Bool} {ta : TA} {wa : WA'} {g : TG} {tt : TT} {te : TE} {wg : WG'} {wt : WT'} {we : WE'} {vs : List Nat} (ha : DA K R Wc ta wa) (hg : DG K R g wg) (ht : DT K R (fun _ _ _ _ => False) tt wt) (he : DE K R (fun _ _ _ _ => False) te we) (ow : OwnT g vs) :
    DE K R Wc (tLc (iEnum K ta) g tt te vs) (wLcEnum m wa wg wt we vs) := ⟨fun A H μ σ l Qc Q X W L kq kx q =>
  ha.run A H μ σ l _ _ X W L (fun A1 H1 μ1 us avs s1 W1 rv ⟨k, ds, ex, h⟩ => by
    subst ex
    obtain ⟨v, rfl, r1⟩ := rv.one
    obtain ⟨a, us, rfl, h1, h2⟩ := overAt r1
    exact ⟨a, us, rfl, W1.sub.seq h1, lcW_ok (walkD_enum h1 h2) hg ht he ow W1 (L.mono s1.grow) (kq.go s1) h⟩) kx q⟩
/-! backwards -/
theorem walkD_rev {a : Addr} {us : List V} {k : Bool} {ds : List PyData} (h1 : SqL K A a us) (r1 : RVs K A us (ds.map (AV.dat k))) : WalkD K R A H μ (Itv K a us.length) (ds.reverse.map (AV.dat k)) := by
  have l1 := r1.length
  rw [List.length_map] at l1
  have e : (ds.reverse.map (AV.dat k)).length = us.length := by rw [List.length_map, List.length_reverse, l1]
  refine ⟨_, _, by rw [e]; exact walk_rev (xs := us), fun A' H' g s => (g.trans s).seq h1, fun A' Hc μ' i x H' hi s W y => ?_⟩
  obtain ⟨rfl, hx⟩ := y
  rw [e] at hi
  obtain ⟨v', hv', rv⟩ := r1.of (show (ds.map (AV.dat k))[us.length - 1 - i]? = some (.dat k ds[us.length - 1 - i]) by rw [List.getElem?_map, List.getElem?_eq_getElem (by omega)]; rfl)
  obtain rfl := Option.some.inj (hx.symm.trans hv')
  refine ⟨A', .dat k ds[us.length - 1 - i], ?_, W, Stp.refl, RV.mono s.grow rv⟩
  have ei : ds.length - 1 - i = us.length - 1 - i := by omega
  rw [List.getElem?_map, List.getElem?_reverse (by omega), ei, List.getElem?_eq_getElem (by omega)]
  rfl
def wForRev (wa : WA') (wg : WG') (wb : WS') : WS' := fun D l μ => wa l μ (fun xs μ1 => ∃ k ds, xs = [.dat k (.list ds)] ∧ wTurns (ds.reverse.map (AV.dat k)) wg wb D l μ1) (fun c μ1 => D.xc c l μ1)
theorem ds_forReversed {ta : TA} {wa : WA'} {g : TG} {wg : WG'} {tb : TS} {wb : WS'} (ha : DA K R Wc ta wa) (hg : DG K R g wg) (hb : DS K R Wc tb wb) : DS K R Wc (tFor (iRev K ta) g tb) (wForRev wa wg wb) := ⟨fun A H μ σ l Dc D W e r c q =>
  ha.run A H μ σ l _ _ _ W r (fun A1 H1 μ1 vs avs s1 W1 rv ⟨k, ds, ex, h⟩ => by
    subst ex
    obtain ⟨v, rfl, r1⟩ := rv.one
    obtain ⟨a, us, rfl, h1, h2⟩ := overAt r1
    exact ⟨a, us, rfl, W1.sub.seq h1, forW_ok (walkD_rev h1 h2) hg hb W1 e (r.mono s1.grow) (c.go s1) h⟩) (c.xc.lk e r) q⟩
def wLcRev (m : Bool) (wa : WA') (wg : WG') (wt : WT') (we : WE') (vs : List Nat) : WE' := fun l μ Q X => wa l μ (fun xs μ1 => ∃ k ds, xs = [.dat k (.list ds)] ∧ lcAll m wg wt we vs l μ1 (ds.reverse.map (AV.dat k)) Q) X
theorem d_lcReversed {m : Bool} {ta : TA} {wa : WA'} {g : TG} {tt : TT} {te : TE} {wg : WG'} {wt : WT'} {we : WE'} {vs : List Nat} (ha : DA K R Wc ta wa) (hg : DG K R g wg) (ht : DT K R (fun _ _ _ _ => False) tt wt) (he : DE K R (fun _ _ _ _ => False) te we) (ow : OwnT g vs) :
    DE K R Wc (tLc (iRev K ta) g tt te vs) (wLcRev m wa wg wt we vs) := ⟨fun A H μ σ l Qc Q X W L kq kx q =>
  ha.run A H μ σ l _ _ X W L (fun A1 H1 μ1 us avs s1 W1 rv ⟨k, ds, ex, h⟩ => by
    subst ex
    obtain ⟨v, rfl, r1⟩ := rv.one
    obtain ⟨a, us, rfl, h1, h2⟩ := overAt r1
    exact ⟨a, us, rfl, W1.sub.seq h1, lcW_ok (walkD_rev h1 h2) hg ht he ow W1 (L.mono s1.grow) (kq.go s1) h⟩) kx q⟩
/-! a text, sign by sign -/
def signsD (x : Str) : List PyData := x.cps.toList.map fun c => .str ⟨#[c]⟩
theorem walkD_str {x : Str} : WalkD K R A H μ (Its x) ((signsD x).map (AV.dat true)) := by
  have e : ((signsD x).map (AV.dat true)).length = x.cps.size := by rw [List.length_map, signsD, List.length_map, Array.length_toList]
  refine ⟨_, _, by rw [e]; exact walk_str, fun _ _ _ _ => trivial, fun A' Hc μ' i v H' hi s W y => ?_⟩
  obtain ⟨rfl, c, hc, rfl⟩ := y
  refine ⟨A', .dat true (.str ⟨#[c]⟩), ?_, W, Stp.refl, Tr.str _⟩
  rw [List.getElem?_map, signsD, List.getElem?_map, Array.getElem?_toList, hc]
  rfl
def wForStr (we : WE') (wg : WG') (wb : WS') : WS' := fun D l μ => we l μ (fun x μ1 => ∃ z, isS x z ∧ wTurns ((signsD z).map (AV.dat true)) wg wb D l μ1) (fun c μ1 => D.xc c l μ1)
theorem ds_forStr {te : TE} {we : WE'} {g : TG} {wg : WG'} {tb : TS} {wb : WS'} (he : DE K R Wc te we) (hg : DG K R g wg) (hb : DS K R Wc tb wb) : DS K R Wc (tFor (iStr te) g tb) (wForStr we wg wb) := ⟨fun A H μ σ l Dc D W e r c q =>
  he.run A H μ σ l _ _ _ W r (fun A1 H1 μ1 v av s1 W1 rv ⟨z, hz, h⟩ => ⟨z, rv.s hz, forW_ok walkD_str hg hb W1 e (r.mono s1.grow) (c.go s1) h⟩) (c.xc.lk e r) q⟩
def wLcStr (m : Bool) (wl : WE') (wg : WG') (wt : WT') (we : WE') (vs : List Nat) : WE' := fun l μ Q X => wl l μ (fun x μ1 => ∃ z, isS x z ∧ lcAll m wg wt we vs l μ1 ((signsD z).map (AV.dat true)) Q) X
theorem d_lcStr {m : Bool} {tl : TE} {wl : WE'} {g : TG} {tt : TT} {te : TE} {wg : WG'} {wt : WT'} {we : WE'} {vs : List Nat} (hl : DE K R Wc tl wl) (hg : DG K R g wg) (ht : DT K R (fun _ _ _ _ => False) tt wt) (he : DE K R (fun _ _ _ _ => False) te we) (ow : OwnT g vs) :
    DE K R Wc (tLc (iStr tl) g tt te vs) (wLcStr m wl wg wt we vs) := ⟨fun A H μ σ l Qc Q X W L kq kx q =>
  hl.run A H μ σ l _ _ X W L (fun A1 H1 μ1 v av s1 W1 rv ⟨z, hz, h⟩ => ⟨z, rv.s hz, lcW_ok walkD_str hg ht he ow W1 (L.mono s1.grow) (kq.go s1) h⟩) kx q⟩
end
end Fv

/-! xs.count(y), xs.index(y) of flat things; the built-in ValueError. -/
namespace Fv
open PySem PySem.Spec PyProof.Rows L2
structure BiV (mg : Str → Option Value) : Prop where
  n : mg "ValueError" = none
def rCntF (K : PySem.W.Frag) : V → List V → Hp → VK → Prop := fun x xs H Q => ∃ (p : Addr) (ys : List V) (y : V), x = .ref p ∧ xs = [y] ∧ SqL K H p ys ∧ flatV y = true ∧ ys.all flatV = true ∧ Q (.int ((ys.countP fun z => eqV z y : Nat) : Int)) H
theorem countP_vals {y : V} : ∀ {ys : List V} {us : List Value}, Vals ys us → ys.all flatV = true → us.countP (eqU y) = ys.countP fun z => eqV z y
  | _, _, .nil, _ => rfl
  | z :: ys, u :: us, .cons r t, f => by
    rw [List.all_cons, Bool.and_eq_true] at f
    rw [List.countP_cons, List.countP_cons, countP_vals t f.2, eqU_of r f.1]
theorem mt_lcountF {X : Cx} : MtR X "list.count" (rCntF X.K) := by
  intro pins s σ H x xs v us Q I rx rxs h
  obtain ⟨p, ys, y, rfl, rfl, hs, fy, fys, q⟩ := h
  cases rx
  obtain ⟨u, rfl, ru⟩ := rxs.one
  obtain ⟨its, rv, ⟨⟨cls, dd, data, sl⟩, n, ho, hc, hdn, hd⟩, hlen⟩ := I.list hs
  simp only at hc hd
  subst hc hd
  refine call_meets PySem.F.slot_list_count ⟨_, ho, rfl⟩ PySem.F.entry_list_count (PySem.F.args_list_count_2 _ _)
    (SeqAt.list_countAt p its.toArray n dd sl u (eqU y)) ⟨ho, fun u' hu' => mem_eqAt ru fy rv fys u' (by simpa using hu'), ?_⟩
  have ec : its.toArray.toList.countP (eqU y) = ys.countP fun z => eqV z y := countP_vals rv fys
  refine ⟨.int ((ys.countP fun z => eqV z y : Nat) : Int), H, I.tok _, ⟨s.toks, ?_⟩, q⟩
  show Value.int ((its.toArray.toList.countP (eqU y) : Nat) : Int) s.toks = Value.int ((ys.countP (fun z => eqV z y) : Nat) : Int) s.toks
  rw [ec]
section
variable {K : PySem.W.Frag} {R : RK} {Wc : WX} {A H A1 H1 : Hp} {μ μ1 : MU} {σ : L2.St}
theorem newL_tt {ds : List PyData} {μ : MU} {Q : PQ} (q : Q (.dat true (.list ds)) μ) : newL false (ds.map (AV.dat true)) μ Q := newF_t (Q := Q) q
/-- a comprehension that leaves some out -/
theorem lcAll_fm {m : Bool} {wg : WG'} {wt : WT'} {we : WE'} {vs : List Nat} {l : Loc} {μ : MU} {xs : List AV} {Q : PQ} {k : Bool} {α : Type} (L : List α) (f : α → Option PyData) (hl : xs.length = L.length) (hn : L.length < 100000)
    (item : ∀ (i : Nat) (x : AV) (a : α), xs[i]? = some x → L[i]? = some a → lcItem wg wt we vs l μ x (fun z => z = (f a).map fun d => (k, d))) (fin : newL m ((L.filterMap f).map (AV.dat k)) μ Q) : lcAll m wg wt we vs l μ xs Q := by
  refine ⟨by omega, fun i z => ∀ a : α, L[i]? = some a → z = (f a).map fun d => (k, d), fun i x hx => ?_, fun zs hz hrel => ?_⟩
  · have hi : i < L.length := by rw [← hl]; exact (List.getElem?_eq_some_iff.mp hx).1
    have ha := List.getElem?_eq_getElem hi
    have e : (fun z => ∀ a : α, L[i]? = some a → z = (f a).map fun d => (k, d)) = fun z => z = (f L[i]).map fun d => (k, d) := by
      funext z
      rw [ha]
      exact propext ⟨fun h => h _ rfl, fun h a e => by rw [← Option.some.inj e]; exact h⟩
    show lcItem wg wt we vs l μ x (fun z => ∀ a : α, L[i]? = some a → z = (f a).map fun d => (k, d))
    rw [e]
    exact item i x _ hx ha
  · have e : zs = L.map fun a => (f a).map fun d => (k, d) := by
      refine List.ext_getElem (by rw [List.length_map]; omega) fun i h1 h2 => ?_
      have h3 : i < L.length := by omega
      rw [hrel i _ (List.getElem?_eq_getElem h1) _ (List.getElem?_eq_getElem h3), List.getElem_map]
    have e2 : (zs.filterMap fun z => z.map fun p => AV.dat p.1 p.2) = (L.filterMap f).map (AV.dat k) := by
      rw [e]
      clear e hrel hz item fin hl hn
      induction L with
      | nil => rfl
      | cons a M ih =>
        rw [List.map_cons, List.filterMap_cons, List.filterMap_cons]
        cases f a with
        | none => exact ih
        | some d => exact congrArg (AV.dat k d :: ·) ih
    rw [e2]
    exact fin
/-- a number, known as one that stands by itself -/
def wToI (we : WE') : WE' := fun l μ Q X => we l μ (fun x μ1 => ∃ i, isI x i ∧ Q (iAV i) μ1) X
theorem d_toI {te : TE} {we : WE'} (h : DE K R Wc te we) : DE K R Wc te (wToI we) := ⟨fun A H μ σ l Qc Q X W L kq kx q =>
  h.run A H μ σ l Qc _ X W L (fun A1 H1 μ1 v av s1 W1 r1 ⟨i, hi, q1⟩ => by
    obtain rfl := r1.i hi
    exact (kq.go s1).i W1 q1) kx q⟩
def wLCount (wo : WE') (wa : WA') : WE' := fun l μ Q X => wo l μ (fun x μ1 => ∃ k ds, x = .dat k (.list ds) ∧ ds.all flatD = true ∧ wa l μ1 (fun ys μ2 => ∃ y d, ys = [y] ∧ isD μ2 y d ∧ flatD d = true ∧ Q (iAV (((ds.map vOf).countP fun z => eqV z (vOf d) : Nat) : Int)) μ2) X) X
theorem d_lcount {to : TE} {ta : TA} {wo : WE'} {wa : WA'} (ho : DE K R Wc to wo) (ha : DA K R Wc ta wa) : DE K R Wc (tBM K "list" (rCntF K) to ta) (wLCount wo wa) := ⟨fun A H μ σ l Qc Q X W L kq kx h =>
  ho.run A H μ σ l _ _ X W L (fun A1 H1 μ1 x ax s1 W1 r1 ⟨k, ds, e, hf, q1⟩ => by
    subst e
    obtain ⟨a, us, rfl, h1, h2⟩ := overAt r1
    have h3 := (RVs.dqT h2).flat hf
    refine ⟨.inl ⟨rfl, _, W1.sub.seq h1⟩, ha.run A1 H1 μ1 σ l _ _ X W1 (L.mono s1.grow) (fun A2 H2 μ2 ys ays s2 W2 r2 ⟨y, d, e2, hd, fd, q2⟩ => ?_) (kx.go s1) q1⟩
    subst e2
    obtain ⟨u, rfl, ru⟩ := r2.one
    obtain ⟨e3, e4⟩ := (ru.data W2 hd).flat fd
    refine ⟨a, us, u, rfl, rfl, (s2.grow.trans W2.sub).seq h1, e4, h3.2, ?_⟩
    rw [h3.1, e3]
    exact ((kq.go s1).go s2).i W2 q2) kx h⟩
def wLIndex (wo : WE') (wa : WA') : WE' := fun l μ Q X => wo l μ (fun x μ1 => ∃ k ds, x = .dat k (.list ds) ∧ ds.all flatD = true ∧ wa l μ1 (fun ys μ2 => ∃ y d j z, ys = [y] ∧ isD μ2 y d ∧ flatD d = true ∧ (ds.map vOf)[j]? = some z ∧ eqV z (vOf d) = true ∧ (∀ (m : Nat) (z' : V), m < j → (ds.map vOf)[m]? = some z' → eqV z' (vOf d) = false) ∧ Q (iAV (j : Nat)) μ2) X) X
theorem d_lindex {to : TE} {ta : TA} {wo : WE'} {wa : WA'} (ho : DE K R Wc to wo) (ha : DA K R Wc ta wa) : DE K R Wc (tBM K "list" (rIndex K) to ta) (wLIndex wo wa) := ⟨fun A H μ σ l Qc Q X W L kq kx h =>
  ho.run A H μ σ l _ _ X W L (fun A1 H1 μ1 x ax s1 W1 r1 ⟨k, ds, e, hf, q1⟩ => by
    subst e
    obtain ⟨a, us, rfl, h1, h2⟩ := overAt r1
    have h3 := (RVs.dqT h2).flat hf
    refine ⟨.inl ⟨rfl, _, W1.sub.seq h1⟩, ha.run A1 H1 μ1 σ l _ _ X W1 (L.mono s1.grow) (fun A2 H2 μ2 ys ays s2 W2 r2 ⟨y, d, j, z, e2, hd, fd, g1, g2, g3, q2⟩ => ?_) (kx.go s1) q1⟩
    subst e2
    obtain ⟨u, rfl, ru⟩ := r2.one
    obtain ⟨e3, e4⟩ := (ru.data W2 hd).flat fd
    refine ⟨a, us, u, j, z, rfl, rfl, (s2.grow.trans W2.sub).seq h1, e4, h3.2, by rw [h3.1]; exact g1, by rw [e3]; exact g2, fun m z' hm hz => by rw [e3]; exact g3 m z' hm (by rw [← h3.1]; exact hz), ?_⟩
    exact ((kq.go s1).go s2).i W2 q2) kx h⟩
end
/-! the classes of refusals, told apart -/
/-- the classes rs are told apart from those of cs, each of its own name -/
structure XFam (K : PySem.W.Frag) (CF : Addr) (rs cs : List (Str × Addr)) : Prop where
  ex : ∀ p ∈ rs, ExcC K p.2
  sub : ∀ p ∈ rs, ∀ q ∈ cs, PySem.W.kitOne K (.ref p.2) (.ref q.2) = some (decide (p.1 = q.1))
  fold : ∀ p ∈ rs, PySem.W.kitOne K (.ref p.2) (.ref CF) = some true
  val : ∀ p ∈ rs, PySem.W.kitOne K (.ref p.2) (.type "ValueError") = some true
  take : ∀ p ∈ rs, PySem.W.exmOne K (.ref p.2) (.ref CF) = some true
theorem kitAny_fam {K : PySem.W.Frag} {CF : Addr} {rs cs : List (Str × Addr)} (F : XFam K CF rs cs) {p : Str × Addr} (hp : p ∈ rs) : ∀ qs : List (Str × Addr), (∀ q ∈ qs, q ∈ cs) → PySem.W.kitAny K (.ref p.2) ((qs.map Prod.snd).map Value.ref) = some (qs.any fun q => decide (p.1 = q.1))
  | [], _ => kitAny_nil
  | q :: r, h => by
    have ih := kitAny_fam F hp r fun x hx => h x (List.mem_cons_of_mem _ hx)
    refine kitAny_cons (F.sub p hp q (h q List.mem_cons_self)) (fun z => ?_) (fun z => ?_)
    · rw [ih, List.any_cons, z]; rfl
    · rw [List.any_cons, z]; rfl
/-- what the top has of a class that is only asked for -/
structure ClsC (K : PySem.W.Frag) (mg : Str → Option Value) (nm : Str) (C : Addr) : Prop where
  g : mg nm = some (.ref C)
  t : PySem.W.typeIn K (.ref C) = some (.type "type")
  i : PySem.W.isClsIn K C = true
abbrev nmCC {K : PySem.W.Frag} {mg : Str → Option Value} {n : Str} {C : Addr} (_ : ClsC K mg n C) : Str × Addr := (n, C)
theorem ExC.cls {K : PySem.W.Frag} {mg : Str → Option Value} {n : Str} {C : Addr} (E : ExC K mg n C) : ClsC K mg n C := ⟨E.g, E.t, E.i⟩
/-- a class's name, its place -/
abbrev nmC {K : PySem.W.Frag} {mg : Str → Option Value} {n : Str} {C : Addr} (_ : ExC K mg n C) : Str × Addr := (n, C)
section
variable {K : PySem.W.Frag} {mg : Str → Option Value} {n n2 : Str} {D C : Addr}
theorem kitCls_of (E2 : ClsC K mg n2 C) (t : Value) : PySem.W.kitCls K t (.ref C) = PySem.W.subIn K t (.ref C) := by
  have e2 : ((PySem.W.clsIn K C).isSome && PySem.W.typeIn K (.ref C) == some (.type "type")) = true := by
    rw [show (PySem.W.clsIn K C).isSome = true from E2.i, E2.t]; rfl
  show (if ((PySem.W.clsIn K C).isSome && PySem.W.typeIn K (.ref C) == some (.type "type")) = true then PySem.W.subIn K t (.ref C) else none) = _
  rw [if_pos e2]
theorem kitN (E1 : ExC K mg n D) (E2 : ClsC K mg n2 C) (hn : n ≠ n2) (hs : PySem.W.subIn K (.ref D) (.ref D) = some true) (h : PySem.W.subIn K (.ref D) (.ref C) = some false) : PySem.W.kitOne K (.ref D) (.ref C) = some (decide (n = n2)) := by
  have ne : D ≠ C := fun z => by rw [← z, hs] at h; cases h
  unfold PySem.W.kitOne
  rw [if_neg (by simpa using ne), kitCls_of E2, h, decide_eq_false hn]
theorem kitY (E1 : ExC K mg n D) : PySem.W.kitOne K (.ref D) (.ref D) = some (decide (n = n)) := by
  unfold PySem.W.kitOne
  rw [if_pos (by simp), decide_eq_true rfl]
theorem kitUp (E1 : ExC K mg n D) (E2 : ExC K mg n2 C) (h : PySem.W.subIn K (.ref D) (.ref C) = some true) : PySem.W.kitOne K (.ref D) (.ref C) = some true := by
  unfold PySem.W.kitOne
  split
  · rfl
  · rw [kitCls_of E2.cls, h]
theorem kitVE (E1 : ExC K mg n D) (h : PySem.W.subIn K (.ref D) (.type "ValueError") = some true) : PySem.W.kitOne K (.ref D) (.type "ValueError") = some true := by
  unfold PySem.W.kitOne
  rw [if_neg (by simp)]
  show (if PySem.W.kitMeta "ValueError" = true then PySem.W.subIn K (.ref D) (.type "ValueError") else none) = _
  rw [if_pos (by decide +kernel), h]
theorem exmUp (E1 : ExC K mg n D) (E2 : ExC K mg n2 C) (h : PySem.W.subIn K (.ref D) (.ref C) = some true) : PySem.W.exmOne K (.ref D) (.ref C) = some true := by
  unfold PySem.W.exmOne
  rw [if_pos (by rw [E2.b]; rfl), kitCls_of E2.cls, h]
theorem excC_of (E1 : ExC K mg n D) (h1 : PySem.W.findIn K (.ref D) "__getattribute__" = some (some (.builtin "BaseException.__getattribute__"))) (h2 : PySem.W.findIn K (.ref D) "__getattr__" = some none) (h4 : PySem.W.hasDictIn K D = true) (h5 : PySem.W.findIn K (.ref D) "__class__" = some (some (.builtin "object.__class__")))
    (h6 : PySem.W.specialIn K (.builtin "object.__class__") "__get__" = some (some (.builtin "getset_descriptor.__get__"))) (h7 : PySem.W.takesIn K (.builtin "object.__class__") = some true) (h8 : PySem.W.mroIn K D (.type "object") = some true) : ExcC K D := ⟨h1, h2, E1.b, h4, h5, h6, h7, h8⟩
theorem kitSelf (E1 : ExC K mg n D) (h : PySem.W.subIn K (.ref D) (.ref D) = some true) : PySem.W.subIn K (.ref D) (.ref D) = some true := h
theorem famMk {CF : Addr} {rs cs : List (Str × Addr)} (EF : ExC K mg "FoldError" CF) (h1 : ∀ p ∈ rs, ExcC K p.2) (h2 : ∀ p ∈ rs, ∀ q ∈ cs, PySem.W.kitOne K (.ref p.2) (.ref q.2) = some (decide (p.1 = q.1))) (h3 : ∀ p ∈ rs, PySem.W.kitOne K (.ref p.2) (.ref CF) = some true)
    (h4 : ∀ p ∈ rs, PySem.W.kitOne K (.ref p.2) (.type "ValueError") = some true) (h5 : ∀ p ∈ rs, PySem.W.exmOne K (.ref p.2) (.ref CF) = some true) : XFam K CF rs cs := ⟨h1, h2, h3, h4, h5⟩
theorem XFam.less {CF : Addr} {rs cs : List (Str × Addr)} (F : XFam K CF rs cs) : XFam K CF rs [] := ⟨F.ex, (fun _ _ _ h => nomatch h), F.fold, F.val, F.take⟩
end
end Fv

/-! list(zip(a, b)) of two lists. -/
namespace Fv
open PySem PySem.Spec PyProof.Rows L2
theorem zip_no_len : typeLookup (.type "zip") "__len__" = pure none := by rw [typeLookup_type, builtinLookup_eq_fast]; kernel_rfl
theorem zip_no_hint : typeLookup (.type "zip") "__length_hint__" = pure none := by rw [typeLookup_type, builtinLookup_eq_fast]; kernel_rfl
structure ZS (z TI TO i1 i2 l1 l2 S : Addr) (xs ys : Array Value) (h0 : Heap) (i : Nat) (ts : List Addr) (h : Heap) : Prop where
  zip : (ts = [] ∧ IsZip h z TI TO .none ∧ ∃ a b, IsPair h TO a b) ∨ (∃ T r f, ts = T :: r ∧ IsZipHeld h z TI TO T f)
  ti : IsPair h TI (.ref i1) (.ref i2)
  h1 : h.IsListIter i1 l1 i
  h2 : h.IsListIter i2 l2 i
  l1 : h.IsList l1 xs
  l2 : h.IsList l2 ys
  len : ts.length = i
  items : ∀ (j : Nat) (T : Addr), ts[j]? = some T → ∃ x y, xs[j]? = some x ∧ ys[j]? = some y ∧ IsPair h T x y
  keep : ∀ b o, b ∉ [S, z, TO, i1, i2] → h0.get? b = some o → h.get? b = some o
  new : ∀ T ∈ ts, h0.objs.size ≤ T
  nodup : ts.Nodup
  sz : h0.objs.size ≤ h.objs.size
section
variable {z TI TO i1 i2 l1 l2 S : Addr} {xs ys : Array Value} {h0 h h' h'' : Heap} {i : Nat} {ts : List Addr} {x y : Value}
theorem ZS.next (Z : ZS z TI TO i1 i2 l1 l2 S xs ys h0 i ts h) (D : ZipApart z TI TO i1 i2 l1 l2) (nS : S ∉ [z, TI, TO, i1, i2, l1, l2]) (small : ∀ b ∈ [S, z, TI, TO, i1, i2, l1, l2], b < h0.objs.size) (hx : xs[i]? = some x) (hy : ys[i]? = some y)
    (zip : ∃ T r f, ts ++ [h.objs.size] = T :: r ∧ IsZipHeld h' z TI TO T f) (a1 : h'.IsListIter i1 l1 (i + 1)) (a2 : h'.IsListIter i2 l2 (i + 1)) (hp : IsPair h' h.objs.size x y) (hsz : h'.objs.size = h.objs.size + 1)
    (k : ∀ c o, c ≠ z → c ≠ TO → c ≠ i1 → c ≠ i2 → h.get? c = some o → h'.get? c = some o) (k2 : ∀ b o, b ≠ S → h'.get? b = some o → h''.get? b = some o) (hsz2 : h''.objs.size = h'.objs.size) :
    ZS z TI TO i1 i2 l1 l2 S xs ys h0 (i + 1) (ts ++ [h.objs.size]) h'' := by
  simp only [List.mem_cons, List.not_mem_nil, or_false, not_or] at nS
  obtain ⟨n1, n2, n3, n4, n5, n6, n7⟩ := nS
  have lt : ∀ T ∈ ts, T < h.objs.size := fun T hT => by
    obtain ⟨j, hj⟩ := List.getElem?_of_mem hT
    obtain ⟨x', y', _, _, e⟩ := Z.items j T hj
    exact Heap.lt_size e
  have sm := fun b hb => Nat.lt_of_lt_of_le (small b hb) Z.sz
  have tn : ∀ T ∈ ts, T ∉ [S, z, TI, TO, i1, i2, l1, l2] := fun T hT hm => Nat.lt_irrefl _ (Nat.lt_of_lt_of_le (small T hm) (Z.new T hT))
  have tsz : h.objs.size ∉ [S, z, TI, TO, i1, i2, l1, l2] := fun hm => Nat.lt_irrefl _ (sm _ hm)
  refine ⟨.inr ?_, k2 TI _ (Ne.symm n2) (k TI _ D.TIz D.TITO D.TIi1 D.TIi2 Z.ti), a1.at fun o e => k2 _ o (Ne.symm n4) e, a2.at fun o e => k2 _ o (Ne.symm n5) e,
    (Z.l1.at fun o e => k2 _ o (Ne.symm n6) (k _ o D.l1z D.l1TO D.l1i1 D.l1i2 e)), (Z.l2.at fun o e => k2 _ o (Ne.symm n7) (k _ o D.l2z D.l2TO D.l2i1 D.l2i2 e)), by rw [List.length_append, Z.len]; rfl, fun j T hj => ?_, fun b o hb e => ?_, fun T hT => ?_, ?_, by rw [hsz2, hsz]; have := Z.sz; omega⟩
  · obtain ⟨T, r, f, e, q⟩ := zip
    exact ⟨T, r, f, e, k2 _ _ (Ne.symm n1) q⟩
  · by_cases hlt : j < ts.length
    · rw [List.getElem?_append_left hlt] at hj
      obtain ⟨x', y', e1, e2, e3⟩ := Z.items j T hj
      have nt := tn T (List.mem_of_getElem? hj)
      simp only [List.mem_cons, List.not_mem_nil, or_false, not_or] at nt
      exact ⟨x', y', e1, e2, k2 T _ nt.1 (k T _ nt.2.1 nt.2.2.2.1 nt.2.2.2.2.1 nt.2.2.2.2.2.1 e3)⟩
    · rw [List.getElem?_append_right (by omega)] at hj
      have hj0 : j - ts.length = 0 := by
        have := (List.getElem?_eq_some_iff.mp hj).1
        simp only [List.length_cons, List.length_nil] at this
        omega
      rw [hj0] at hj
      obtain rfl := Option.some.inj hj
      have hji : j = i := by have := Z.len; omega
      subst hji
      refine ⟨x, y, hx, hy, k2 _ _ (fun e => tsz (by rw [e]; simp)) hp⟩
  · simp only [List.mem_cons, List.not_mem_nil, or_false, not_or] at hb
    exact k2 b o hb.1 (k b o hb.2.1 hb.2.2.1 hb.2.2.2.1 hb.2.2.2.2 (Z.keep b o (by simp [hb]) e))
  · rcases List.mem_append.mp hT with hT | hT
    · exact Z.new T hT
    · simp only [List.mem_cons, List.not_mem_nil, or_false] at hT
      rw [hT]; exact Z.sz
  · refine List.nodup_append.mpr ⟨Z.nodup, by simp, fun a ha b hb => ?_⟩
    simp only [List.mem_cons, List.not_mem_nil, or_false] at hb
    rw [hb]
    exact Nat.ne_of_lt (lt a ha)
variable {prog : Program} {w : World} {A : Around} {R : Result → Shared → Prop}
theorem zip_loop (hh : A.handled = none) (D : ZipApart z TI TO i1 i2 l1 l2) (nS : S ∉ [z, TI, TO, i1, i2, l1, l2]) (small : ∀ b ∈ [S, z, TI, TO, i1, i2, l1, l2], b < h0.objs.size) (hn : min xs.size ys.size ≤ sizeLine) (res : Value) :
    ∀ (k i : Nat) (s : Shared) (ts : List Addr) (c : Nat), min xs.size ys.size - i = k → i ≤ min xs.size ys.size → ZS z TI TO i1 i2 l1 l2 S xs ys h0 i ts s.heap → s.heap.get? S = some { cls := .type "list", dict := none, data := .seq (ts.map Value.ref).toArray c, slots := #[] } →
    (∀ h' ts' c' i', ZS z TI TO i1 i2 l1 l2 S xs ys h0 (min xs.size ys.size) ts' i' → (∀ b o, b ∉ [z, TO, i1, i2] → i'.get? b = some o → h'.get? b = some o) → i'.get? S = some { cls := .type "list", dict := none, data := .seq (ts'.map Value.ref).toArray c', slots := #[] } → R (.ok (.ret res)) { s with heap := h' }) →
    codeAny (model prog w) A (.builtin "list.extend.loop" ⟨[.ref S, .ref z, res], []⟩) R s := by
  intro k
  induction k with
  | zero =>
    intro i s ts c hk hi Z hS hR
    have hin : i = min xs.size ys.size := by omega
    have hend : xs[i]? = none ∨ ys[i]? = none := by
      by_cases h : xs.size ≤ ys.size
      · exact .inl (by simp; omega)
      · exact .inr (by simp; omega)
    refine codeAny_builtin F.entry_extend_loop ?_
    rw [Around.under_plainId F.plain_extend_loop _]
    show wpAny _ A.in1 (pyNext (.ref z) >>= _) _ _ s
    rcases Z.zip with ⟨_, hz, a, b, hTO⟩ | ⟨T, r, f, et, hz⟩
    · refine wpAny_bind (wpAny_pyNext_zip_end (A := A.in1) hh D hz Z.ti hTO Z.h1 Z.h2 Z.l1 Z.l2 hend fun h' hk' => ?_)
      subst hin
      exact wpAny_pure (hR h' ts c s.heap Z (fun b o hb e => hk' b o (fun z' => hb (by simp [z'])) (fun z' => hb (by simp [z'])) (fun z' => hb (by simp [z'])) (fun z' => hb (by simp [z'])) e) hS)
    · obtain ⟨x', y', _, _, eT⟩ := Z.items 0 T (by rw [et]; rfl)
      refine wpAny_bind (wpAny_pyNext_zip_end_held (A := A.in1) hh D hz eT Z.ti Z.h1 Z.h2 Z.l1 Z.l2 hend fun h' hk' => ?_)
      subst hin
      exact wpAny_pure (hR h' ts c s.heap Z (fun b o hb e => hk' b o (fun z' => hb (by simp [z'])) (fun z' => hb (by simp [z'])) (fun z' => hb (by simp [z'])) e) hS)
  | succ k ih =>
    intro i s ts c hk hi Z hS hR
    have hlt : i < min xs.size ys.size := by omega
    have hx : xs[i]? = some (xs[i]'(by omega)) := Array.getElem?_eq_getElem (by omega)
    have hy : ys[i]? = some (ys[i]'(by omega)) := Array.getElem?_eq_getElem (by omega)
    have nS' := nS
    simp only [List.mem_cons, List.not_mem_nil, or_false, not_or] at nS'
    refine codeAny_builtin F.entry_extend_loop ?_
    rw [Around.under_plainId F.plain_extend_loop _]
    show wpAny _ A.in1 (pyNext (.ref z) >>= _) _ _ s
    have go : ∀ h', (∃ T r f, ts ++ [s.heap.objs.size] = T :: r ∧ IsZipHeld h' z TI TO T f) → h'.IsListIter i1 l1 (i + 1) → h'.IsListIter i2 l2 (i + 1) → IsPair h' s.heap.objs.size (xs[i]'(by omega)) (ys[i]'(by omega)) → h'.objs.size = s.heap.objs.size + 1 →
        (∀ c o, c ≠ z → c ≠ TO → c ≠ i1 → c ≠ i2 → s.heap.get? c = some o → h'.get? c = some o) →
        wpAny (model prog w) A.in1 (updateSeq S (·.push (.ref s.heap.objs.size)) >>= fun _ => again (.builtin "list.extend.loop" ⟨[.ref S, .ref z, res], []⟩))
          (fun fin s' => match fin with | .done f => R (.ok f) s' | .again c' => c'.quiet = true ∧ codeAny (model prog w) A c' R s') (fun e s' => R (.error e) s') { s with heap := h' } := fun h' g1 g2 g3 g4 g5 g6 => by
      have hS' : h'.get? S = some { cls := .type "list", dict := none, data := .seq (ts.map Value.ref).toArray c, slots := #[] } := g6 S _ nS'.1 nS'.2.2.1 nS'.2.2.2.1 nS'.2.2.2.2.1 hS
      have hlen : (ts.map Value.ref).toArray.size = i := by rw [List.size_toArray, List.length_map, Z.len]
      have eL : ((ts ++ [s.heap.objs.size]).map Value.ref).toArray = (ts.map Value.ref).toArray.push (.ref s.heap.objs.size) := by simp
      obtain ⟨c2, hS2⟩ : ∃ c2, (h'.update S (Obj.mapSeq (·.push (.ref s.heap.objs.size)))).get? S = some { cls := .type "list", dict := none, data := .seq ((ts ++ [s.heap.objs.size]).map Value.ref).toArray c2, slots := #[] } := by
        rw [eL]
        exact ⟨_, Heap.get?_update_self _ hS' rfl⟩
      refine wpAny_bind ?_
      refine wpAny_updateSeq (s := { s with heap := h' }) hS' rfl (wpAny_pure ⟨plainId_quiet F.plain_extend_loop _, ih (i + 1) _ (ts ++ [s.heap.objs.size]) c2 (by omega) hlt (Z.next D nS small hx hy g1 g2 g3 g4 g5 g6 (fun b o hb e => (Heap.get?_update_other _ _ (Ne.symm hb)).trans e) (by first | exact Heap.size_update .. | simp [Heap.update])) hS2 fun h2 ts2 c2 hi2 => ?_⟩)
        (by rw [hlen]; omega) (by show ((ts.map Value.ref).toArray.push _).size ≤ sizeLine + 1; rw [Array.size_push, hlen]; omega)
      exact hR h2 ts2 c2 hi2
    rcases Z.zip with ⟨et, hz, a, b, hTO⟩ | ⟨T, r, f, et, hz⟩
    · refine wpAny_bind (wpAny_pyNext_zip_item D hz Z.ti hTO Z.h1 Z.h2 Z.l1 Z.l2 hx hy fun h' z' TO' h1' h2' hT hsz hk' => ?_)
      exact go h' ⟨_, [], false, by rw [et]; rfl, z'⟩ h1' h2' hT hsz hk'
    · obtain ⟨x', y', _, _, eT⟩ := Z.items 0 T (by rw [et]; rfl)
      refine wpAny_bind (wpAny_pyNext_zip_item_held D hz eT Z.ti Z.h1 Z.h2 Z.l1 Z.l2 hx hy fun h' z' h1' h2' hT hsz hk' => ?_)
      exact go h' ⟨T, r ++ [s.heap.objs.size], true, by rw [et]; rfl, z'⟩ h1' h2' hT hsz (fun c o c1 _ c3 c4 e => hk' c o c1 c3 c4 e)
variable {E : Value → Shared → Prop}
theorem call_list_zip {s : Shared} {Q : Value → Shared → Prop} (hh : A.handled = none) (D : ZipApart z TI TO i1 i2 l1 l2) (small : ∀ b ∈ [z, TI, TO, i1, i2, l1, l2], b < s.heap.objs.size) (hn : min xs.size ys.size ≤ sizeLine)
    (hz : IsZip s.heap z TI TO .none) (hTI : IsPair s.heap TI (.ref i1) (.ref i2)) (hTO : ∃ a b, IsPair s.heap TO a b) (h1 : s.heap.IsListIter i1 l1 0) (h2 : s.heap.IsListIter i2 l2 0) (hl1 : s.heap.IsList l1 xs) (hl2 : s.heap.IsList l2 ys)
    (hQ : ∀ (h' : Heap) (ts : List Addr) (c' : Nat), ts.length = min xs.size ys.size → ts.Nodup → (∀ T ∈ ts, s.heap.objs.size < T) → (∀ (j : Nat) (T : Addr), ts[j]? = some T → ∃ x y, xs[j]? = some x ∧ ys[j]? = some y ∧ IsPair h' T x y) →
      (∀ b o, b ∉ [z, TO, i1, i2] → s.heap.get? b = some o → h'.get? b = some o) → h'.get? s.heap.objs.size = some { cls := .type "list", dict := none, data := .seq (ts.map Value.ref).toArray c', slots := #[] } →
      Q (.ref s.heap.objs.size) { s with heap := h' }) :
    wpAny (model prog w) A (call (.type "list") [.ref z]) Q E s := by
  have nS : s.heap.objs.size ∉ [z, TI, TO, i1, i2, l1, l2] := fun hm => Nat.lt_irrefl _ (small _ hm)
  have nz : s.heap.objs.size ≠ z := fun e => nS (by simp [e])
  refine callType_codes (Q₁ := fun obj s₁ => obj = .ref s.heap.objs.size ∧ s₁ = { s with heap := s.heap.push { cls := .type "list", data := .seq #[] } }) F.called_list (F.typeCall_list_1 _) F.entry_list_init
    (code_list_new _ ⟨rfl, rfl⟩) fun obj s₁ h₁ => ?_
  obtain ⟨rfl, rfl⟩ := h₁
  have hS : (s.heap.push { cls := .type "list", data := .seq #[] }).get? s.heap.objs.size = some { cls := .type "list", data := .seq #[] } := Heap.get?_push_size _ rfl
  refine ⟨⟨_, hS, rfl⟩, F.args_list_init_2 _ _, ?_⟩
  show wpAny _ A.in1.in1 (do let old ← Builtin.List.listItems (.ref s.heap.objs.size); Builtin.List.listUpdate (.ref s.heap.objs.size) (fun _ => #[]); letGo old.toList.reverse; Builtin.List.listExtendWith (.ref s.heap.objs.size) (.ref z) .none) _ _ _
  refine wpAny_bind ?_
  unfold Builtin.List.listItems
  refine wpAny_bind (wpAny_seqItems hS rfl (wpAny_pure ?_))
  show wpAny _ A.in1.in1 (updateSeq s.heap.objs.size (fun _ => #[]) >>= fun _ => letGo (#[] : Array Value).toList.reverse >>= fun _ => Builtin.List.listExtendWith (.ref s.heap.objs.size) (.ref z) .none) _ _ _
  refine wpAny_bind (wpAny_updateSeq hS rfl ?_)
  have hS2 := Heap.get?_update_self (Obj.mapSeq (fun _ => (#[] : Array Value))) hS rfl
  have oth2 : ∀ b o, b ≠ s.heap.objs.size → (s.heap.push { cls := .type "list", data := .seq #[] }).get? b = some o → ((s.heap.push { cls := .type "list", data := .seq #[] }).update s.heap.objs.size (Obj.mapSeq (fun _ => (#[] : Array Value)))).get? b = some o :=
    fun b o hb e => (Heap.get?_update_other _ _ (Ne.symm hb)).trans e
  refine wpAny_bind (wpAny_letGo ?_)
  have hT2 : Shared.TypeIs { s with heap := (s.heap.push { cls := .type "list", data := .seq #[] }).update s.heap.objs.size (Obj.mapSeq (fun _ => (#[] : Array Value))) } (.ref z) "zip" := ⟨_, oth2 z _ (Ne.symm nz) (Heap.get?_push_of_some _ hz), rfl⟩
  unfold Builtin.List.listExtendWith
  refine wpAny_bind (wpAny_typeOf hT2 ?_)
  have q1 : Builtin.List.listSameRef (.ref s.heap.objs.size) (.ref z) = false := by simp [Builtin.List.listSameRef, nz]
  have q2 : (Value.type "zip" == Value.type "list") = false := by decide
  have q3 : (Value.type "zip" == Value.type "tuple") = false := by decide
  simp only [q1, q2, q3, Bool.or_false, Bool.false_eq_true, if_false]
  refine wpAny_bind (wpAny_pyIter_zip (oth2 z _ (Ne.symm nz) (Heap.get?_push_of_some _ hz)) ?_)
  refine wpAny_bind (wpAny_holding ?_)
  unfold Builtin.List.listLengthHint
  refine wpAny_bind (wpAny_specialOf hT2 zip_no_len ?_)
  show wpAny _ A.in1.in1 (specialOf (Value.ref z) (Str.ofString "__length_hint__") >>= _) _ _ _
  refine wpAny_bind (wpAny_specialOf hT2 zip_no_hint ?_)
  refine wpAny_pure ?_
  show wpAny _ A.in1.in1 (rule "list.extend.makes-room" >>= fun _ => Builtin.List.listTouch (.ref s.heap.objs.size) >>= fun _ =>
    again (.builtin "list.extend.loop" ⟨[.ref s.heap.objs.size, .ref z, .none], []⟩)) _ _ _
  refine wpAny_bind (wpAny_rule ?_)
  refine wpAny_bind ?_
  show wpAny _ A.in1.in1 (updateSeq s.heap.objs.size (·.push .none) >>= fun _ => updateSeq s.heap.objs.size (·.pop)) _ _ _
  refine wpAny_bind (wpAny_updateSeq hS2 rfl ?_)
  have hS3 := Heap.get?_update_self (Obj.mapSeq (·.push Value.none)) hS2 rfl
  refine wpAny_updateSeq (hz := by seq_fits) hS3 rfl ?_
  have hS4 := Heap.get?_update_self (Obj.mapSeq (·.pop)) hS3 rfl
  have oth : ∀ b o, s.heap.get? b = some o → ((((s.heap.push { cls := .type "list", data := .seq #[] }).update s.heap.objs.size (Obj.mapSeq (fun _ => (#[] : Array Value)))).update s.heap.objs.size (Obj.mapSeq (·.push Value.none))).update s.heap.objs.size (Obj.mapSeq (·.pop))).get? b = some o := fun b o e => by
    have hb : b ≠ s.heap.objs.size := Nat.ne_of_lt (Heap.lt_size e)
    exact (Heap.get?_update_other _ _ (Ne.symm hb)).trans ((Heap.get?_update_other _ _ (Ne.symm hb)).trans (oth2 b o hb (Heap.get?_push_of_some _ e)))
  have sz : ((((s.heap.push { cls := .type "list", data := .seq #[] }).update s.heap.objs.size (Obj.mapSeq (fun _ => (#[] : Array Value)))).update s.heap.objs.size (Obj.mapSeq (·.push Value.none))).update s.heap.objs.size (Obj.mapSeq (·.pop))).objs.size = s.heap.objs.size + 1 := by
    first | (simp only [Heap.size_update, Heap.size_push]; done) | simp [Heap.update, Heap.push]
  refine wpAny_pure ⟨plainId_quiet F.plain_extend_loop _, zip_loop (A := A.in1) (S := s.heap.objs.size) (ys := ys) (xs := xs) (hh) D nS (h0 := (((s.heap.push { cls := .type "list", data := .seq #[] }).update s.heap.objs.size (Obj.mapSeq (fun _ => (#[] : Array Value)))).update s.heap.objs.size (Obj.mapSeq (·.push Value.none))).update s.heap.objs.size (Obj.mapSeq (·.pop))) (fun b hb => ?_) hn .none _ 0 _ [] _ rfl (Nat.zero_le _) ?_ hS4 fun h' ts c' i' Z hk hSS => ?_⟩
  · rw [sz]
    rcases List.mem_cons.mp hb with e | hb
    · rw [e]; exact Nat.lt_succ_self _
    · exact Nat.lt_succ_of_lt (small b hb)
  · obtain ⟨a, b, hTO⟩ := hTO
    exact ⟨.inl ⟨rfl, oth _ _ hz, a, b, oth _ _ hTO⟩, oth _ _ hTI, h1.at fun o e => oth _ o e, h2.at fun o e => oth _ o e, hl1.at fun o e => oth _ o e, hl2.at fun o e => oth _ o e, rfl, fun j T hj => by simp at hj, fun b o _ e => e, fun T hT => (nomatch hT), List.nodup_nil, Nat.le_refl _⟩
  · have tn : ∀ T ∈ ts, T ∉ [z, TO, i1, i2] := fun T hT hm => by
      have h1 := Z.new T hT
      rw [sz] at h1
      have h2 : T < s.heap.objs.size := small T (by
        simp only [List.mem_cons, List.not_mem_nil, or_false] at hm ⊢
        rcases hm with e | e | e | e <;> simp [e])
      exact Nat.lt_irrefl _ (Nat.lt_of_lt_of_le h2 (Nat.le_of_lt h1))
    refine ⟨rfl, hQ h' ts c' Z.len Z.nodup (fun T hT => by have := Z.new T hT; rw [sz] at this; omega) (fun j T hj => ?_) (fun b o hb e => ?_) ?_⟩
    · obtain ⟨x, y, e1, e2, e3⟩ := Z.items j T hj
      exact ⟨x, y, e1, e2, hk T _ (tn T (List.mem_of_getElem? hj)) e3⟩
    · refine hk b o hb (Z.keep b o (fun hm => ?_) (oth b o e))
      rcases List.mem_cons.mp hm with q | q
      · exact absurd (Heap.lt_size e) (by rw [q]; exact Nat.lt_irrefl _)
      · exact hb q
    · refine hk _ _ (fun hm => nS ?_) hSS
      simp only [List.mem_cons, List.not_mem_nil, or_false] at hm ⊢
      rcases hm with e | e | e | e <;> simp [e]
end
/-! the rule -/
/-- new tuples of the pairs, then the list of them -/
def layP : List (V × V) → List V → Hp → VK → Prop
  | [], acc, H, Q => ∀ S, H S = none → Q (.ref S) (upd H S (.lst acc))
  | (x, y) :: r, acc, H, Q => ∀ T, H T = none → layP r (acc ++ [.ref T]) (upd H T (.tup [x, y])) Q
section
variable {X : Cx} {pins : List (Addr × Obj)} {σ : L2.St}
theorem layP_ok {s : Shared} {S : Addr} {Q : VK} {c : Nat} : ∀ (ps : List (V × V)) (ts : List Addr) (acc : List V) (its : List Value) (H : Hp), Inv X pins σ H s → ts.length = ps.length → ts.Nodup → S ∉ ts → (∀ T ∈ S :: ts, FpOk X pins H T) → (its ++ ts.map Value.ref).length ≤ sizeLine →
    (∀ (j : Nat) (T : Addr) (x y : V), ts[j]? = some T → ps[j]? = some (x, y) → ∃ u v, RelV x u ∧ RelV y v ∧ IsPair s.heap T u v) → Vals acc its → s.heap.get? S = some { cls := .type "list", dict := none, data := .seq (its ++ ts.map Value.ref).toArray c, slots := #[] } →
    layP ps acc H Q → ∃ H', Inv X pins σ H' s ∧ Q (.ref S) H'
  | [], [], acc, its, H, I, _, _, _, hf, hz, _, rv, hS, q => by
    rw [List.map_nil, List.append_nil] at hS hz
    refine ⟨_, I.take (t' := s.toks) (o := .lst acc) (fun b ob _ e => e) (hf S (by simp)) ⟨by rw [rv.length]; exact hz, its, c, rv, hS⟩, q S (hf S (by simp)).1⟩
  | (x, y) :: r, T :: ts, acc, its, H, I, hl, hn, hs, hf, hz, hp, rv, hS, q => by
    obtain ⟨u, v, r1, r2, hT⟩ := hp 0 T x y rfl rfl
    have fT := hf T (by simp)
    have n1 : S ≠ T := fun e => hs (by simp [e])
    have I2 := I.take (t' := s.toks) (h' := s.heap) (o := .tup [x, y]) (fun b ob _ e => e) fT ⟨by show 2 ≤ sizeLine; decide, [u, v], .cons r1 (.cons r2 .nil), ⟨_, hT, rfl, _, rfl⟩⟩
    rw [List.nodup_cons] at hn
    have eq : its ++ (T :: ts).map Value.ref = (its ++ [.ref T]) ++ ts.map Value.ref := by simp
    rw [eq] at hz hS
    refine layP_ok r ts (acc ++ [.ref T]) (its ++ [.ref T]) _ I2 (by simpa using hl) hn.2 (fun h => hs (by simp [h])) (fun T' hT' => ?_) hz (fun j T' x y e1 e2 => hp (j + 1) T' x y (by simpa using e1) (by simpa using e2)) (rv.append (.cons (show RelV (.ref T) (.ref T) from rfl) .nil)) hS (q T fT.1)
    have hT2 : T' ∈ S :: T :: ts := by
      rcases List.mem_cons.mp hT' with h | h
      · simp [h]
      · simp [h]
    have ne : T' ≠ T := by
      rcases List.mem_cons.mp hT' with h | h
      · rw [h]; exact n1
      · exact fun e => hn.1 (e ▸ h)
    obtain ⟨g1, g2⟩ := hf T' hT2
    exact ⟨by rw [upd_ne ne]; exact g1, g2⟩
  | [], _ :: _, _, _, _, _, hl, _, _, _, _, _, _, _, _ => by simp at hl
  | _ :: _, [], _, _, _, _, hl, _, _, _, _, _, _, _, _ => by simp at hl
def tListZip (K : PySem.W.Frag) (ta : TA) : TE := fun σ H Q => ta σ H fun vs H1 => ∃ a b xs ys, vs = [.ref a, .ref b] ∧ SqL K H1 a xs ∧ SqL K H1 b ys ∧ layP (xs.zip ys) [] H1 Q
theorem pe_listZip {X : Cx} {e e2 : Expr} {ta : TA} {p p2 pos q : Pos} (hg : Gl X "zip") (hm : X.mg "zip" = none) (hg2 : Gl X "list") (hm2 : X.mg "list" = none) (ha : PA X [e, e2] ta) (hc : X.calm = true := by rfl)
    (hs : starEach [e, e2] X.env = (false, eval e X.env) :: starEach [e2] X.env := by rfl) (hpl : (backTo q (starEach [e2] X.env)).any (·.1) = false := by rfl) :
    PE X (.Call (.Name "list" p2) [.Call (.Name "zip" p) [e, e2] [] q] [] pos) (tListZip X.K ta) := by
  refine ⟨fun pins s σ H Q I h => ?_⟩
  refine Call_ (ld_blt I hg2 hm2 PyProof.Rows.boot_list ?_)
  refine PyProof.Rows.callWith_type1 (PyProof.Rows.args_cons ?_ rfl) rfl rfl
  refine Call_ (ld_blt I hg hm PyProof.Rows.boot_zip (PyProof.Rows.callWith_type1 (thn (ha.run q pins s σ H _ I h) fun us s1 ⟨vs, H1, I1, r1, q1⟩ => ?_) hs hpl))
  obtain ⟨a, b, xs, ys, ex, hqx, hqy, q1⟩ := q1
  subst ex
  cases r1 with
  | cons r rr =>
    cases rr with
    | cons r' rr =>
      cases rr
      cases r
      cases r'
      obtain ⟨its, rv, p1, z1⟩ := I1.list hqx
      obtain ⟨its2, rv2, p2, z2⟩ := I1.list hqy
      refine call_zip_2 p1.isList p2.isList fun h' hz hTI hTO h1 h2 hsz hk => ?_
      have I2 : Inv X pins σ H1 { s1 with heap := h' } := I1.kept (t' := s1.toks) hk
      refine PyProof.Rows.args_nil ?_
      refine call_list_zip (I2.ok.hd hc) (PySem.W.ktu_apart s1.heap.objs.size a b p1.lt p2.lt) (fun b hb => ?_) ?_ hz hTI ⟨_, _, hTO⟩ h1 h2 (p1.isList.at fun o e => hk _ o e) (p2.isList.at fun o e => hk _ o e) fun hh ts c hlen hnd hnew hit hkeep hSS => ?_
      · simp only [List.mem_cons, List.not_mem_nil, or_false] at hb
        show b < h'.objs.size
        rw [hsz]
        have g1 := p1.lt
        have g2 := p2.lt
        rcases hb with e | e | e | e | e | e | e <;> rw [e]
        · exact Nat.lt_succ_self _
        · exact Nat.add_lt_add_left (by decide) _
        · exact Nat.add_lt_add_left (by decide) _
        · exact Nat.lt_add_of_pos_right (by decide)
        · exact Nat.add_lt_add_left (by decide) _
        · exact Nat.lt_add_right _ g1
        · exact Nat.lt_add_right _ g2
      · have := z1
        simp only [List.size_toArray]
        have l1 := rv.length
        exact Nat.le_trans (Nat.min_le_left ..) (by rw [← l1]; exact z1)
      · have fz : ∀ c, s1.heap.objs.size ≤ c → FpOk X pins H1 c := fun c hle => I1.fpOk hle (I1.hok.fresh hle)
        have le5 : s1.heap.objs.size ≤ h'.objs.size := by rw [hsz]; exact Nat.le_add_right _ _
        have I3 : Inv X pins σ H1 { s1 with heap := hh } := Inv.turnedL (X := X) (s := { s1 with heap := h' }) (h' := hh) (t' := s1.toks) (ch := [s1.heap.objs.size + 4, s1.heap.objs.size + 3, s1.heap.objs.size, s1.heap.objs.size + 1]) I2 hkeep (fun c hcm => fz c (by
          simp only [List.mem_cons, List.not_mem_nil, or_false] at hcm
          rcases hcm with e | e | e | e <;> rw [e]
          · exact Nat.le_add_right _ _
          · exact Nat.le_add_right _ _
          · exact Nat.le_refl _
          · exact Nat.le_add_right _ _))
        have l1 := rv.length
        have l2 := rv2.length
        simp only [List.size_toArray] at hlen
        have hpair : ∀ (j : Nat) (T : Addr) (x y : V), ts[j]? = some T → (xs.zip ys)[j]? = some (x, y) → ∃ u v, RelV x u ∧ RelV y v ∧ IsPair hh T u v := fun j T x y e1 e2 => by
          obtain ⟨u, v, g1, g2, g3⟩ := hit j T e1
          rw [List.getElem?_zip_eq_some] at e2
          obtain ⟨u', hu', ru⟩ := rv.get e2.1
          obtain ⟨v', hv', rv'⟩ := rv2.get e2.2
          have g1' : its[j]? = some u := by simpa using g1
          have g2' : its2[j]? = some v := by simpa using g2
          obtain rfl := Option.some.inj (g1'.symm.trans hu')
          obtain rfl := Option.some.inj (g2'.symm.trans hv')
          exact ⟨u, v, ru, rv', g3⟩
        obtain ⟨H', I4, q4⟩ := layP_ok (s := { s1 with heap := hh }) (S := h'.objs.size) (c := c) (xs.zip ys) ts [] [] H1 I3 (by rw [hlen, List.length_zip, l1, l2]) hnd (fun hm => Nat.lt_irrefl _ (hnew _ hm)) (fun T hT => fz T (by
          rcases List.mem_cons.mp hT with e | e
          · rw [e]; exact le5
          · exact Nat.le_trans le5 (Nat.le_of_lt (hnew T e)))) (by
            rw [List.nil_append, List.length_map, hlen]
            exact Nat.le_trans (Nat.min_le_left ..) (by rw [← l1]; exact z1)) hpair .nil hSS q1
        exact ⟨.ref h'.objs.size, H', I4, rfl, q4⟩
end
/-! the data layer -/
section
variable {K : PySem.W.Frag} {R : RK} {Wc : WX}
theorem layP_rv {m : Bool} {Qc : VK} {Q : PQ} : ∀ {us vs : List V} {ds es : List PyData} {k j : Bool} {acc : List V} {axs : List AV} {A H : Hp} {μ : MU}, WW K R A H μ → LQ K R A H μ Qc Q → RVs K A us (ds.map (AV.dat k)) → RVs K A vs (es.map (AV.dat j)) → RVs K A acc axs →
    newL m (axs ++ (zipD ds es).map (AV.dat (k && j))) μ Q → layP (us.zip vs) acc H Qc
  | [], _, [], es, k, j, acc, axs, A, H, μ, W, kq, _, _, r, q => fun S hS => newL_ok W kq r hS (by simpa [zipD] using q)
  | _ :: _, [], _ :: _, [], k, j, acc, axs, A, H, μ, W, kq, _, _, r, q => fun S hS => newL_ok W kq r hS (by simpa [zipD] using q)
  | u :: us, v :: vs, d :: ds, e :: es, k, j, acc, axs, A, H, μ, W, kq, r1, r2, r, q => fun T hT => by
    obtain ⟨W1, s1⟩ := W.alloc (.tup [u, v]) hT
    cases r1 with
    | cons a1 b1 =>
      cases r2 with
      | cons a2 b2 =>
        refine layP_rv (m := m) (axs := axs ++ [AV.dat (k && j) (.tuple [d, e])]) W1 (kq.go s1) (b1.mono s1.grow) (b2.mono s1.grow) ((r.mono s1.grow).app (.cons (pair_rv (W.free hT).2 a1 a2) .nil)) ?_
        have eq : axs ++ (zipD (d :: ds) (e :: es)).map (AV.dat (k && j)) = axs ++ [AV.dat (k && j) (.tuple [d, e])] ++ (zipD ds es).map (AV.dat (k && j)) := by simp [zipD]
        rw [← eq]; exact q
def wListZip (m : Bool) (wa : WA') : WE' := fun l μ Q X => wa l μ (fun xs μ1 => ∃ x y k j ds es, xs = [x, y] ∧ isL μ1 x (ds.map (AV.dat k)) ∧ isL μ1 y (es.map (AV.dat j)) ∧ newL m ((zipD ds es).map (AV.dat (k && j))) μ1 Q) X
theorem d_listZip {m : Bool} {ta : TA} {wa : WA'} (ha : DA K R Wc ta wa) : DE K R Wc (tListZip K ta) (wListZip m wa) := ⟨fun A H μ σ l Qc Q X W L kq kx q =>
  ha.run A H μ σ l _ _ X W L (fun A1 H1 μ1 us avs s1 W1 rv ⟨x, y, k, j, ds, es, ex, hx, hy, h⟩ => by
    subst ex
    obtain ⟨v, u, rfl, r1, r2⟩ := rv.two
    obtain ⟨a, us, rfl, h1, h2⟩ := r1.seqL W1 hx
    obtain ⟨b, vs, rfl, h3, h4⟩ := r2.seqL W1 hy
    exact ⟨a, b, us, vs, rfl, h1, h3, layP_rv (m := m) (axs := []) W1 (kq.go s1) h2 h4 .nil h⟩) kx q⟩
end
end Fv

/-! sorted(d.items()) of a dict of whole numbers. -/
namespace Fv
open PySem PySem.Spec PyProof.Rows L2
def entI (p : Int × Int) : L2.Key × V := (Sum.inl p.1, V.int p.2)
def pairV (p : Int × Int) : V × V := (V.int p.1, V.int p.2)
theorem dpairs_ix {P : Program} {w : World} {κ : Type} [DecidableEq κ] {knd : PySem.KeyKind P w κ} : ∀ {es : List DictEntry} {vs : List (κ × Value)}, PySem.Pairs knd es vs → ∀ (j : Nat) (e : DictEntry), es[j]? = some e → ∃ q, vs[j]? = some q ∧ knd.is q.1 e.key = true ∧ e.val = q.2
  | _, _, .nil, j, e, h => by simp at h
  | _, _, .cons h1 h2 r, 0, e, h => by
    obtain rfl := Option.some.inj h
    exact ⟨_, rfl, h1, h2⟩
  | _, _, .cons _ _ r, j + 1, e, h => by
    obtain ⟨q, a, b⟩ := dpairs_ix r j e (by simpa using h)
    exact ⟨q, by simpa using a, b⟩
theorem dpairs_len {P : Program} {w : World} {κ : Type} [DecidableEq κ] {knd : PySem.KeyKind P w κ} : ∀ {es : List DictEntry} {vs : List (κ × Value)}, PySem.Pairs knd es vs → es.length = vs.length
  | _, _, .nil => rfl
  | _, _, .cons _ _ r => congrArg (· + 1) (dpairs_len r)
open Classical in
noncomputable def keyOf (h : Heap) (v : Value) : Int × Int := if x : ∃ p : Int × Int, Srt.IsPair h v p.1 p.2 then Classical.choose x else (0, 0)
theorem keyOf_is {h : Heap} {v : Value} {p : Int × Int} (x : Srt.IsPair h v p.1 p.2) : keyOf h v = p := by
  have e : ∃ p : Int × Int, Srt.IsPair h v p.1 p.2 := ⟨p, x⟩
  unfold keyOf
  rw [dif_pos e]
  obtain ⟨a, o, t, u, n, e1, e2, e3, e4⟩ := Classical.choose_spec e
  obtain ⟨a', o', t', u', n', f1, f2, f3, f4⟩ := x
  rw [e1] at f1
  obtain rfl := Value.ref.inj f1
  rw [e2] at f2
  obtain rfl := Option.some.inj f2
  rw [e4] at f4
  injection f4 with g1 g2
  simp only [Array.mk.injEq, List.cons.injEq, Value.int.injEq] at g1
  exact Prod.ext g1.1.1 g1.2.1.1
def tSortItems (te : TE) : TE := fun σ H Q => te σ H fun x H1 => ∃ (d : Addr) (kvs : List (Int × Int)), x = .ref d ∧ H1 d = some (.dK (kvs.map entI)) ∧ kvs.length ≤ 100000 ∧
  ∀ ps : List (Int × Int), ps.Perm kvs → ps.Pairwise (fun p q => p.1 ≤ q.1) → layP (ps.map pairV) [] H1 Q
section
variable {X : Cx} {e : Expr} {te : TE} {p apos cpos pos : Pos}
theorem pe_sortItems (hc : X.calm = true) (he : PE X e te) (hg : Gl X "sorted") (hm : X.mg "sorted" = none) (hbase : attributeBase e "items" X.env (eval e X.env) = eval e X.env := by rfl) (hline : (apos.endLine == cpos.line) = true := by rfl) :
    PE X (.Call (.Name "sorted" p) [.Call (.Attribute e "items" apos) [] [] cpos] [] pos) (tSortItems te) := by
  refine ⟨fun pins s σ H Q I hq => ?_⟩
  refine Call_ (ld_blt I hg hm boot_sorted ?_)
  refine PyProof.Rows.callWith_builtin1 (PyProof.Rows.args_cons ?_ rfl) rfl rfl
  refine wpAny_Call_method (T := "dict") (id := "dict.items") hbase rfl hline F.plainAttrs_dict F.slot_dict_items F.type_dict_items (thn (he.run pins s σ H _ I hq) fun u s1 ⟨x, H1, I1, rx, d, kvs, ex, hd, hkl, q⟩ => ?_)
  subst ex
  obtain rfl : u = Value.ref d := rx
  obtain ⟨hz, hs0, vs, kv, hdo⟩ := I1.hok d _ hd
  obtain ⟨o, es, ep, ho, hx, hdat, hkeys, hprs, hnd⟩ := hdo
  have hdo : s1.heap.DictOf (mixKind X.prog X.w) d vs := ⟨o, es, ep, ho, hx, hdat, hkeys, hprs, hnd⟩
  refine ⟨hdo.typeIs, hdo.mapOf.noDict, ?_⟩
  show wpAny _ _ (callWith cpos (.builtin "dict.items") [.ref d] [] []) _ X.xe s1
  refine method_meetsIn F.slot_dict_items F.entry_dict_items rfl (PySem.evalArgs_none ⟨rfl, hdo.typeIs, F.args_dict_items_1 _, _, meets_dict_items (mixKind X.prog X.w) d hs0, ⟨vs, hdo⟩, ?_⟩)
  refine PyProof.Rows.args_nil ?_
  have hvl : vs.length = kvs.length := by rw [← Paired.length kv, List.length_map]
  have hel : es.size = kvs.length := by rw [← Array.length_toList, dpairs_len hprs, hvl]
  refine DT.sortedI (es := es) (ep := ep) (I1.ok.hd hc) ⟨_, Heap.get?_push_size _ rfl, rfl, rfl⟩ ⟨o, Heap.get?_push_of_some _ ho, hx, hdat⟩ (by rw [hel, sizeLine_eq]; omega) fun h' tk as hk hlt hl hG => ?_
  have pr : ∀ (j : Nat) (b : Addr), as[j]? = some b → ∃ (p : Int × Int) (t u : Tok), kvs[j]? = some p ∧ h'.get? b = some { cls := .type "tuple", data := .seq #[Value.int p.1 t, Value.int p.2 u] } := by
    intro j b hj
    obtain ⟨en, he, hg⟩ := hG.pairs j b hj
    obtain ⟨q2, hq2, k1, k2⟩ := dpairs_ix hprs j en (by simpa using he)
    have hjl : j < kvs.length := by have := (List.getElem?_eq_some_iff.mp hq2).1; omega
    obtain ⟨q3, g1, g2, g3⟩ := paired_get kv (i := j) (a := entI kvs[j]) (by rw [List.getElem?_map, List.getElem?_eq_getElem hjl]; rfl)
    rw [hq2] at g1
    obtain rfl := Option.some.inj g1
    obtain ⟨t, ht⟩ : ∃ t, en.key = .int kvs[j].1 t := by
      have rk := relV_key (show keyIs q2.1 en.key = true from k1)
      rw [← g2] at rk
      exact rk
    obtain ⟨u, hu⟩ : ∃ u, q2.2 = .int kvs[j].2 u := g3
    exact ⟨kvs[j], t, u, List.getElem?_eq_getElem hjl, by rw [hg, ht, k2, hu]⟩
  have hlk : as.length = kvs.length := by rw [hl, hel]
  have hlt0 : s1.heap.objs.size < h'.objs.size := Nat.lt_trans (by show s1.heap.objs.size < (s1.heap.push _).objs.size; rw [size_push']; exact Nat.lt_succ_self _) hlt
  have hab : ∀ a ∈ as, s1.heap.objs.size ≤ a := fun a ha => by
    have h1 := hG.above a ha
    have h2 : s1.heap.objs.size < (s1.heap.push { cls := .type "dict_items", data := .fields #[.ref d] }).objs.size := by rw [size_push']; exact Nat.lt_succ_self _
    exact Nat.le_of_lt (Nat.lt_trans h2 h1)
  have nd : as.Nodup := List.Pairwise.imp (fun h => Nat.ne_of_lt h) hG.rise
  have hob : (h'.push { cls := .type "list", data := .seq (as.map Value.ref).toArray }).get? h'.objs.size = some (seqObj "list" (as.map Value.ref).toArray 0) := Heap.get?_push_size _ rfl
  have ka : ∀ b o, h'.get? b = some o → (h'.push { cls := .type "list", data := .seq (as.map Value.ref).toArray }).get? b = some o := fun b o e => Heap.get?_push_of_some _ e
  have ne0 : ∀ b o, h'.get? b = some o → b ≠ h'.objs.size := fun b o e => Nat.ne_of_lt (Heap.lt_size e)
  generalize hh2 : h'.push { cls := .type "list", data := .seq (as.map Value.ref).toArray } = h2 at hob ka ⊢
  have ky : ∀ (j : Nat) (b : Addr), as[j]? = some b → ∃ p, kvs[j]? = some p ∧ Srt.IsPair h2 (.ref b) p.1 p.2 ∧ keyOf h2 (.ref b) = p := fun j b hj => by
    obtain ⟨p, t, u, hp, hg⟩ := pr j b hj
    have ip : Srt.IsPair h2 (.ref b) p.1 p.2 := ⟨b, _, t, u, _, rfl, ka _ _ hg, rfl, rfl⟩
    exact ⟨p, hp, ip, keyOf_is ip⟩
  refine wpAny_call_entry PyProof.Rows.slot_list_sort ⟨_, hob, rfl⟩ PyProof.Rows.entry_list_sort (SrtO.list_sort_ord (SrtO.swo_lex (keyOf h2)) hob (by rw [List.length_map, hlk, sizeLine_eq]; omega) (fun hh => SrtO.pairs_sortableO (by omega) (fun v hv => ?_) fun o e => ?_) fun out hs hb => ⟨.none, rfl, ?_⟩) (PyProof.Rows.args_list_sort _)
  · obtain ⟨b, hb, rfl⟩ := List.mem_map.mp hv
    obtain ⟨j, hj⟩ := List.mem_iff_getElem?.mp hb
    obtain ⟨p, _, ip, ek⟩ := ky j b hj
    rw [ek]; exact ip
  · have e' : some o = some (seqObj "list" (as.map Value.ref).toArray 0) := e.symm.trans hob
    cases e'
    intro c
    exact absurd (Value.type.inj c) (by decide)
  · have m1 : (as.zip kvs).map Prod.fst = as := List.map_fst_zip (by omega)
    have m2 : (as.zip kvs).map Prod.snd = kvs := List.map_snd_zip (by omega)
    have m3 : (as.zip kvs).map (fun z : Addr × (Int × Int) => Value.ref z.1) = as.map Value.ref := by
      have h := congrArg (List.map Value.ref) m1
      rw [List.map_map] at h
      exact h
    obtain ⟨zs, pz, ez⟩ := perm_lift (fun z : Addr × (Int × Int) => Value.ref z.1) hb.perm (as.zip kvs) m3
    have idx : ∀ z ∈ zs, ∃ j : Nat, as[j]? = some z.1 ∧ kvs[j]? = some z.2 := fun z hz => by
      obtain ⟨j, hj⟩ := List.mem_iff_getElem?.mp (pz.mem_iff.mp hz)
      exact ⟨j, List.getElem?_zip_eq_some.mp hj⟩
    have kz : ∀ z ∈ zs, keyOf h2 (.ref z.1) = z.2 := fun z hz => by
      obtain ⟨j, j1, j2⟩ := idx z hz
      obtain ⟨p, hp, _, ek⟩ := ky j z.1 j1
      rw [j2] at hp
      rw [ek]; exact (Option.some.inj hp).symm
    have hperm : (zs.map Prod.snd).Perm kvs := by
      have h := pz.map Prod.snd
      rw [m2] at h; exact h
    have hpt : (zs.map Prod.fst).Perm as := by
      have h := pz.map Prod.fst
      rw [m1] at h; exact h
    have hsort : (zs.map Prod.snd).Pairwise (fun p q : Int × Int => p.1 ≤ q.1) := by
      rw [← ez, SrtO.Srtd, List.pairwise_map] at hs
      rw [List.pairwise_map]
      refine List.Pairwise.imp_of_mem (fun {x y} hx hy h => ?_) hs
      rw [kz x hx, kz y hy] at h
      have h := SrtO.lexB_no.mp h
      show x.2.1 ≤ y.2.1
      omega
    have kF : ∀ b o, b ≠ h'.objs.size → h2.get? b = some o → (sortedHeap h2 h'.objs.size (as.map Value.ref) out.toArray).get? b = some o := fun b o hb e => (PyProof.Rows.sortedHeap_old hb (Heap.lt_size e)).trans e
    have kS : ∀ b o, s1.heap.get? b = some o → (sortedHeap h2 h'.objs.size (as.map Value.ref) out.toArray).get? b = some o := fun b o e => by
      have e1 := hk b o (Heap.get?_push_of_some _ e)
      exact kF b o (ne0 _ _ e1) (ka b o e1)
    obtain ⟨eF, heF⟩ := PyProof.Rows.sortedHeap_at (vs := as.map Value.ref) (out := out.toArray) hob
    have I2 : Inv X pins σ H1 { s1 with heap := sortedHeap h2 h'.objs.size (as.map Value.ref) out.toArray, toks := tk } := I1.kept (t' := tk) kS
    have fz : ∀ c, s1.heap.objs.size ≤ c → FpOk X pins H1 c := fun c hle => I1.fpOk hle (I1.hok.fresh hle)
    have hSn : h'.objs.size ∉ zs.map Prod.fst := fun hm => by
      obtain ⟨j, hj⟩ := List.mem_iff_getElem?.mp (hpt.mem_iff.mp hm)
      obtain ⟨p, t, u, _, hg⟩ := pr j _ hj
      exact ne0 _ _ hg rfl
    obtain ⟨H', I4, q4⟩ := layP_ok (s := { s1 with heap := sortedHeap h2 h'.objs.size (as.map Value.ref) out.toArray, toks := tk }) (S := h'.objs.size) (c := eF) ((zs.map Prod.snd).map pairV) (zs.map Prod.fst) [] [] H1 I2 (by simp) (hpt.nodup_iff.mpr nd) hSn (fun T hT => fz T (by
      rcases List.mem_cons.mp hT with e | e
      · rw [e]; exact Nat.le_of_lt hlt0
      · exact hab T (hpt.mem_iff.mp e))) (by
        rw [List.nil_append, List.length_map, hpt.length_eq, hlk, sizeLine_eq]; omega) (fun j T x y e1 e2 => by
        rw [List.getElem?_map] at e1
        obtain ⟨z, hz, rfl⟩ := Option.map_eq_some_iff.mp e1
        rw [List.getElem?_map, List.getElem?_map, hz] at e2
        obtain ⟨rfl, rfl⟩ := Prod.mk.inj (Option.some.inj e2)
        obtain ⟨i, i1, i2⟩ := idx z (List.mem_of_getElem? hz)
        obtain ⟨p, t, u, hp, hg⟩ := pr i z.1 i1
        rw [i2] at hp
        obtain rfl := Option.some.inj hp
        exact ⟨.int z.2.1 t, .int z.2.2 u, ⟨t, rfl⟩, ⟨u, rfl⟩, kF _ _ (ne0 _ _ hg) (ka _ _ hg)⟩) .nil (by
        rw [List.nil_append, List.map_map]
        show _ = some (seqObj "list" (zs.map fun z => Value.ref z.1).toArray eF)
        rw [ez]; exact heF) (q _ hperm hsort)
    exact ⟨.ref h'.objs.size, H', I4, rfl, q4⟩
end
end Fv

/-! dicts of whole numbers, in the layer of data. -/
namespace Fv
open PySem PySem.Spec PyProof.Rows L2
theorem inl_iff {a b : Int} : ((Sum.inl a : L2.Key) = Sum.inl b) ↔ a = b := ⟨fun h => Sum.inl.inj h, fun h => by rw [h]⟩
theorem putI_ent (kvs : List (Int × Int)) (k i : Int) : putK (kvs.map entI) (Sum.inl k : L2.Key) (V.int i) = (putI kvs k i).map entI := by
  have h1 : ((kvs.map entI).any fun kv => decide (kv.1 = (Sum.inl k : L2.Key))) = kvs.any fun p => decide (p.1 = k) := by
    rw [List.any_map]
    refine congrArg (fun f => List.any kvs f) (funext fun p => ?_)
    show decide ((Sum.inl p.1 : L2.Key) = Sum.inl k) = decide (p.1 = k)
    exact decide_eq_decide.mpr inl_iff
  unfold putK putI
  rw [h1]
  by_cases h : (kvs.any fun p => decide (p.1 = k)) = true
  · rw [if_pos h, if_pos h, List.map_map, List.map_map]
    refine List.map_congr_left fun p _ => ?_
    show (if (Sum.inl p.1 : L2.Key) = Sum.inl k then ((Sum.inl p.1 : L2.Key), V.int i) else entI p) = entI (if p.1 = k then (p.1, i) else p)
    by_cases e : p.1 = k
    · rw [if_pos e, if_pos (inl_iff.mpr e)]; rfl
    · rw [if_neg e, if_neg (fun z => e (inl_iff.mp z))]
  · rw [if_neg h, if_neg h, List.map_append]; rfl
theorem getI_ent : ∀ (kvs : List (Int × Int)) (k : Int), valV (kvs.map entI) (Sum.inl k : L2.Key) = (getI kvs k).map V.int
  | [], k => rfl
  | p :: r, k => by
    by_cases e : p.1 = k
    · rw [List.map_cons, valV_pos (p := entI p) (inl_iff.mpr e)]
      show some (V.int p.2) = _
      unfold getI
      rw [List.find?_cons_of_pos (by simpa using e)]; rfl
    · rw [List.map_cons, valV_neg (p := entI p) (fun z => e (inl_iff.mp z)), getI_ent r k]
      unfold getI
      rw [List.find?_cons_of_neg (by simpa using e)]
section
variable {K : PySem.W.Frag} {R : RK} {Wc : WX}
def wDNew : WE' := fun l μ Q X => ∀ a, μ a = none → Q (.ref a) (updM μ a (.dic []))
theorem d_dnew : DE K R Wc tDNewK wDNew := ⟨fun A H μ σ l Qc Q X W L kq kx q => fun p hp => by
  obtain ⟨W1, s1⟩ := W.own (p := p) (ho := .dK []) (o := .dic []) hp rfl
  exact kq _ _ _ _ (.ref p) s1 W1 rfl (q p (W.free hp).1)⟩
def wDPut (wd wy wv : WE') : WS' := fun D l μ => wv l μ (fun v μ1 => wd l μ1 (fun x μ2 => wy l μ2 (fun y μ3 => ∃ a kvs k i, x = .ref a ∧ μ3 a = some (.dic kvs) ∧ isI y k ∧ isI v i ∧ kvs.length < 100000 ∧ D.nx l (updM μ3 a (.dic (putI kvs k i))))
  fun c μ => D.xc c l μ) fun c μ => D.xc c l μ) fun c μ => D.xc c l μ
theorem ds_dput {td ty tv : TE} {wd wy wv : WE'} (hd : DE K R Wc td wd) (hy : DE K R Wc ty wy) (hv : DE K R Wc tv wv) : DS K R Wc (sDPut td ty tv) (wDPut wd wy wv) := ⟨fun A H μ σ l Dc D W e r c q =>
  hv.run A H μ σ l _ _ _ W r (fun A1 H1 μ1 v av s1 W1 rv q1 => hd.run A1 H1 μ1 σ l _ _ _ W1 (r.mono s1.grow) (fun A2 H2 μ2 x ax s2 W2 rx q2 => hy.run A2 H2 μ2 σ l _ _ _ W2 (r.mono (s1.trans s2).grow) (fun A3 H3 μ3 y ay s3 W3 ry ⟨a, kvs, k, i, ex, hm, hk, hi, hl, q3⟩ => by
    subst ex
    cases (show x = .ref a from rx)
    obtain rfl := ry.i hk
    obtain rfl := (RV.mono (s2.trans s3).grow rv).i hi
    obtain ⟨n, hob, h1, rfl⟩ := W3.obs a _ hm
    obtain ⟨W4, s4⟩ := W3.mut hm (ho := .dK ((putI kvs k i).map entI)) (o := .dic (putI kvs k i)) rfl
    refine ⟨a, _, rfl, ?_, c.nx _ _ _ _ _ ((s1.trans s2).trans (s3.trans s4)) W4 e (r.mono ((s1.trans s2).trans (s3.trans s4)).grow) q3⟩
    rw [← putI_ent]
    exact DPut.k (a := a) (k := (Sum.inl k : L2.Key)) (v := V.int i) h1 (by rw [List.length_map, sizeLine_eq]; omega)) (((c.go s1).go s2).xc.lk e (r.mono (s1.trans s2).grow)) q2) ((c.go s1).xc.lk e (r.mono s1.grow)) q1) (c.xc.lk e r) q⟩
def wDGet2 (wd wy wx : WE') : WE' := fun l μ Q X => wd l μ (fun x μ1 => ∃ a, x = .ref a ∧ (∃ kvs, μ1 a = some (.dic kvs)) ∧ wy l μ1 (fun y μ2 => wx l μ2 (fun z μ3 => ∃ kvs k i, μ3 a = some (.dic kvs) ∧ isI y k ∧ isI z i ∧ Q (iAV ((getI kvs k).getD i)) μ3) X) X) X
theorem d_dget2 {td ty tx : TE} {wd wy wx : WE'} (hd : DE K R Wc td wd) (hy : DE K R Wc ty wy) (hx : DE K R Wc tx wx) : DE K R Wc (tDGet2 td ty tx) (wDGet2 wd wy wx) := ⟨fun A H μ σ l Qc Q X W L kq kx q =>
  hd.run A H μ σ l _ _ _ W L (fun A1 H1 μ1 x ax s1 W1 rx ⟨a, ex, ⟨kvs0, hm0⟩, q1⟩ => by
    subst ex
    cases (show x = .ref a from rx)
    obtain ⟨n0, hob0, h0, rfl⟩ := W1.obs a _ hm0
    refine ⟨a, rfl, .inl ⟨_, .inl h0⟩, hy.run A1 H1 μ1 σ l _ _ _ W1 (L.mono s1.grow) (fun A2 H2 μ2 y ay s2 W2 ry q2 => hx.run A2 H2 μ2 σ l _ _ _ W2 (L.mono (s1.trans s2).grow) (fun A3 H3 μ3 z az s3 W3 rz ⟨kvs, k, i, hm, hk, hi, q3⟩ => ?_) ((kx.go s1).go s2) q2) (kx.go s1) q1⟩
    obtain rfl := (RV.mono s3.grow ry).i hk
    obtain rfl := rz.i hi
    obtain ⟨n, hob, h1, rfl⟩ := W3.obs a _ hm
    refine ⟨_, DGet.k (k := (Sum.inl k : L2.Key)) h1, ?_⟩
    have e : (valV (kvs.map fun p => ((Sum.inl p.1 : L2.Key), V.int p.2)) (Sum.inl k : L2.Key)).getD (V.int i) = V.int ((getI kvs k).getD i) := by
      rw [show (kvs.map fun p => ((Sum.inl p.1 : L2.Key), V.int p.2)) = kvs.map entI from rfl, getI_ent]
      cases getI kvs k <;> rfl
    rw [e]
    exact (((kq.go s1).go s2).go s3).i W3 q3) kx q⟩
/-- whole numbers in pairs, laid anew -/
theorem layP_ints {m : Bool} {A H : Hp} {μ : MU} {Qc : VK} {Q : PQ} {ps : List (Int × Int)} (W : WW K R A H μ) (kq : LQ K R A H μ Qc Q) (q : newL m ((ps.map fun p => PyData.tuple [.int p.1, .int p.2]).map (AV.dat true)) μ Q) : layP (ps.map pairV) [] H Qc := by
  have e1 : ps.map pairV = (ps.map fun p => V.int p.1).zip (ps.map fun p => V.int p.2) := by
    rw [List.zip_map']; rfl
  have e2 : (ps.map fun p => PyData.tuple [.int p.1, .int p.2]) = zipD (ps.map fun p => PyData.int p.1) (ps.map fun p => PyData.int p.2) := by
    clear q e1 kq W
    induction ps with
    | nil => rfl
    | cons p r ih =>
      show PyData.tuple [.int p.1, .int p.2] :: _ = PyData.tuple [.int p.1, .int p.2] :: zipD _ _
      rw [ih]
  have rv : ∀ f : Int × Int → Int, RVs K A (ps.map fun p => V.int (f p)) ((ps.map fun p => PyData.int (f p)).map (AV.dat true)) := fun f => by
    clear q e1 e2
    induction ps with
    | nil => exact .nil
    | cons p r ih => exact .cons (Tr.int _) ih
  rw [e1]
  rw [e2] at q
  exact layP_rv (m := m) (axs := []) (k := true) (j := true) W kq (rv Prod.fst) (rv Prod.snd) .nil q
def wSortIt (m : Bool) (wd : WE') : WE' := fun l μ Q X => wd l μ (fun x μ1 => ∃ a kvs, x = .ref a ∧ μ1 a = some (.dic kvs) ∧ kvs.length ≤ 100000 ∧ ∀ ps : List (Int × Int), ps.Perm kvs → ps.Pairwise (fun p q => p.1 ≤ q.1) → newL m ((ps.map fun p => PyData.tuple [.int p.1, .int p.2]).map (AV.dat true)) μ1 Q) X
theorem d_sortIt {m : Bool} {td : TE} {wd : WE'} (hd : DE K R Wc td wd) : DE K R Wc (tSortItems td) (wSortIt m wd) := ⟨fun A H μ σ l Qc Q X W L kq kx q =>
  hd.run A H μ σ l _ _ _ W L (fun A1 H1 μ1 x ax s1 W1 rx ⟨a, kvs, ex, hm, hl, q1⟩ => by
    subst ex
    cases (show x = .ref a from rx)
    obtain ⟨n0, hob0, h0, rfl⟩ := W1.obs a _ hm
    exact ⟨a, kvs, rfl, h0, hl, fun ps p1 p2 => layP_ints W1 (kq.go s1) (q1 ps p1 p2)⟩) kx q⟩
end
end Fv

/-! a local list is frozen where it stands. -/
namespace Fv
open PySem PySem.Spec PyProof.Rows L2
section
variable {K : PySem.W.Frag} {R : RK} {Wc : WX}
def wFrzV (i : Nat) (ws : WS') : WS' := fun D l μ => ∃ a xs ds, l[i]? = some (some (.ref a)) ∧ μ a = some (.lst xs) ∧ dats xs = some ds ∧ ws D (l.set i (some (.dat (xs.all AV.fr) (.list ds)))) (delM μ a)
theorem ds_frzV {i : Nat} {t : TS} {ws : WS'} (h : DS K R Wc t ws) : DS K R Wc t (wFrzV i ws) := ⟨fun A H μ σ l Dc D W e r c ⟨a, xs, ds, hi, hm, hd, q⟩ => by
  obtain ⟨n, ho, h1, vs, rfl, h2⟩ := W.obs a _ hm
  obtain ⟨W1, s1⟩ := W.freeze hm h1
  have g : Same A (upd A a (.lst vs)) := s1.grow
  have rv : RV K (upd A a (.lst vs)) (.ref a) (.dat (xs.all AV.fr) (.list ds)) := by
    cases z : xs.all AV.fr with
    | true => exact Tr.lst upd_same (TrAll.mono g (RVs.tr h2 hd z))
    | false => exact Dq.lst (SqL.of upd_same) (DqAll.mono g (RVs.dq h2 hd))
  obtain ⟨v, hv, rvv⟩ := r.at' i _ hi
  obtain rfl := (show v = .ref a from rvv)
  refine h.run _ _ _ σ (l.set i (some (.dat (xs.all AV.fr) (.list ds)))) Dc D W1 (by rw [List.length_set]; exact e) ⟨by rw [List.length_set]; exact r.len, fun j av hj => ?_⟩ (c.go s1) q
  by_cases hji : j = i
  · subst hji
    have hlt : j < l.length := (List.getElem?_eq_some_iff.mp hi).1
    rw [List.getElem?_set_self hlt] at hj
    obtain rfl := Option.some.inj (Option.some.inj hj)
    exact ⟨_, hv, rv⟩
  · rw [List.getElem?_set_ne (Ne.symm hji)] at hj
    obtain ⟨v, f1, f2⟩ := r.at' j av hj
    exact ⟨v, f1, RV.mono g f2⟩⟩
end
end Fv

/-! a list that may change is lent to a def that changes nothing. -/
namespace Fv
open PySem PySem.Spec PyProof.Rows L2
section
variable {K : PySem.W.Frag} {R : RK} {Wc : WX}
inductive Lent (μ : MU) : List AV → List AV → Prop
  | nil : Lent μ [] []
  | keep {x : AV} {xs ys : List AV} : Lent μ xs ys → Lent μ (x :: xs) (x :: ys)
  | lend {a : Addr} {vs : List AV} {ds : List PyData} {xs ys : List AV} : μ a = some (.lst vs) → dats vs = some ds → Lent μ xs ys → Lent μ (.ref a :: xs) (.dat (vs.all AV.fr) (.list ds) :: ys)
theorem Lent.rvs {A H : Hp} {μ : MU} (W : WW K R A H μ) : ∀ {xs ys : List AV} {us : List V}, Lent μ xs ys → RVs K A us xs → RVs K H us ys
  | _, _, _, .nil, .nil => .nil
  | _, _, _, .keep h, .cons r t => .cons (RV.mono W.sub r) (Lent.rvs W h t)
  | _, _, _, .lend (a := a) (vs := vs) (ds := ds) hm hd h, .cons r t => by
    obtain ⟨n, ho, h1, ws, rfl, h2⟩ := W.obs a _ hm
    refine .cons ?_ (Lent.rvs W h t)
    cases (show _ = V.ref a from r)
    have h3 := RVs.mono W.sub h2
    cases z : vs.all AV.fr with
    | true => exact Tr.lst h1 (RVs.tr h3 hd z)
    | false => exact Dq.lst (SqL.of h1) (RVs.dq h3 hd)
theorem rv_flat {A A' : Hp} {v : V} {k : Bool} {d : PyData} (r : RV K A v (.dat k d)) (f : flatD d = true) : RV K A' v (.dat k d) := by
  obtain ⟨e, _⟩ := Dq.flat r.dq f
  subst e
  cases k with
  | true =>
    cases d with
    | none => exact Tr.non
    | bool b => exact Tr.bl b
    | int i => exact Tr.int i
    | str x => exact Tr.str x
    | _ => cases f
  | false =>
    cases d with
    | none => exact Dq.non
    | bool b => exact Dq.bl b
    | int i => exact Dq.int i
    | str x => exact Dq.str x
    | _ => cases f
def wCallL (f : FD) (wa : WA') : WE' := fun l μ Q X => wa l μ (fun xs μ1 => ∃ ys, Lent μ1 xs ys ∧ f ys (fun _ => none) (fun av _ => (∃ k d, av = .dat k d ∧ flatD d = true) ∧ Q av μ1) noX) X
theorem d_callL {f : FD} {ta : TA} {wa : WA'} (ha : DA K R Wc ta wa) : DE K R Wc (tCall (spD K R f) [] E0 ta) (wCallL f wa) := ⟨fun A H μ σ l Qc Q X W L kq kx h =>
  ha.run A H μ σ l _ _ X W L (fun A1 H1 μ1 xs axs s1 W1 r1 ⟨ys, hl, q1⟩ => by
    show spD K R f (xs ++ []) H1 Qc E0
    rw [List.append_nil]
    have W2 : WW K R H1 H1 (fun _ => none) := ⟨Same.refl _, fun a o e => nomatch e⟩
    refine ⟨H1, fun _ => none, ys, _, noX, W2, hl.rvs W1 r1, q1, fun A' H' μ' v av s W' r ⟨⟨k, d, e, hf⟩, q2⟩ => ?_, fun _ _ _ _ _ _ z => z.elim⟩
    subst e
    have sm : Same H1 H' := fun a o e => by rw [s.frame a (by rw [e]; simp) rfl]; exact e
    obtain ⟨W3, s3⟩ := W1.extS sm
    exact (kq.go s1) _ _ _ _ _ s3 W3 (rv_flat r hf) q2) kx h⟩
theorem d_callLc {f : FD} {ta : TA} {wa : WA'} (ha : DA K R Wc ta wa) : DE K R Wc (tCall (fun vs H Q _ => spD K R f vs H Q E0) [] E0 ta) (wCallL f wa) := d_callL ha
end
end Fv

/-! how many unlike ones a list has; the greatest, the least of a list; a list turned about. -/
namespace Fv
open PySem PySem.Spec PyProof.Rows L2
/-- how many unlike numbers -/
def unlike (ns : List Int) : Nat := (firstMet (fun i => ns.getD i 0) ns.length).length
def tUnlike (K : PySem.W.Frag) (ta : TE) : TE := fun σ H Q => ta σ H fun x H1 => ∃ (l : Addr) (ns : List Int), x = .ref l ∧ SqL K H1 l (ns.map V.int) ∧ ns.length ≤ 4000 ∧ Q (.int (unlike ns : Nat)) H1
theorem pe_unlike {X : Cx} {a : Expr} {ta : TE} {p p2 q pos : Pos} (gl : Gl X "len") (ml : X.mg "len" = none) (gs : Gl X "set") (ms : X.mg "set" = none) (ha : PE X a ta) (hc : X.calm = true := by rfl)
    (na : starEach [a] X.env = (false, eval a X.env) :: starEach [] X.env := by rfl) : PE X (.Call (.Name "len" p) [.Call (.Name "set" p2) [a] [] q] [] pos) (tUnlike X.K ta) := ⟨fun pins s σ H Q I h => by
  refine Call_ (ld_blt I gl ml boot_len (PyProof.Rows.callWith_builtin1 (PyProof.Rows.args_cons ?_ rfl) rfl rfl))
  refine Call_ (ld_blt I gs ms boot_set (PyProof.Rows.callWith_type1 (PyProof.Rows.args_cons (thn (ha.run pins s σ H _ I h) fun v s1 ⟨x, H1, I1, r1, q1⟩ => PyProof.Rows.args_nil ?_) na) na rfl))
  obtain ⟨l, ns, rfl, hq, hl, q1⟩ := q1; cases r1
  obtain ⟨its, r, pl, hz⟩ := I1.list hq
  have hi : IntsAre its.toArray.toList ns := by simpa using ints_of_vals r
  have hlen : its.toArray.size = ns.length := by rw [List.size_toArray, ← r.length, List.length_map]
  refine call_set_list (I1.ok.hd hc) pl.isList hi (by rw [hlen]; unfold scanBound; omega) fun h' tk hS hk => PyProof.Rows.args_nil ?_
  rw [hlen] at hS
  obtain ⟨o, es, ep, t, ho, hex, hd, _, _, _, hf, hn⟩ := hS
  have I2 : Inv X pins σ H1 { s1 with heap := h', toks := tk } := I1.kept fun b o e => hk b o (Heap.lt_size e) e
  have hle := firstMet_length_le (fun i => ns.getD i 0) ns.length
  exact call_len_set ho hex hd hf (by rw [hn]; omega) ⟨.int (unlike ns : Nat), H1, I2.tok _, ⟨_, by rw [hn]; rfl⟩, q1⟩⟩
/-! unlike ones stay unlike through a map that keeps them apart -/
def ded (l : List Int) : List Int := l.foldl step_dedup []
theorem unlike_eq (ns : List Int) : unlike ns = (ded ns).length := by
  unfold unlike ded firstMet
  congr 2
  refine List.ext_getElem (by simp) fun i h1 h2 => ?_
  rw [List.getElem_map, List.getElem_range, List.getD_eq_getElem?_getD, List.getElem?_eq_getElem h2]; rfl
theorem ded_map (f : Int → Int) (S : Int → Prop) (inj : ∀ x y, S x → S y → f x = f y → x = y) : ∀ (l acc : List Int), (∀ x ∈ l, S x) → (∀ x ∈ acc, S x) → (l.map f).foldl step_dedup (acc.map f) = (l.foldl step_dedup acc).map f
  | [], _, _, _ => rfl
  | x :: r, acc, hl, ha => by
    have hx : S x := hl x List.mem_cons_self
    have h1 : step_dedup (acc.map f) (f x) = (step_dedup acc x).map f := by
      unfold step_dedup
      have h2 : (acc.map f).any (· == f x) = acc.any (· == x) := by
        rw [List.any_map, Bool.eq_iff_iff, List.any_eq_true, List.any_eq_true]
        constructor
        · rintro ⟨y, hy, e⟩
          exact ⟨y, hy, by have := inj y x (ha y hy) hx (by simpa using e); simp [this]⟩
        · rintro ⟨y, hy, e⟩
          exact ⟨y, hy, by have : y = x := by simpa using e
                           simp [this]⟩
      rw [h2]
      split
      · rfl
      · simp
    have h3 : ∀ y ∈ step_dedup acc x, S y := fun y hy => by
      unfold step_dedup at hy
      split at hy
      · exact ha y hy
      · rcases List.mem_append.mp hy with h | h
        · exact ha y h
        · rw [List.mem_singleton] at h; rw [h]; exact hx
    show (r.map f).foldl step_dedup (step_dedup (acc.map f) (f x)) = (r.foldl step_dedup (step_dedup acc x)).map f
    rw [h1]
    exact ded_map f S inj r _ (fun y hy => hl y (List.mem_cons_of_mem _ hy)) h3
theorem unlike_map {f : Int → Int} {S : Int → Prop} (inj : ∀ x y, S x → S y → f x = f y → x = y) {l : List Int} (h : ∀ x ∈ l, S x) : unlike (l.map f) = unlike l := by
  rw [unlike_eq, unlike_eq]
  have := ded_map f S inj l [] h (by simp)
  unfold ded
  rw [show (l.map f).foldl step_dedup [] = (l.foldl step_dedup []).map f from this, List.length_map]
section
variable {K : PySem.W.Frag} {R : RK} {Wc : WX}
def wUnlike (wa : WE') : WE' := fun l μ Q X => wa l μ (fun x μ1 => ∃ (k : Bool) (ns : List Int), isL μ1 x (ns.map fun i => AV.dat k (.int i)) ∧ ns.length ≤ 4000 ∧ Q (iAV (unlike ns : Nat)) μ1) X
theorem rvs_ints {A : Hp} {k : Bool} : ∀ {vs : List V} {ns : List Int}, RVs K A vs (ns.map fun i => AV.dat k (.int i)) → vs = ns.map V.int
  | _, [], h => by cases h; rfl
  | _, n :: r, h => by
    cases h with
    | cons h1 h2 => rw [rvs_ints h2, RV.i h1 (show isI (.dat k (.int n)) n from rfl)]; rfl
theorem d_unlike {ta : TE} {wa : WE'} (ha : DE K R Wc ta wa) : DE K R Wc (tUnlike K ta) (wUnlike wa) := ⟨fun A H μ σ l Qc Q X W L kq kx h =>
  ha.run A H μ σ l _ _ X W L (fun A1 H1 μ1 x ax s1 W1 r1 ⟨k, ns, hx, hl, q1⟩ => by
    obtain ⟨a, vs, rfl, h1, h2⟩ := r1.seqL W1 hx
    have e := rvs_ints h2
    subst e
    exact ⟨a, ns, rfl, h1, hl, (kq.go s1).i W1 q1⟩) kx h⟩
def bMaxL : List AV → MU → PQ → Prop := fun xs μ Q => ∃ (x : AV) (k : Bool) (ns : List Int), xs = [x] ∧ isL μ x (ns.map fun i => AV.dat k (.int i)) ∧ 0 < ns.length ∧ ∀ m, m ∈ ns → (∀ y, y ∈ ns → y ≤ m) → Q (iAV m) μ
def bMinL : List AV → MU → PQ → Prop := fun xs μ Q => ∃ (x : AV) (k : Bool) (ns : List Int), xs = [x] ∧ isL μ x (ns.map fun i => AV.dat k (.int i)) ∧ 0 < ns.length ∧ ∀ m, m ∈ ns → (∀ y, y ∈ ns → m ≤ y) → Q (iAV m) μ
theorem cd_maxL : CallD K R (rMax K) bMaxL := by
  rintro A H μ vs _ Qc Q W r kq ⟨x, k, ns, rfl, h, hp, q⟩
  obtain ⟨v, rfl, r1⟩ := r.one
  obtain ⟨a, us, rfl, h1, h2⟩ := r1.seqL W h
  have e := rvs_ints h2
  subst e
  exact ⟨a, ns, rfl, h1, hp, fun m hm hle => kq.i W (q m hm hle)⟩
theorem cd_minL : CallD K R (rMin K) bMinL := by
  rintro A H μ vs _ Qc Q W r kq ⟨x, k, ns, rfl, h, hp, q⟩
  obtain ⟨v, rfl, r1⟩ := r.one
  obtain ⟨a, us, rfl, h1, h2⟩ := r1.seqL W h
  have e := rvs_ints h2
  subst e
  exact ⟨a, ns, rfl, h1, hp, fun m hm hle => kq.i W (q m hm hle)⟩
end
end Fv

/-! small helps: data that may be compared, asked for their class. -/
namespace Fv
open PySem PySem.Spec PyProof.Rows L2
/-- flat, texts of plain signs -/
def okF : PyData → Bool | .none => true | .bool _ => true | .int _ => true | .str x => PyData.canLay0 (.str x) | _ => false
theorem flat_cl {d : PyData} (h : okF d = true) : PyData.canLay0 d = true ∧ d.depth = 0 ∧ d.hasDict = false := by
  cases d with
  | none => exact ⟨rfl, by simp [PyData.depth], rfl⟩
  | bool b => exact ⟨rfl, by simp [PyData.depth], rfl⟩
  | int b => exact ⟨rfl, by simp [PyData.depth], rfl⟩
  | str b => exact ⟨h, by simp [PyData.depth], rfl⟩
  | _ => cases h
theorem flats_cl : ∀ {ds : List PyData}, ds.all okF = true → PyData.canLayAll0 ds = true ∧ PyData.depthAll ds ≤ 1 ∧ PyData.hasDictAll ds = false
  | [], _ => ⟨rfl, by simp [PyData.depthAll], rfl⟩
  | d :: r, h => by
    rw [List.all_cons, Bool.and_eq_true] at h
    obtain ⟨a, b, c⟩ := flat_cl h.1
    obtain ⟨a', b', c'⟩ := flats_cl h.2
    refine ⟨?_, ?_, ?_⟩
    · show (PyData.canLay0 d && PyData.canLayAll0 r) = true; rw [a, a']; rfl
    · simp only [PyData.depthAll]; omega
    · show (PyData.hasDict d || PyData.hasDictAll r) = false; rw [c, c']; rfl
theorem shaped_tup {ds : List PyData} (h : ds.all okF = true) : SeqAt.shaped (.tuple ds) = true ∧ (PyData.tuple ds).hasDict = false := by
  obtain ⟨a, b, c⟩ := flats_cl h
  refine ⟨?_, c⟩
  show (PyData.canLayAll0 ds && decide (PyData.depth (.tuple ds) ≤ 64)) = true
  rw [a, decide_eq_true (by simp only [PyData.depth]; omega)]; rfl
theorem shaped_lst {ds : List PyData} (h : ds.all okF = true) : SeqAt.shaped (.list ds) = true ∧ (PyData.list ds).hasDict = false := by
  obtain ⟨a, b, c⟩ := flats_cl h
  refine ⟨?_, c⟩
  show (PyData.canLayAll0 ds && decide (PyData.depth (.list ds) ≤ 64)) = true
  rw [a, decide_eq_true (by simp only [PyData.depth]; omega)]; rfl
theorem eqD_tup {k j n : Bool} {ds : List PyData} {μ : MU} {Q : PQ} (h : ds.all okF = true) (q : Q (bAV (n ^^ true)) μ) : aEqD n (.dat k (.tuple ds)) (.dat j (.tuple ds)) μ Q :=
  ⟨_, _, isD_dat.mpr rfl, isD_dat.mpr rfl, (shaped_tup h).2, (shaped_tup h).2, (shaped_tup h).1, (shaped_tup h).1, by rw [SeqAt.eqv_refl _ (SeqAt.canLay_of_shaped (shaped_tup h).1)]; exact q⟩
theorem isiD {d : PyData} {S : String} {μ : MU} {Q : PQ} (hS : S ∈ ["bool", "int", "str", "list", "tuple", "dict"]) (q : Q (bAV (isiB (tyD d) S)) μ) : bIsi [.dat true d, .ty S] μ Q := ⟨_, _, _, rfl, rfl, fun _ z => (by cases z), hS, q⟩
section
variable {K : PySem.W.Frag} {R : RK} {Wc : WX}
/-- one of two numbers, by a test -/
def wIfC (wt : WT') (i j : Int) : WE' := fun l μ Q X => wt l μ (fun b μ1 => Q (iAV (if b = true then i else j)) μ1) X
theorem d_ifC {tt : TT} {wt : WT'} {i j : Int} (h : DT K R Wc tt wt) : DE K R Wc (tIf tt (tC (.int i)) (tC (.int j))) (wIfC wt i j) := ⟨fun A H μ σ l Qc Q X W L kq kx q =>
  h.run A H μ σ l _ _ X W L (fun A1 H1 μ1 b s1 W1 q1 => by
    cases b with
    | true => rw [if_pos rfl] at q1 ⊢; exact (kq.go s1).i W1 q1
    | false => rw [if_neg Bool.false_ne_true] at q1 ⊢; exact (kq.go s1).i W1 q1) kx q⟩
/-- an expression's value, told once for all its ways -/
def wJoin (we : WE') : WE' := fun l μ Q X => ∃ av, we l μ (fun x μ' => x = av ∧ μ' = μ) X ∧ Q av μ
theorem d_join {te : TE} {we : WE'} (h : DE K R Wc te we) : DE K R Wc te (wJoin we) := ⟨fun A H μ σ l Qc Q X W L kq kx ⟨av, h1, q⟩ =>
  h.run A H μ σ l _ _ X W L (fun A1 H1 μ1 v ax s1 W1 r1 ⟨e1, e2⟩ => by subst e1 e2; exact kq _ _ _ _ _ s1 W1 r1 q) kx h1⟩
/-- a test's answer, told once for all its ways -/
def wJoinT (wt : WT') : WT' := fun l μ Q X => ∃ b, wt l μ (fun c μ' => c = b ∧ μ' = μ) X ∧ Q b μ
theorem d_joinT {tt : TT} {wt : WT'} (h : DT K R Wc tt wt) : DT K R Wc tt (wJoinT wt) := ⟨fun A H μ σ l Qc Q X W L kq kx ⟨b, h1, q⟩ =>
  h.run A H μ σ l _ _ X W L (fun A1 H1 μ1 c s1 W1 ⟨e1, e2⟩ => by subst e1 e2; exact kq _ _ _ _ s1 W1 q) kx h1⟩
/-- what holds behind a statement, told once for all its ways -/
def wJoinS (ws : WS') : WS' := fun D l μ => ∃ J : Loc → MU → Prop, ws { D with nx := J } l μ ∧ ∀ l' μ', J l' μ' → D.nx l' μ'
theorem ds_join {t : TS} {ws : WS'} (h : DS K R Wc t ws) : DS K R Wc t (wJoinS ws) := ⟨fun A H μ σ l Dc D W e r c ⟨J, h1, q⟩ =>
  h.run A H μ σ l Dc { D with nx := J } W e r ⟨fun A1 H1 μ1 σ1 l1 s1 W1 e1 r1 j => c.nx A1 H1 μ1 σ1 l1 s1 W1 e1 r1 (q l1 μ1 j), c.bk, c.ct, c.rt, c.xc⟩ h1⟩
/-! == and != where the kinds are known -/
def aEqI (n : Bool) : AV → AV → MU → PQ → Prop := fun x y μ Q => ∃ i j, isI x i ∧ isI y j ∧ Q (bAV (n ^^ decide (i = j))) μ
def aEqS (n : Bool) : AV → AV → MU → PQ → Prop := fun x y μ Q => ∃ i j, isS x i ∧ isS y j ∧ Q (bAV (n ^^ decide (i = j))) μ
def aEqB (n : Bool) : AV → AV → MU → PQ → Prop := fun x y μ Q => ∃ i j, isB x i ∧ isB y j ∧ Q (bAV (n ^^ decide (i = j))) μ
theorem od_eqI : OpD K R rEq (aEqI false) := fun A H μ x y ax ay Qc Q W rx ry kq h => od_eq A H μ x y ax ay Qc Q W rx ry kq (.inl h)
theorem od_eqS : OpD K R rEq (aEqS false) := fun A H μ x y ax ay Qc Q W rx ry kq h => od_eq A H μ x y ax ay Qc Q W rx ry kq (.inr (.inl h))
theorem od_eqB : OpD K R rEq (aEqB false) := fun A H μ x y ax ay Qc Q W rx ry kq h => od_eq A H μ x y ax ay Qc Q W rx ry kq (.inr (.inr h))
theorem od_neI : OpD K R rNe (aEqI true) := fun A H μ x y ax ay Qc Q W rx ry kq h => od_ne A H μ x y ax ay Qc Q W rx ry kq (.inl h)
theorem od_neS : OpD K R rNe (aEqS true) := fun A H μ x y ax ay Qc Q W rx ry kq h => od_ne A H μ x y ax ay Qc Q W rx ry kq (.inr (.inl h))
theorem od_neB : OpD K R rNe (aEqB true) := fun A H μ x y ax ay Qc Q W rx ry kq h => od_ne A H μ x y ax ay Qc Q W rx ry kq (.inr (.inr h))
end
end Fv

/-! Objects of own classes: made, read, stored to, their methods called; data that may hold them. -/
namespace Fv
open PySem PySem.Spec PyProof.Rows L2
/-! data that may hold objects -/
def obOf : AV → Option PyData | .dat _ x => some x | .ob x => some x | _ => none
def obs : List AV → Option (List PyData)
  | [] => some []
  | x :: r => match obOf x, obs r with
    | some d, some ds => some (d :: ds)
    | _, _ => none
def obFs : List (Str × AV) → Option (List (PyData × PyData))
  | [] => some []
  | x :: r => match obOf x.2, obFs r with
    | some d, some ds => some ((.str x.1, d) :: ds)
    | _, _ => none
theorem obs_nil : obs [] = some [] := rfl
theorem obs_cons {x : AV} {r : List AV} : obs (x :: r) = (match obOf x, obs r with | some d, some ds => some (d :: ds) | _, _ => none) := rfl
theorem obOf_avB (d : PyData) : obOf (avB d) = some d := by cases d <;> rfl
theorem obs_avB : ∀ ds : List PyData, obs (ds.map avB) = some ds
  | [] => rfl
  | d :: r => by
    show (match obOf (avB d), obs (r.map avB) with | some d, some ds => some (d :: ds) | _, _ => none) = _
    rw [obOf_avB, obs_avB r]
theorem obs_dat {k : Bool} : ∀ ds : List PyData, obs (ds.map (AV.dat k)) = some ds
  | [] => rfl
  | d :: r => by
    show (match obOf (AV.dat k d), obs (r.map (AV.dat k)) with | some d, some ds => some (d :: ds) | _, _ => none) = _
    rw [obs_dat r]; rfl
theorem obs_app : ∀ {xs ys : List AV} {ds es : List PyData}, obs xs = some ds → obs ys = some es → obs (xs ++ ys) = some (ds ++ es)
  | [], _, _, _, h, h' => by cases (show some [] = some _ from h); exact h'
  | x :: r, ys, ds, es, h, h' => by
    rw [obs_cons] at h
    cases hx : obOf x with
    | none => rw [hx] at h; cases h
    | some d =>
      cases hr : obs r with
      | none => rw [hx, hr] at h; cases h
      | some fs =>
        rw [hx, hr] at h
        obtain rfl := Option.some.inj h
        rw [List.cons_append, obs_cons, hx, obs_app hr h']; rfl
/-- an instance of the class at C -/
def insD (C : Addr) (ds : List (PyData × PyData)) : PyData := .dict ((.none, .int (C : Int)) :: ds)
def fldD (f : Str) (ds : List (PyData × PyData)) : Option PyData := (ds.find? fun p => match p.1 with | .str n => f == n | _ => false).map (·.2)
/-- a field is stored -/
def putA (f : Str) (y : AV) : List (Str × AV) → List (Str × AV)
  | [] => [(f, y)]
  | (g, x) :: r => if g = f then (g, y) :: r else (g, x) :: putA f y r
theorem putA_new {f : Str} {y : AV} : ∀ {fs : List (Str × AV)}, ((fs.map (·.1)).all fun n => decide (n ≠ f)) = true → putA f y fs = fs ++ [(f, y)]
  | [], _ => rfl
  | (n, x) :: r, h => by
    rw [List.map_cons, List.all_cons, Bool.and_eq_true, decide_eq_true_eq] at h
    show (if n = f then _ else (n, x) :: putA f y r) = _
    rw [if_neg h.1, putA_new h.2]; rfl
section
variable {K : PySem.W.Frag} {R : RK} {Wc : WX} {A H A1 H1 : Hp} {μ μ1 : MU}
theorem RV.dw {v : V} {av : AV} {x : PyData} (r : RV K A v av) (h : obOf av = some x) : Dw K A v x := by
  cases av with
  | dat k y => cases (show some y = some x from h); exact (RV.dq r).dw
  | ob y => cases (show some y = some x from h); exact r
  | _ => cases h
theorem RVs.dw : ∀ {vs : List V} {xs : List AV} {ds : List PyData}, RVs K A vs xs → obs xs = some ds → DwAll K A vs ds
  | _, _, ds, .nil, e => by cases (show some [] = some ds from e); exact .nil
  | _, _, ds, .cons (x := x) (xs := xs) h r, e => by
    rw [obs_cons] at e
    cases hx : obOf x with
    | none => rw [hx] at e; cases e
    | some d =>
      cases hr : obs xs with
      | none => rw [hx, hr] at e; cases e
      | some fs =>
        rw [hx, hr] at e
        obtain rfl := Option.some.inj e
        exact .cons (h.dw hx) (RVs.dw r hr)
theorem RFs.dw : ∀ {vs : List (Str × V)} {xs : List (Str × AV)} {ds : List (PyData × PyData)}, RFs K A vs xs → obFs xs = some ds → DwFs K A vs ds
  | _, _, ds, .nil, e => by cases (show some [] = some ds from e); exact .nil
  | _, _, ds, .cons (n := n) (x := x) (xs := xs) h r, e => by
    have e : (match obOf x, obFs xs with | some d, some ds => some ((PyData.str n, d) :: ds) | _, _ => none) = some ds := e
    cases hx : obOf x with
    | none => rw [hx] at e; cases e
    | some d =>
      cases hr : obFs xs with
      | none => rw [hx, hr] at e; cases e
      | some fs =>
        rw [hx, hr] at e
        obtain rfl := Option.some.inj e
        exact .cons (h.dw hx) (RFs.dw r hr)
theorem RFs.put {f : Str} {y : V} {ay : AV} (ry : RV K A y ay) : ∀ {vs : List (Str × V)} {xs : List (Str × AV)}, RFs K A vs xs → RFs K A (putF f y vs) (putA f ay xs)
  | _, _, .nil => .cons ry .nil
  | _, _, .cons (n := n) (v := v) (vs := vs) (x := x) (xs := xs) h r => by
    show RFs K A (if n = f then (n, y) :: vs else (n, v) :: putF f y vs) (if n = f then (n, ay) :: xs else (n, x) :: putA f ay xs)
    split
    · exact .cons ry r
    · exact .cons h (RFs.put ry r)
theorem RFs.look {f : Str} : ∀ {vs : List (Str × V)} {xs : List (Str × AV)}, RFs K A vs xs → (∀ x, xs.lookup f = some x → ∃ v, vs.lookup f = some v ∧ RV K A v x) ∧ (xs.lookup f = none → vs.lookup f = none)
  | _, _, .nil => ⟨fun x h => (by cases h), fun _ => rfl⟩
  | _, _, .cons (n := n) (v := v) (vs := vs) (x := x) (xs := xs) h r => by
    obtain ⟨i1, i2⟩ := RFs.look (f := f) r
    rw [List.lookup_cons, List.lookup_cons]
    cases e : (f == n) with
    | true => exact ⟨fun z hz => by obtain rfl := Option.some.inj hz; exact ⟨v, rfl, h⟩, fun z => by cases z⟩
    | false => exact ⟨i1, i2⟩
theorem RFs.length : ∀ {vs : List (Str × V)} {xs : List (Str × AV)}, RFs K A vs xs → vs.length = xs.length
  | _, _, .nil => rfl
  | _, _, .cons _ r => congrArg (· + 1) (RFs.length r)
/-! fields read -/
/-- of an object that no longer changes -/
def wFldB (C : Addr) (f : Str) (we : WE') : WE' := fun l μ Q X => we l μ (fun x μ1 => ∃ ds d, x = .ob (insD C ds) ∧ fldD f ds = some d ∧ Q (avB d) μ1) X
/-- of one that may change -/
def wFldR (C : Addr) (f : Str) (we : WE') : WE' := fun l μ Q X => we l μ (fun x μ1 => ∃ a dx fs av, x = .ref a ∧ μ1 a = some (.ins C dx fs) ∧ fs.lookup f = some av ∧ Q av μ1) X
theorem natC {C D : Addr} (h : ((C : Int)) = (D : Int)) : C = D := Int.ofNat.inj h
theorem d_fldB {C : Addr} {f : Str} {te : TE} {we : WE'} (c : Cls K C) (n : NoAttr K C f) (h : DE K R Wc te we) : DE K R Wc (tFld K te f) (wFldB C f we) := ⟨fun A H μ σ l Qc Q X W L kq kx q =>
  h.run A H μ σ l _ _ X W L (fun A1 H1 μ1 x ax s1 W1 r1 ⟨ds, d, ex, hd, q1⟩ => by
    subst ex
    obtain ⟨a, dx, D, fs, rfl, hC, h1, h2⟩ := Dw.inv_ins r1
    obtain rfl := natC hC
    obtain ⟨p, hp, rfl⟩ := Option.map_eq_some_iff.mp hd
    obtain ⟨v, hv, rv⟩ := (DwFs.look h2).1 p hp
    exact ⟨a, C, dx, fs, v, rfl, W1.sub _ _ h1, c, n, hv, (kq.go s1).at W1 (RV.of_dw rv) q1⟩) kx q⟩
theorem d_fldR {C : Addr} {f : Str} {te : TE} {we : WE'} (c : Cls K C) (n : NoAttr K C f) (h : DE K R Wc te we) : DE K R Wc (tFld K te f) (wFldR C f we) := ⟨fun A H μ σ l Qc Q X W L kq kx q =>
  h.run A H μ σ l _ _ X W L (fun A1 H1 μ1 x ax s1 W1 r1 ⟨a, dx, fs, av, ex, hm, hl, q1⟩ => by
    subst ex
    cases (show x = .ref a from r1)
    obtain ⟨n1, ho, h1, vs, rfl, h2⟩ := W1.obs a _ hm
    obtain ⟨v, hv, rv⟩ := (RFs.look h2).1 av hl
    exact ⟨a, C, dx, vs, v, rfl, h1, c, n, hv, (kq.go s1).at W1 rv q1⟩) kx q⟩
/-! a field stored -/
def wSetF (C : Addr) (f : Str) (wv wo : WE') : WS' := fun D l μ => wv l μ (fun y μ1 => wo l μ1 (fun x μ2 => ∃ a dx fs, x = .ref a ∧ μ2 a = some (.ins C dx fs) ∧ fs.length < 1000 ∧ D.nx l (updM μ2 a (.ins C dx (putA f y fs)))) (fun c μ' => D.xc c l μ')) (fun c μ' => D.xc c l μ')
theorem ds_setF {C : Addr} {f : Str} {tv to : TE} {wv wo : WE'} (c : Cls K C) (n : NoAttr K C f) (hv : DE K R Wc tv wv) (ho : DE K R Wc to wo) : DS K R Wc (sFld K to tv f) (wSetF C f wv wo) := ⟨fun A H μ σ l Dc D W e r cn q =>
  hv.run A H μ σ l _ _ _ W r (fun A1 H1 μ1 y ay s1 W1 ry q1 => ho.run A1 H1 μ1 σ l _ _ _ W1 (r.mono s1.grow) (fun A2 H2 μ2 x ax s2 W2 rx ⟨a, dx, fs, ex, hm, hl, q2⟩ => by
    subst ex
    cases (show x = .ref a from rx)
    obtain ⟨n1, hob, h1, vs, rfl, h2⟩ := W2.obs a _ hm
    obtain ⟨W3, s3⟩ := W2.mut hm (ho := .ins C dx (putF f y vs)) (o := .ins C dx (putA f ay fs)) ⟨_, rfl, RFs.put (RV.mono s2.grow ry) h2⟩
    have g := (s1.trans s2).trans s3
    exact ⟨a, C, dx, vs, rfl, h1, c, n, by rw [h2.length]; exact hl, cn.nx _ _ _ _ _ g W3 e (r.mono g.grow) q2⟩) ((cn.go s1).xc.lk e (r.mono s1.grow)) q1) (cn.xc.lk e r) q⟩
/-! an instance made -/
def wMake (C : Addr) (f : FD) (wa : WA') : WE' := fun l μ Q X => wa l μ (fun xs μ1 => ∀ a dx, μ1 a = none → f (.ref a :: xs) (updM μ1 a (.ins C dx [])) (fun av μ2 => av = .dat true .none ∧ Q (.ref a) μ2) noX) X
theorem make_ok {C : Addr} {f : FD} {vs : List V} {xs : List AV} {Qc : VK} {Q : PQ} (W : WW K R A H μ) (rv : RVs K A vs xs) (kq : LQ K R A H μ Qc Q) (q : ∀ a dx, μ a = none → f (.ref a :: xs) (updM μ a (.ins C dx [])) (fun av μ2 => av = .dat true .none ∧ Q (.ref a) μ2) noX) :
    ∀ x dx, H x = none → H dx = none → dx ≠ x → spD K R f (.ref x :: (vs ++ [])) (upd (upd H dx (.own x)) x (.ins C dx [])) (fun v H2 => v = .non ∧ Qc (.ref x) H2) E0 := fun x dx hx hdx ne => by
  have sn := same_new (o := .own x) hdx
  obtain ⟨W1, s1⟩ := W.extS sn
  have hx1 : upd H dx (.own x) x = none := by rw [upd_ne (Ne.symm ne)]; exact hx
  obtain ⟨W2, s2⟩ := W1.own (p := x) (ho := .ins C dx []) (o := .ins C dx []) hx1 ⟨[], rfl, .nil⟩
  have s := s1.trans s2
  rw [List.append_nil]
  refine ⟨A, updM μ x (.ins C dx []), .ref x :: xs, _, noX, W2, .cons rfl rv, q x dx (W.free hx).1, fun A' H' μ' v av s' W' r' ⟨e, q'⟩ => ?_, fun _ _ _ _ _ _ z => z.elim⟩
  subst e
  have ev : v = .non := by have := (RV.dq r'); cases this; rfl
  exact ⟨ev, kq _ _ _ _ (.ref x) (s.trans s') W' rfl q'⟩
theorem d_make {C : Addr} {f : FD} {ta : TA} {wa : WA'} (ha : DA K R Wc ta wa) : DE K R Wc (tMake C (spD K R f) [] E0 ta) (wMake C f wa) := ⟨fun A H μ σ l Qc Q X W L kq kx h =>
  ha.run A H μ σ l _ _ X W L (fun A1 H1 μ1 xs axs s1 W1 r1 q1 => make_ok W1 r1 (kq.go s1) q1) kx h⟩
/-! methods called -/
def noFld (C : Addr) (m : Str) (μ : MU) (x : AV) : Prop := (∃ ds, x = .ob (insD C ds) ∧ fldD m ds = none) ∨ ∃ a dx fs, x = .ref a ∧ μ a = some (.ins C dx fs) ∧ fs.lookup m = none
theorem noFld.at {C : Addr} {m : Str} {v : V} {x : AV} (W : WW K R A H μ) (r : RV K A v x) (h : noFld C m μ x) : ∃ a dx fs, v = .ref a ∧ H a = some (.ins C dx fs) ∧ fs.lookup m = none := by
  rcases h with ⟨ds, rfl, hd⟩ | ⟨a, dx, fs, rfl, hm, hl⟩
  · obtain ⟨a, dx, D, fs, rfl, hC, h1, h2⟩ := Dw.inv_ins r
    obtain rfl := natC hC
    exact ⟨a, dx, fs, rfl, W.sub _ _ h1, (DwFs.look h2).2 (Option.map_eq_none_iff.mp hd)⟩
  · cases (show v = .ref a from r)
    obtain ⟨n1, ho, h1, vs, rfl, h2⟩ := W.obs a _ hm
    exact ⟨a, dx, vs, rfl, h1, (RFs.look h2).2 hl⟩
def wMeth0 (C : Addr) (m : Str) (f : FD) (wo : WE') (wa : WA') : WE' := fun l μ Q X => wo l μ (fun x μ1 => noFld C m μ1 x ∧ wa l μ1 (fun xs μ2 => f (x :: xs) μ2 Q noX) X) X
theorem d_meth0 {C : Addr} {m : Str} {f : FD} {to : TE} {wo : WE'} {ta : TA} {wa : WA'} (ho : DE K R Wc to wo) (ha : DA K R Wc ta wa) : DE K R Wc (tMeth C m (spD K R f) [] E0 to ta) (wMeth0 C m f wo wa) := ⟨fun A H μ σ l Qc Q X W L kq kx h =>
  ho.run A H μ σ l _ _ X W L (fun A1 H1 μ1 x ax s1 W1 r1 ⟨hn, q1⟩ => by
    obtain ⟨a, dx, fs, rfl, h1, hl⟩ := hn.at W1 r1
    refine ⟨a, dx, fs, rfl, h1, hl, ha.run A1 H1 μ1 σ l _ _ X W1 (L.mono s1.grow) (fun A2 H2 μ2 xs axs s2 W2 r2 q2 => ?_) (kx.go s1) q1⟩
    show spD K R f (.ref a :: (xs ++ [])) H2 Qc E0
    rw [List.append_nil]
    exact ⟨A2, μ2, _, Q, noX, W2, .cons (RV.mono s2.grow r1) r2, q2, kq.go (s1.trans s2), fun _ _ _ _ _ _ z => z.elim⟩) kx h⟩
/-! what changes no more -/
/-- an instance that may change never does from here on -/
def wFrzI (C : Addr) (we : WE') : WE' := fun l μ Q X => we l μ (fun x μ1 => ∃ a dx fs ds, x = .ref a ∧ μ1 a = some (.ins C dx fs) ∧ obFs fs = some ds ∧ Q (.ob (insD C ds)) (delM μ1 a)) X
theorem d_frzI {C : Addr} {te : TE} {we : WE'} (h : DE K R Wc te we) : DE K R Wc te (wFrzI C we) := ⟨fun A H μ σ l Qc Q X W L kq kx q =>
  h.run A H μ σ l Qc _ X W L (fun A1 H1 μ1 v av s1 W1 r1 ⟨a, dx, fs, ds, ex, hm, hd, q1⟩ => by
    subst ex
    cases (show v = .ref a from r1)
    obtain ⟨n, ho, h1, vs, rfl, h2⟩ := W1.obs a _ hm
    obtain ⟨W2, s2⟩ := W1.freeze hm h1
    exact kq _ _ _ _ (.ob (insD C ds)) (s1.trans s2) W2 (Dw.ins upd_same (DwFs.mono s2.grow (h2.dw hd))) q1) kx q⟩
/-- a list that may change, of objects that don't, never does from here on -/
def wFrzB (we : WE') : WE' := fun l μ Q X => we l μ (fun x μ1 => ∃ a xs ds, x = .ref a ∧ μ1 a = some (.lst xs) ∧ obs xs = some ds ∧ Q (.ob (.list ds)) (delM μ1 a)) X
theorem d_frzB {te : TE} {we : WE'} (h : DE K R Wc te we) : DE K R Wc te (wFrzB we) := ⟨fun A H μ σ l Qc Q X W L kq kx q =>
  h.run A H μ σ l Qc _ X W L (fun A1 H1 μ1 v av s1 W1 r1 ⟨a, xs, ds, ex, hm, hd, q1⟩ => by
    subst ex
    cases (show v = .ref a from r1)
    obtain ⟨n, ho, h1, vs, rfl, h2⟩ := W1.obs a _ hm
    obtain ⟨W2, s2⟩ := W1.freeze hm h1
    exact kq _ _ _ _ (.ob (.list ds)) (s1.trans s2) W2 (Dw.lst (SqL.of upd_same) (DwAll.mono s2.grow (h2.dw hd))) q1) kx q⟩
/-- lists and tuples of what may be objects -/
def wLstB (wa : WA') : WE' := fun l μ Q X => wa l μ (fun xs μ1 => xs.length ≤ 100000 ∧ ∃ ds, obs xs = some ds ∧ Q (.ob (.list ds)) μ1) X
def wTupB (wa : WA') : WE' := fun l μ Q X => wa l μ (fun xs μ1 => xs.length ≤ 100000 ∧ ∃ ds, obs xs = some ds ∧ Q (.ob (.tuple ds)) μ1) X
theorem d_lstB {ta : TA} {wa : WA'} (ha : DA K R Wc ta wa) : DE K R Wc (tLst ta) (wLstB wa) := ⟨fun A H μ σ l Qc Q X W L kq kx h =>
  ha.run A H μ σ l _ _ X W L (fun A1 H1 μ1 xs axs s1 W1 r1 ⟨hn, ds, hd, q1⟩ => ⟨sz_of (by rw [r1.length]; exact hn), fun p hp => by
    obtain ⟨W2, s2⟩ := W1.alloc (.lst xs) hp
    exact (kq.go s1) _ _ _ _ (.ob (.list ds)) s2 W2 (Dw.lst (SqL.of upd_same) (DwAll.mono s2.grow (r1.dw hd))) q1⟩) kx h⟩
theorem d_tupB {ta : TA} {wa : WA'} (ha : DA K R Wc ta wa) : DE K R Wc (tTup ta) (wTupB wa) := ⟨fun A H μ σ l Qc Q X W L kq kx h =>
  ha.run A H μ σ l _ _ X W L (fun A1 H1 μ1 xs axs s1 W1 r1 ⟨hn, ds, hd, q1⟩ => ⟨sz_of (by rw [r1.length]; exact hn), fun p hp => by
    obtain ⟨W2, s2⟩ := W1.alloc (.tup xs) hp
    exact (kq.go s1) _ _ _ _ (.ob (.tuple ds)) s2 W2 (Dw.tup (SqT.of upd_same) (DwAll.mono s2.grow (r1.dw hd))) q1⟩) kx h⟩
/-! loops over such lists -/
def wForB (wl : WE') (wg : WG') (wb : WS') : WS' := fun D l μ => wl l μ (fun x μ1 => ∃ ds, x = .ob (.list ds) ∧ wTurns (ds.map avB) wg wb D l μ1) (fun c μ1 => D.xc c l μ1)
theorem ds_forB {tl : TE} {wl : WE'} {g : TG} {wg : WG'} {tb : TS} {wb : WS'} (hl : DE K R Wc tl wl) (hg : DG K R g wg) (hb : DS K R Wc tb wb) : DS K R Wc (tFor (iList K tl) g tb) (wForB wl wg wb) := ⟨fun A H μ σ l Dc D W e r c q =>
  hl.run A H μ σ l _ _ _ W r (fun A1 H1 μ1 v av s1 W1 rv ⟨ds, ex, hti⟩ => by
    subst ex
    obtain ⟨Inv, i0, step, fin⟩ := hti
    obtain ⟨a, vs, rfl, h1, h2⟩ := Dw.inv_lst rv
    have h3 : RVs K A1 vs (ds.map avB) := RVs.of_dw h2
    have c1 := c.go s1
    refine ⟨a, rfl, ⟨vs, W1.sub.seq h1⟩, for_list (K := K) (a := a) (xs := vs) (PvOf K R A1 H1 μ1 Inv) ⟨A1, μ1, l, Stp.refl, W1, e, r.mono s1.grow, i0⟩ (fun i σ' H' _ ⟨A', μ', l', s, W', _⟩ => (s.grow.trans W'.sub).seq h1) (fun i x σ' H' hx p => ?_) (fun σ' H' ⟨A', μ', l', s, W', e', r', iv⟩ => ?_)⟩
    · have hi : i < (ds.map avB).length := by rw [← h3.length]; exact (List.getElem?_eq_some_iff.mp hx).1
      obtain ⟨x', hx', rx⟩ := h3.of (List.getElem?_eq_getElem hi)
      obtain rfl := Option.some.inj (hx.symm.trans hx')
      exact turn_ok hg hb c1 h3 step (List.getElem?_eq_getElem hi) rx p
    · rw [h3.length] at iv
      exact c1.nx _ _ _ _ _ s W' e' r' (fin l' μ' iv)) (c.xc.lk e r) q⟩
theorem walkD_revB {a : Addr} {us : List V} {ds : List PyData} (h1 : SqL K A a us) (r1 : DwAll K A us ds) : WalkD K R A H μ (Itv K a us.length) (ds.reverse.map avB) := by
  have l1 := r1.length
  have r2 : RVs K A us (ds.map avB) := RVs.of_dw r1
  have e : (ds.reverse.map avB).length = us.length := by rw [List.length_map, List.length_reverse, l1]
  refine ⟨_, _, by rw [e]; exact walk_rev (xs := us), fun A' H' g s => (g.trans s).seq h1, fun A' Hc μ' i x H' hi s W y => ?_⟩
  obtain ⟨rfl, hx⟩ := y
  rw [e] at hi
  obtain ⟨v', hv', rv⟩ := r2.of (show (ds.map avB)[us.length - 1 - i]? = some (avB ds[us.length - 1 - i]) by rw [List.getElem?_map, List.getElem?_eq_getElem (by omega)]; rfl)
  obtain rfl := Option.some.inj (hx.symm.trans hv')
  refine ⟨A', avB ds[us.length - 1 - i], ?_, W, Stp.refl, RV.mono s.grow rv⟩
  have ei : ds.length - 1 - i = us.length - 1 - i := by omega
  rw [List.getElem?_map, List.getElem?_reverse (by omega), ei, List.getElem?_eq_getElem (by omega)]
  rfl
def wForRevB (wa : WA') (wg : WG') (wb : WS') : WS' := fun D l μ => wa l μ (fun xs μ1 => ∃ ds, xs = [.ob (.list ds)] ∧ wTurns (ds.reverse.map avB) wg wb D l μ1) (fun c μ1 => D.xc c l μ1)
theorem ds_forReversedB {ta : TA} {wa : WA'} {g : TG} {wg : WG'} {tb : TS} {wb : WS'} (ha : DA K R Wc ta wa) (hg : DG K R g wg) (hb : DS K R Wc tb wb) : DS K R Wc (tFor (iRev K ta) g tb) (wForRevB wa wg wb) := ⟨fun A H μ σ l Dc D W e r c q =>
  ha.run A H μ σ l _ _ _ W r (fun A1 H1 μ1 vs avs s1 W1 rv ⟨ds, ex, h⟩ => by
    subst ex
    obtain ⟨v, rfl, r1⟩ := rv.one
    obtain ⟨a, us, rfl, h1, h2⟩ := Dw.inv_lst r1
    exact ⟨a, us, rfl, W1.sub.seq h1, forW_ok (walkD_revB h1 h2) hg hb W1 e (r.mono s1.grow) (c.go s1) h⟩) (c.xc.lk e r) q⟩
/-! list(zip(a, b)) of what may be objects -/
theorem layP_dw {Qc : VK} {Q : PQ} : ∀ {us vs acc : List V} {ds es ac : List PyData} {A H : Hp} {μ : MU}, WW K R A H μ → LQ K R A H μ Qc Q → DwAll K A us ds → DwAll K A vs es → DwAll K A acc ac →
    Q (.ob (.list (ac ++ zipD ds es))) μ → layP (us.zip vs) acc H Qc
  | [], _, acc, [], es, ac, A, H, μ, W, kq, _, _, r, q => fun S hS => by
    obtain ⟨W1, s1⟩ := W.alloc (.lst acc) hS
    have q : Q (.ob (.list (ac ++ []))) μ := q
    rw [List.append_nil] at q
    exact kq _ _ _ _ (.ob (.list ac)) s1 W1 (Dw.lst (SqL.of upd_same) (DwAll.mono s1.grow r)) q
  | _ :: _, [], acc, d :: ds, [], ac, A, H, μ, W, kq, _, _, r, q => fun S hS => by
    obtain ⟨W1, s1⟩ := W.alloc (.lst acc) hS
    have q : Q (.ob (.list (ac ++ []))) μ := q
    rw [List.append_nil] at q
    exact kq _ _ _ _ (.ob (.list ac)) s1 W1 (Dw.lst (SqL.of upd_same) (DwAll.mono s1.grow r)) q
  | u :: us, v :: vs, acc, d :: ds, e :: es, ac, A, H, μ, W, kq, r1, r2, r, q => fun T hT => by
    obtain ⟨W1, s1⟩ := W.alloc (.tup [u, v]) hT
    cases r1 with
    | cons a1 b1 =>
      cases r2 with
      | cons a2 b2 =>
        refine layP_dw (ac := ac ++ [.tuple [d, e]]) W1 (kq.go s1) (DwAll.mono s1.grow b1) (DwAll.mono s1.grow b2) (DwAll.app (DwAll.mono s1.grow r) (.cons (Dw.tup (SqT.of upd_same) (.cons (Dw.mono s1.grow a1) (.cons (Dw.mono s1.grow a2) .nil))) .nil)) ?_
        rw [List.append_assoc]; exact q
/-- a list of what may be objects -/
def itB (μ : MU) (x : AV) (ds : List PyData) : Prop := (x = .ob (.list ds)) ∨ (∃ k, x = .dat k (.list ds)) ∨ ∃ a xs, x = .ref a ∧ μ a = some (.lst xs) ∧ obs xs = some ds
theorem itB.at {v : V} {x : AV} {ds : List PyData} (W : WW K R A H μ) (r : RV K A v x) (h : itB μ x ds) : ∃ a vs, v = .ref a ∧ SqL K H a vs ∧ DwAll K A vs ds := by
  rcases h with rfl | ⟨k, rfl⟩ | ⟨a, xs, rfl, hm, hd⟩
  · obtain ⟨a, vs, rfl, h1, h2⟩ := Dw.inv_lst r
    exact ⟨a, vs, rfl, W.sub.seq h1, h2⟩
  · obtain ⟨a, vs, rfl, h1, h2⟩ := Dq.inv_lst (RV.dq r)
    exact ⟨a, vs, rfl, W.sub.seq h1, DqAll.dw h2⟩
  · cases (show v = .ref a from r)
    obtain ⟨n1, ho, h1, vs, rfl, h2⟩ := W.obs a _ hm
    exact ⟨a, vs, rfl, SqL.of h1, h2.dw hd⟩
def wListZipB (wa : WA') : WE' := fun l μ Q X => wa l μ (fun xs μ1 => ∃ x y ds es, xs = [x, y] ∧ itB μ1 x ds ∧ itB μ1 y es ∧ Q (.ob (.list (zipD ds es))) μ1) X
theorem d_listZipB {ta : TA} {wa : WA'} (ha : DA K R Wc ta wa) : DE K R Wc (tListZip K ta) (wListZipB wa) := ⟨fun A H μ σ l Qc Q X W L kq kx q =>
  ha.run A H μ σ l _ _ X W L (fun A1 H1 μ1 us avs s1 W1 rv ⟨x, y, ds, es, ex, hx, hy, h⟩ => by
    subst ex
    obtain ⟨v, u, rfl, r1, r2⟩ := rv.two
    obtain ⟨a, us, rfl, h1, h2⟩ := hx.at W1 r1
    obtain ⟨b, vs, rfl, h3, h4⟩ := hy.at W1 r2
    exact ⟨a, b, us, vs, rfl, h1, h3, layP_dw (ac := []) W1 (kq.go s1) h2 h4 .nil h⟩) kx q⟩
end
/-! a method that keeps its promise -/
section
variable {P : Program} {w : World} {K : PySem.W.Frag} {R : RK} {mg : Str → Option Value} {base : Heap}
/-- where a method of a class stands -/
def MethAt (K : PySem.W.Frag) (C : Addr) (m q : Str) (st : Stmt) (ps : List Str) : Prop := ∃ (f : Addr) (fd : FuncData), Meth K C m f ∧ Fun K m q st f fd ∧ Binds K fd ps []
def GoodM (P : Program) (w : World) (K : PySem.W.Frag) (mg : Str → Option Value) (base : Heap) (k : Nat) (C : Addr) (m : Str) (ps : List Str) (sp : Sp) : Prop :=
  ∃ (f : Addr) (fd : FuncData), Meth K C m f ∧ Binds K fd ps [] ∧ FnOk P w K mg base CX0 k f fd ps sp
/-- what the top has of a class of one's own -/
structure ClsI (K : PySem.W.Frag) (mg : Str → Option Value) (nm : Str) (C : Addr) : Prop where
  c : Cls K C
  g : mg nm = some (.ref C)
def InitAt (K : PySem.W.Frag) (C : Addr) (q : Str) (st : Stmt) (ps : List Str) : Prop := ∃ (f : Addr) (fd : FuncData), Mk K C f ∧ Fun K "__init__" q st f fd ∧ Binds K fd ps []
/-- a class whose __init__ keeps its promise -/
def GoodI (P : Program) (w : World) (K : PySem.W.Frag) (mg : Str → Option Value) (base : Heap) (k : Nat) (C : Addr) (ps : List Str) (sp : Sp) : Prop :=
  ∃ (f : Addr) (fd : FuncData), Mk K C f ∧ Binds K fd ps [] ∧ FnOk P w K mg base CX0 k f fd ps sp
theorem GoodM.imp {k : Nat} {C : Addr} {m : Str} {ps : List Str} {sp sp' : Sp} (h : GoodM P w K mg base k C m ps sp) (hs : ∀ vs H Q E, sp' vs H Q E → sp vs H Q E) : GoodM P w K mg base k C m ps sp' := by
  obtain ⟨f, fd, a, b, d⟩ := h
  exact ⟨f, fd, a, b, d.imp hs⟩
theorem GoodMD.of {m q : Str} {st : Stmt} {N ps : List Str} {k : Nat} {C : Addr} {f : FD} (D : MethAt K C m q st ps) (S : FnScope N ps (defScope st)) (len : ∀ avs μ P X, f avs μ P X → avs.length = ps.length)
    (hbody : ∀ (fa : Addr) (cdv : Value) (A : Around) (outer : List Env) (s : Shared) (H : Hp) (E : XK), Room k (A.deeper (envOfC q (defScope st) s.heap.objs.size fa cdv)) →
      ∃ t, PSs (cxOf CX0 P w K mg base N q (defScope st) fa cdv A outer s H E).nox (defBody st) t ∧ ∃ ws, DS K R (fun c d _ H => E c d H) t ws ∧ ∀ avs μ P X, f avs μ P X → ws (entry P X) (startA N.length avs) μ) :
    GoodM P w K mg base (k + 1) C m ps (spD K R f) := by
  obtain ⟨fa, fd, hm, F, hb⟩ := D
  refine ⟨fa, fd, hm, hb, F.ok S (fun vs H Q E ⟨A, μ, avs, Qa, X, W, rv, hf, _⟩ => by rw [rv.length]; exact len _ _ _ _ hf) fun cdv A outer s H vs Q E hr h => ?_⟩
  obtain ⟨t, ht, ws, hd, hw⟩ := hbody fa cdv A outer s H E hr
  exact ⟨t, ht, body_of hd hw h⟩
theorem GoodID.of {q : Str} {st : Stmt} {N ps : List Str} {k : Nat} {C : Addr} {f : FD} (D : InitAt K C q st ps) (S : FnScope N ps (defScope st)) (len : ∀ avs μ P X, f avs μ P X → avs.length = ps.length)
    (hbody : ∀ (fa : Addr) (cdv : Value) (A : Around) (outer : List Env) (s : Shared) (H : Hp) (E : XK), Room k (A.deeper (envOfC q (defScope st) s.heap.objs.size fa cdv)) →
      ∃ t, PSs (cxOf CX0 P w K mg base N q (defScope st) fa cdv A outer s H E).nox (defBody st) t ∧ ∃ ws, DS K R (fun c d _ H => E c d H) t ws ∧ ∀ avs μ P X, f avs μ P X → ws (entry P X) (startA N.length avs) μ) :
    GoodI P w K mg base (k + 1) C ps (spD K R f) := by
  obtain ⟨fa, fd, hm, F, hb⟩ := D
  refine ⟨fa, fd, hm, hb, F.ok S (fun vs H Q E ⟨A, μ, avs, Qa, X, W, rv, hf, _⟩ => by rw [rv.length]; exact len _ _ _ _ hf) fun cdv A outer s H vs Q E hr h => ?_⟩
  obtain ⟨t, ht, ws, hd, hw⟩ := hbody fa cdv A outer s H E hr
  exact ⟨t, ht, body_of hd hw h⟩
end
theorem dropQ.del {P : PQ} {av : AV} {μ : MU} {a : Addr} {o : OB} (n : μ a = none) (h : P av μ) : dropQ P av (delM (updM μ a o) a) := by rw [delM_updM n]; exact dropQ.here h
def fd6 (f : AV → AV → AV → AV → AV → AV → MU → PQ → PXq → Prop) : FD := fun avs μ P X => ∃ a b c d e g, avs = [a, b, c, d, e, g] ∧ f a b c d e g μ P X
/-! plain readings -/
theorem insD_inj {C : Addr} {a b : List (PyData × PyData)} : insD C a = insD C b ↔ a = b := ⟨fun h => by injection h with h; injection h, fun h => by rw [h]⟩
theorem isL_ob {μ : MU} {ds : List PyData} {xs : List AV} : isL μ (.ob (.list ds)) xs ↔ ds.map avB = xs := Iff.rfl
theorem isT_ob {ds : List PyData} {xs : List AV} : isT (.ob (.tuple ds)) xs ↔ ds.map avB = xs := Iff.rfl
theorem avB_int {i : Int} : avB (.int i) = iAV i := rfl
theorem avB_bool {b : Bool} : avB (.bool b) = bAV b := rfl
theorem avB_str {x : Str} : avB (.str x) = .dat true (.str x) := rfl
theorem avB_none : avB .none = .dat true .none := rfl
theorem avB_list {ds : List PyData} : avB (.list ds) = .ob (.list ds) := rfl
theorem avB_tuple {ds : List PyData} : avB (.tuple ds) = .ob (.tuple ds) := rfl
theorem avB_ins {C : Addr} {ds : List (PyData × PyData)} : avB (insD C ds) = .ob (insD C ds) := rfl
end Fv

/-! enumerate over a tuple -/
namespace Fv
open PySem PySem.Spec PyProof.Rows L2
def enO (it : Addr) : Obj := { cls := .type "enumerate", data := .fields #[.none, .bool false, .ref it, rawInt 0, .none, .none] }
def tiO (l : Addr) : Obj := { cls := .type "tuple_iterator", data := .fields #[.ref l, .int 0 0] }
theorem new_enumT (l : Addr) (items : Array Value) (n : Nat) (dct : Option Addr) (sl : Array (Option Value)) :
    Meets (Builtin.«enumerate.__new__» ⟨[.type "enumerate", .ref l], []⟩) (fun _ R s =>
      s.heap.get? l = some { cls := .type "tuple", dict := dct, data := .seq items n, slots := sl } ∧ R (.ok (.ret (.ref (s.heap.push (tiO l)).objs.size))) { s with heap := (s.heap.push (tiO l)).push (enO s.heap.objs.size) }) :=
  .of_wp fun prog w A R s h => by
    obtain ⟨hp, g, d, tk, os⟩ := s
    obtain ⟨hl, h⟩ := h
    have sb := sub_enumerate
    have ht : Heap.IsTuple (Shared.heap ⟨hp, g, d, tk, os⟩) l items := ⟨_, hl, rfl, n, rfl⟩
    wp_walk using AutoSeq1.wpAny_loadPart' hl
    refine wpAny_stack_any fun st => wpAny_pure ?_
    split
    · rename_i c _ _ _ _ _
      cases (c == Value.type "enumerate") <;> (wp_walk using AutoSeq1.wpAny_loadPart' hl, wpAny_pyIter_tuple ht; exact ⟨_, rfl, h⟩)
    · (wp_walk using AutoSeq1.wpAny_loadPart' hl, wpAny_pyIter_tuple ht); exact ⟨_, rfl, h⟩
theorem call_enumT {prog : Program} {w : World} {A : Around} {E : Value → Shared → Prop} {s : Shared} {l : Addr} {items : Array Value} {Q : Value → Shared → Prop} (ht : s.heap.IsTuple l items)
    (h : ∀ h', IsEnum h' (s.heap.objs.size + 1) s.heap.objs.size 0 .none → h'.IsTupleIter s.heap.objs.size l 0 → h'.objs.size = s.heap.objs.size + 2 →
      (∀ b o, s.heap.get? b = some o → h'.get? b = some o) → Q (.ref (s.heap.objs.size + 1)) { s with heap := h' }) : wpAny (model prog w) A (call (.type "enumerate") [.ref l]) Q E s := by
  obtain ⟨⟨c, dct, dt, sl⟩, hl, hc, n, hd⟩ := ht
  replace hc : c = .type "tuple" := hc
  replace hd : dt = .seq items n := hd
  subst hc hd
  refine callType_new F.called_enumerate (by decide) (F.typeCall_enumerate_1 _) (F.newCall_enumerate_1 _) (fun obj => F.args_object_init_2 obj _) F.entry_enumerate_new (new_enumT l items n dct sl) ⟨hl, ?_⟩
  have hz : (s.heap.push (tiO l)).objs.size = s.heap.objs.size + 1 := Heap.size_push ..
  show _ ∧ _
  rw [hz]
  have he : ((s.heap.push (tiO l)).push (enO s.heap.objs.size)).get? (s.heap.objs.size + 1) = some (enO s.heap.objs.size) := by
    have z := Heap.get?_push_size (s.heap.push (tiO l)) (o := enO s.heap.objs.size) rfl
    rw [hz] at z; exact z
  exact ⟨⟨_, he, rfl⟩, h _ he ⟨_, Heap.get?_push_of_some _ (Heap.get?_push_size _ rfl), rfl, rfl⟩ (by rw [Heap.size_push, hz]) fun b o x => Heap.get?_push_of_some _ (Heap.get?_push_of_some _ x)⟩
def IteT (K : PySem.W.Frag) (a : Addr) : It :=
  ⟨fun i H => ∃ (xs : List V) (x : V), SqT K H a xs ∧ xs[i]? = some x, fun i H v H' => ∃ T x, v = .ref T ∧ H T = none ∧ H' = upd H T (.tup [.int (i : Nat), x]) ∧ ∀ xs, SqT K H a xs → xs[i]? = some x, fun i H => ∃ xs : List V, SqT K H a xs ∧ xs.length = i⟩
theorem turn_enT {P : Program} {w : World} {K : PySem.W.Frag} {elts : List Expr} {kk : Nat} {tpos : Pos} (a e it : Addr) (hai : a ≠ it) (hae : a ≠ e) :
    Turn P w K (.Tuple elts kk tpos) (IteT K a) [e, it] e (fun i h => (∃ old, IsEnum h e it ((i : Nat) : Int) old) ∧ h.IsTupleIter it a i ∧ e ≠ it) where
  mem := by simp
  obj := fun i h st b hb => by
    obtain ⟨⟨old, he⟩, ⟨o, ho, hc, hd⟩, _⟩ := st
    rcases (by simpa using hb : b = e ∨ b = it) with z | z
    · rw [z]; exact ⟨_, he, fun v q => nomatch q⟩
    · rw [z]; exact ⟨o, ho, fun v q => by rw [hd] at q; cases q⟩
  keep := fun i h h' st k => let ⟨⟨old, he⟩, hi, hne⟩ := st; ⟨⟨old, k e (by simp) _ he⟩, hi.at fun o q => k it (by simp) o q, hne⟩
  item := by
    intro X hP hw hK hc i pins s σ H E I hf st hg
    subst hP hw hK
    obtain ⟨⟨old, he⟩, hit, hne⟩ := st
    obtain ⟨xs, x, hq, hx⟩ := hg
    obtain ⟨its, rv, p, _⟩ := I.tuple hq
    obtain ⟨u, hu, ru⟩ := rv.get hx
    have hel : e < s.heap.objs.size := Heap.lt_size he
    have hil : it < s.heap.objs.size := by obtain ⟨_, q, _⟩ := hit; exact Heap.lt_size q
    have hilt : i < its.toArray.size := by
      have := (List.getElem?_eq_some_iff.mp hu).1
      simpa using this
    refine wpAny_pyNext_enum_itemD (Draws.tuple (prog := X.prog) (w := X.w) (A := X.A.in1) (I.ok.hd hc) it a hai its.toArray) he ⟨hit, p⟩ hilt hne (by simp only [List.mem_cons, List.not_mem_nil, or_false, not_or]; exact ⟨hne, fun z => hae z.symm⟩) fun y h' tk hP ho hit' hT hsz hk => ?_
    have ey : y = u := by
      have hP : its.toArray[i]? = some y := hP
      rw [List.getElem?_toArray] at hP
      exact Option.some.inj (hP.symm.trans hu)
    subst ey
    refine ⟨_, rfl, wpAny_letOwnedTupleGo_enum (s := { s with heap := h', toks := tk + 1 }) ho fun h'' he' sb => ?_⟩
    have hT2 : h''.get? s.heap.objs.size = some { cls := .type "tuple", data := .seq #[.int i tk, y] } := (sb.2 _ (Nat.ne_of_gt hel)).trans hT
    have new : ObjOk X.prog X.w (upd H s.heap.objs.size (.tup [.int (i : Nat), x])) h'' s.heap.objs.size (.tup [.int (i : Nat), x]) :=
      ⟨by show 2 ≤ sizeLine; decide, [.int i tk, y], .cons ⟨_, rfl⟩ (.cons ru .nil), ⟨_, hT2, rfl, _, rfl⟩⟩
    have I1 : Inv X pins σ (upd H s.heap.objs.size (.tup [.int (i : Nat), x])) { s with heap := h'', toks := tk + 1 } :=
      I.turnedNew (t' := tk + 1) (ch := [e, it]) (fun b ob hb q => (sb.2 b (fun z => hb (by simp [z]))).trans (hk b ob (fun z => hb (by simp [z])) (fun z => hb (by simp [z])) q)) hf (Nat.le_refl _) new
    refine ⟨.ref s.heap.objs.size, _, I1, rfl, ⟨_, x, rfl, I.hok.fresh (Nat.le_refl _), rfl, fun ys hy => by rw [I.tuple_inj hy hq]; exact hx⟩, ⟨⟨y, ?_⟩, hit'.1.at fun o q => (sb.2 it (Ne.symm hne)).trans q, hne⟩, fun b hb => ?_⟩
    · have e1 : ((i + 1 : Nat) : Int) = (i : Int) + 1 := by omega
      rw [e1]; exact he'
    · have hb' : b < s.heap.objs.size := by
        rcases (by simpa using hb : b = e ∨ b = it) with z | z
        · rw [z]; exact hel
        · rw [z]; exact hil
      rw [upd_ne (Nat.ne_of_lt hb')]
      exact (hf b hb).1
  done := by
    intro X hP hw hK hc i pins s σ H E I hf st hg
    subst hP hw hK
    obtain ⟨⟨old, he⟩, hit, hne⟩ := st
    obtain ⟨xs, hq, hx⟩ := hg
    obtain ⟨its, rv, p, _⟩ := I.tuple hq
    obtain ⟨f0, f1, f2, f3, f4, f5⟩ := hf it (by simp)
    have hl : its.toArray.size = i := by rw [List.size_toArray, ← hx, rv.length]
    subst hl
    exact wpAny_pyNext_enum_endD (Draws.tuple (prog := X.prog) (w := X.w) (A := X.A.in1) (I.ok.hd hc) it a hai its.toArray) he ⟨hit, p⟩ fun h' eb => ⟨rfl, I.turned (t' := s.toks) (fun b o hb q => eb b o hb q) f0 f1 f3 f4 f5⟩
  self := fun A i s Q E st h => let ⟨⟨_, he⟩, _⟩ := st; wpAny_pyIter_enum he h
def iEnT (K : PySem.W.Frag) (ta : TA) : TI := fun σ H R => ta σ H fun vs H1 => ∃ a xs, vs = [.ref a] ∧ SqT K H1 a xs ∧ R (IteT K a) H1
theorem pi_enT {X : Cx} {e : Expr} {ta : TA} {p pos tpos : Pos} {elts : List Expr} {kk : Nat} (hg : Gl X "enumerate") (hm : X.mg "enumerate" = none) (ha : PA X [e] ta) (hs : starEach [e] X.env = [(false, eval e X.env)] := by rfl) :
    PI X (.Tuple elts kk tpos) (.Call (.Name "enumerate" p) [e] [] pos) (iEnT X.K ta) := by
  refine ⟨fun pins s σ H R I h => Call_ (ld_blt I hg hm boot_enumerate (PyProof.Rows.callWith_type1 (thn (ha.run pos pins s σ H _ I h) fun us s1 ⟨vs, H1, I1, r1, q1⟩ => ?_) hs rfl))⟩
  obtain ⟨a, xs, ex, hq, q⟩ := q1
  subst ex
  cases r1 with
  | cons r rr =>
    cases rr
    cases r
    obtain ⟨its, rv, p', _⟩ := I1.tuple hq
    obtain ⟨oa, ha', _⟩ := id p'
    have hal : a < s1.heap.objs.size := Heap.lt_size ha'
    refine call_enumT p' fun h' he hit hsz hk => wpAny_pyIter_enum he ?_
    have I2 : Inv X pins σ H1 { s1 with heap := h' } := I1.kept (t' := s1.toks) hk
    refine ⟨s1.heap.objs.size + 1, [s1.heap.objs.size + 1, s1.heap.objs.size], _, _, H1, rfl, I2, turn_enT a (s1.heap.objs.size + 1) s1.heap.objs.size (Nat.ne_of_lt hal) (Nat.ne_of_lt (Nat.lt_succ_of_lt hal)), ⟨⟨.none, he⟩, hit, Nat.succ_ne_self _⟩, fun b hb => ?_, q⟩
    have hle : s1.heap.objs.size ≤ b := by
      rcases (by simpa using hb : b = s1.heap.objs.size + 1 ∨ b = s1.heap.objs.size) with z | z
      · rw [z]; exact Nat.le_add_right _ _
      · rw [z]; exact Nat.le_refl _
    exact I1.fpOk hle (I1.hok.fresh hle)
theorem walk_enT {K : PySem.W.Frag} {a : Addr} {xs : List V} : Walk (IteT K a) xs.length (fun H => SqT K H a xs) (YPair (fun i => some (.int (i : Nat))) (fun i => xs[i]?)) :=
  ⟨fun i _ hi q => ⟨xs, xs[i], q, by simp [hi]⟩, fun _ q => ⟨xs, q, rfl⟩, fun i H v H' _ q y => let ⟨T, x, h1, h2, h3, h4⟩ := y; ⟨T, .int (i : Nat), x, h1, h2, h3, rfl, h4 xs q⟩⟩
section
variable {K : PySem.W.Frag} {R : RK} {Wc : WX} {A H : Hp} {μ : MU}
theorem walkD_enT {a : Addr} {us : List V} {k : Bool} {ds : List PyData} (h1 : SqT K A a us) (r1 : RVs K A us (ds.map (AV.dat k))) : WalkD K R A H μ (IteT K a) ((enumD ds).map (AV.dat k)) := by
  have l1 := r1.length
  rw [List.length_map] at l1
  have e : ((enumD ds).map (AV.dat k)).length = us.length := by rw [List.length_map, enumD, List.length_mapIdx, l1]
  refine ⟨_, _, by rw [e]; exact walk_enT (xs := us), fun A' H' g s => sqt_same (g.trans s) h1, fun A' Hc μ' i x H' hi s W y => ?_⟩
  obtain ⟨T, u, v, rfl, hT, rfl, hu, hv⟩ := y
  rw [e] at hi
  obtain ⟨v', hv', rv⟩ := r1.of (show (ds.map (AV.dat k))[i]? = some (.dat k ds[i]) by rw [List.getElem?_map, List.getElem?_eq_getElem (by omega)]; rfl)
  obtain rfl := Option.some.inj hu
  obtain rfl := Option.some.inj (hv.symm.trans hv')
  obtain ⟨W1, s1⟩ := W.alloc (.tup [.int (i : Nat), v]) hT
  have rp := pair_rv (K := K) (k := true) (j := k) (d := .int (i : Nat)) (W.free hT).2 (Tr.int _) (RV.mono s.grow rv)
  rw [Bool.true_and] at rp
  refine ⟨_, _, ?_, W1, s1, rp⟩
  rw [List.getElem?_map, enumD, List.getElem?_mapIdx, List.getElem?_eq_getElem (by omega)]
  rfl
def wForEnT (wa : WA') (wg : WG') (wb : WS') : WS' := fun D l μ => wa l μ (fun xs μ1 => ∃ k ds, xs = [.dat k (.tuple ds)] ∧ wTurns ((enumD ds).map (AV.dat k)) wg wb D l μ1) (fun c μ1 => D.xc c l μ1)
theorem ds_forEnT {ta : TA} {wa : WA'} {g : TG} {wg : WG'} {tb : TS} {wb : WS'} (ha : DA K R Wc ta wa) (hg : DG K R g wg) (hb : DS K R Wc tb wb) : DS K R Wc (tFor (iEnT K ta) g tb) (wForEnT wa wg wb) := ⟨fun A H μ σ l Dc D W e r c q =>
  ha.run A H μ σ l _ _ _ W r (fun A1 H1 μ1 vs avs s1 W1 rv ⟨k, ds, ex, h⟩ => by
    subst ex
    obtain ⟨v, rfl, r1⟩ := rv.one
    obtain ⟨a, us, rfl, h1, h2⟩ := overT.at r1 overT_tuple
    exact ⟨a, us, rfl, sqt_same W1.sub h1, forW_ok (walkD_enT h1 h2) hg hb W1 e (r.mono s1.grow) (c.go s1) h⟩) (c.xc.lk e r) q⟩
end
/-! downwards, one by one -/
def downA (i : Int) (n : Nat) : List AV := (List.range n).map fun (m : Nat) => iAV (i - m)
section
variable {K : PySem.W.Frag} {R : RK} {Wc : WX} {A H : Hp} {μ : MU}
theorem walkD_down {i : Int} {n : Nat} : WalkD K R A H μ (Itc i (-1) n) (downA i n) := by
  have e : (downA i n).length = n := by rw [downA, List.length_map, List.length_range]
  refine ⟨_, _, by rw [e]; exact walk_rangeC, fun _ _ _ _ => trivial, fun A' Hc μ' m v H' hm s W y => ?_⟩
  obtain ⟨rfl, rfl⟩ := y
  rw [e] at hm
  refine ⟨A', iAV (i - m), ?_, W, Stp.refl, by
    show RV K A' (V.int (i + (m : Int) * -1)) _
    rw [show i + (m : Int) * -1 = i - m by omega]; exact Tr.int _⟩
  rw [downA, List.getElem?_map, List.getElem?_eq_getElem (by rw [List.length_range]; exact hm)]
  simp
theorem RVs.three {vs : List V} {x y z : AV} (r : RVs K A vs [x, y, z]) : ∃ v u t, vs = [v, u, t] ∧ RV K A v x ∧ RV K A u y ∧ RV K A t z := by
  cases r with
  | cons r1 rr =>
    obtain ⟨u, t, rfl, r2, r3⟩ := rr.two
    exact ⟨_, u, t, rfl, r1, r2, r3⟩
def wForR3 (wa : WA') (wg : WG') (wb : WS') : WS' := fun D l μ => wa l μ (fun xs μ1 => ∃ x y z i j, xs = [x, y, z] ∧ isI x i ∧ isI y j ∧ isI z (-1) ∧ -(2 ^ 62) ≤ i ∧ i < 2 ^ 62 ∧ -(2 ^ 62) ≤ j ∧ j < 2 ^ 62 ∧ wTurns (downA i (i - j).toNat) wg wb D l μ1) (fun c μ1 => D.xc c l μ1)
theorem ds_forR3 {ta : TA} {wa : WA'} {g : TG} {wg : WG'} {tb : TS} {wb : WS'} (ha : DA K R Wc ta wa) (hg : DG K R g wg) (hb : DS K R Wc tb wb) : DS K R Wc (tFor (iRng3 ta) g tb) (wForR3 wa wg wb) := ⟨fun A H μ σ l Dc D W e r c q =>
  ha.run A H μ σ l _ _ _ W r (fun A1 H1 μ1 vs avs s1 W1 rv ⟨x, y, z, i, j, ex, hi, hj, hz, b1, b2, b3, b4, h⟩ => by
    subst ex
    obtain ⟨v, u, t, rfl, r1, r2, r3⟩ := rv.three
    exact ⟨i, j, -1, (i - j).toNat, by rw [r1.i hi, r2.i hj, r3.i hz], RgC.neg b1 b2 b3 b4, forW_ok walkD_down hg hb W1 e (r.mono s1.grow) (c.go s1) h⟩) (c.xc.lk e r) q⟩
end
/-- a flat thing, known as one that stands by itself -/
def wToF (we : WE') : WE' := fun l μ Q X => we l μ (fun x μ1 => ∃ k d, x = .dat k d ∧ flatD d = true ∧ Q (.dat true d) μ1) X
theorem vOf_tr {H : Hp} {d : PyData} (f : flatD d = true) : Tr H (vOf d) d := by
  cases d with
  | none => exact .non
  | bool b => exact .bl b
  | int i => exact .int i
  | str x => exact .str x
  | _ => cases f
theorem d_toF {K : PySem.W.Frag} {R : RK} {Wc : WX} {te : TE} {we : WE'} (h : DE K R Wc te we) : DE K R Wc te (wToF we) := ⟨fun A H μ σ l Qc Q X W L kq kx q =>
  h.run A H μ σ l Qc _ X W L (fun A1 H1 μ1 v av s1 W1 r1 ⟨k, d, e, hf, q1⟩ => by
    subst e
    refine (kq.go s1).at W1 (av := .dat true d) ?_ q1
    cases k with
    | true => exact r1
    | false =>
      have r1 : Dq K A1 v d := r1
      rw [(r1.flat hf).1]
      exact vOf_tr hf) kx q⟩
/-- the turns over few items, one after another -/
def uTurns (wg : WG') (wb : WS') (D : DEnds) : List AV → Loc → MU → Prop
  | [] => D.nx
  | x :: r => fun l μ => wg x l μ fun l2 μ2 => wb (D.turn (uTurns wg wb D r)) l2 μ2
theorem turns_of {xs : List AV} {wg : WG'} {wb : WS'} {D : DEnds} {l : Loc} {μ : MU} (h : uTurns wg wb D xs l μ) : wTurns xs wg wb D l μ :=
  ⟨fun i => uTurns wg wb D (xs.drop i), h, fun i x l' μ' hx iv => by
    obtain ⟨h1, h2⟩ := List.getElem?_eq_some_iff.mp hx
    have iv : uTurns wg wb D (xs.drop i) l' μ' := iv
    rw [List.drop_eq_getElem_cons h1, h2] at iv
    exact iv, fun l' μ' iv => by
    have iv : uTurns wg wb D (xs.drop xs.length) l' μ' := iv
    rw [List.drop_length] at iv; exact iv⟩
end Fv

/-! A lambda of one parameter, handed to a def that calls it. -/
namespace Fv
open PySem PySem.Spec PyProof.Rows L2
section
variable {X : Cx} {pins : List (Addr × Obj)} {σ : L2.St} {H : Hp} {s : Shared}
/-- the lambda's object is made: its code object is a new one, or stands in the table -/
theorem lam_mk {c P : Addr} {q : Str} {ps : Array Value} {params : Arguments} {body : Expr} {scope : Scope} {pos : Pos} {Q : Value → Shared → Prop} {E : Value → Shared → Prop} (I : Inv X pins σ H s) (TB : LamX.TabB X.base X.mg c P) (hcode : X.env.code = .ref c)
    (hq : X.env.qual ++ "<lambda>" = q) (hP : H P = some (.tbl ps)) (ht : TriplesOk ps.toList) (ha : ∀ (pos : Pos) (cv : Value), codeAmong pos ps.toList = some cv → ∃ c, cv = .ref c ∧ H c = some (LamX.CodeO c q))
    (hdef : defaultsOf params X.env = ([], [])) (hfree : ∀ y ∈ scope.names, y.2 = .free → ∃ c, X.env.cells.lookup y.1 = some c)
    (h : ∀ (f c' : Addr) (pm ctv : Value) (H1 : Hp) (ps1 : Array Value) (s' : Shared), Inv X pins σ H1 s' → (H1 = H ∧ ps1 = ps ∧ (∃ pos, codeAmong pos ps.toList = some (.ref c')) ∨ H c' = none ∧ P ≠ c' ∧ H1 = upd (upd H P (.tbl ps1)) c' (LamX.CodeO c' q) ∧ TriplesOk ps1.toList ∧ ∀ (pos : Pos) (cv : Value), codeAmong pos ps1.toList = some cv → codeAmong pos ps.toList = some cv ∨ cv = .ref c') →
      s'.heap.get? f = some (PySem.W.kla_obj "<lambda>" q params body scope (cloFrom X.env.cells scope.names []) pm c' ctv) → H1 f = none → f ∉ frs X.stack → H1 c' = some (LamX.CodeO c' q) → Q (.ref f) s') :
    wpAny (model X.prog X.w) X.A (eval (.Lambda params body scope pos) X.env) Q E s := by
  subst hq
  refine PySem.W.kla_eval hdef ?_
  have bP := TB.bm.keeps I.bk
  have hP' : s.heap.get? P = some { cls := .none, data := .fields ps } := I.hok P _ hP
  have out : ∀ f, s.heap.objs.size ≤ f → f ∉ frs X.stack := fun f hf z => by
    rcases List.mem_cons.mp (I.stkSub _ z) with e | e
    · have h1 := I.lt
      rw [← e] at h1; exact absurd (Nat.lt_of_lt_of_le h1 hf) (Nat.lt_irrefl _)
    · exact I.nofs hf e
  cases hc : codeAmong pos ps.toList with
  | some cv =>
    obtain ⟨c', e, hco⟩ := ha pos cv hc
    subst e
    refine PySem.W.kla_makeFunctionHit (mg := X.mg) (c := c) (P := P) (ps := ps) (closure_ok hfree) I.ok.glob (I.mod.glob.keeps I.bk) hcode (TB.code.keeps I.bk) hP' ht hc bP fun ctv h' tk hx hsz => ?_
    exact h h'.objs.size c' ((X.mg "__name__").getD .none) ctv H ps _ (I.kept (t' := tk) fun b o e => Heap.get?_push_of_some _ (hx b o e)) (.inl ⟨rfl, rfl, pos, hc⟩) (Heap.get?_push_size _ rfl) (I.hok.fresh hsz) (out _ hsz) hco
  | none =>
    refine PySem.W.kla_makeFunction (mg := X.mg) (c := c) (P := P) (ps := ps) (closure_ok hfree) I.ok.glob (I.mod.glob.keeps I.bk) hcode (TB.code.keeps I.bk) hP' ht hc TB.gP bP fun c' ctv h' tk hx hge hlt hrec htb => ?_
    obtain ⟨c2, oc, vs, t, e2, hoc, hd, hv⟩ := hrec
    cases e2
    have hsz : s.heap.objs.size ≤ h'.objs.size := Nat.le_trans hge (Nat.le_of_lt hlt)
    have nC : H c' = none := I.hok.fresh hge
    have nP : P ≠ c' := ne_of_none hP nC
    have I1 := LamX.inv_table (t' := tk) (more := #[rawInt pos.line, rawInt pos.col, .ref c']) (h' := h'.push (PySem.W.kla_obj "<lambda>" (X.env.qual ++ "<lambda>") params body scope (cloFrom X.env.cells scope.names []) ((X.mg "__name__").getD .none) c' ctv)) I hP (fun b o hb e => Heap.get?_push_of_some _ (hx b o hb e)) (Heap.get?_push_of_some _ htb) hge ⟨oc, vs, t, Heap.get?_push_of_some _ hoc, hd, hv⟩
    have eL : (ps ++ #[rawInt pos.line, rawInt pos.col, .ref c']).toList = ps.toList ++ [rawInt pos.line, rawInt pos.col, .ref c'] := by simp
    refine h h'.objs.size c' ((X.mg "__name__").getD .none) ctv _ (ps ++ #[rawInt pos.line, rawInt pos.col, .ref c']) _ I1 (.inr ⟨nC, nP, rfl, by rw [eL]; exact PySem.TriplesOk_snoc _ _ _ _ ht, fun p' cv hcv => ?_⟩) (Heap.get?_push_size _ rfl) ?_ (out _ hsz) upd_same
    · rw [eL] at hcv; exact LamX.among_app _ ht hcv
    · have n2 : h'.objs.size ≠ P := Nat.ne_of_gt (Nat.lt_of_lt_of_le (Heap.lt_size hP') hsz)
      rw [upd_ne (Nat.ne_of_gt hlt), upd_ne n2]; exact I.hok.fresh hsz
end
/-! ### the lambda's names: its parameter p, captured ones, globals -/
structure LamP (sc scope : Scope) (N : List Str) (p : Str) : Prop where
  kind : scope.kind = .function
  co : scope.isCoroutine = false
  gen : scope.isGenerator = false
  par : scope.names.lookup p = some .local
  own : ∀ y ∈ scope.names, y.2 ≠ .cell
  one : ∀ y, scope.names.lookup y = some .local → y = p
  new : p ∉ N
  free : ∀ y ∈ scope.names, y.2 = .free → sc.names.lookup y.1 = some .cell ∨ sc.names.lookup y.1 = some .free
def lamPB (sc scope : Scope) (N : List Str) (p : Str) : Bool :=
  decide (scope.kind = .function) && !scope.isCoroutine && !scope.isGenerator && decide (scope.names.lookup p = some .local) && !(N.contains p) && scope.names.all fun y => !decide (y.2 = .cell) && (!decide (y.2 = .local) || decide (y.1 = p)) && (!decide (y.2 = .free) || decide (sc.names.lookup y.1 = some .cell) || decide (sc.names.lookup y.1 = some .free))
theorem lamP_by {sc scope : Scope} {N : List Str} {p : Str} (h : lamPB sc scope N p = true) : LamP sc scope N p := by
  unfold lamPB at h
  simp only [Bool.and_eq_true, Bool.or_eq_true, Bool.not_eq_true', decide_eq_true_eq, decide_eq_false_iff_not, List.all_eq_true] at h
  obtain ⟨⟨⟨⟨⟨h1, h2⟩, h3⟩, h4⟩, h5⟩, h6⟩ := h
  refine ⟨h1, h2, h3, h4, fun y hy => (h6 y hy).1.1, fun y hy => ?_, fun z => ?_, fun y hy e => ?_⟩
  · rcases (h6 (y, .local) (PySem.mem_of_lookup hy)).1.2 with z | z
    · exact absurd rfl z
    · exact z
  · have := List.contains_iff_mem.mpr z
    rw [h5] at this; cases this
  · rcases (h6 y hy).2 with (z | z) | z
    · exact absurd e z
    · exact .inl z
    · exact .inr z
theorem LamP.has {X : Cx} {scope : Scope} {N : List Str} {p : Str} (L : LamP X.env.scope scope N p) (ok : X.Ok) : ∀ y ∈ scope.names, y.2 = .free → ∃ c, X.env.cells.lookup y.1 = some c := fun y hy e => by
  rcases L.free y hy e with k | k
  · exact ok.has _ (.inl k)
  · exact ok.has _ (.inr k)
/-- the context of the lambda's body -/
def lpCx (X : Cx) (A : Around) (outer : List Env) (s : Shared) (H : Hp) (E : XK) (scope : Scope) (f c' : Addr) (p : Str) : Cx := { LamX.lamCx X A outer s H E scope f c' with N := X.N ++ [p] }
section
variable {X : Cx} {pins : List (Addr × Obj)} {σ : L2.St} {H HZ : Hp} {s s1 : Shared}
theorem lp_start {A : Around} {outer : List Env} {E : XK} {scope : Scope} {f c' : Addr} {p : Str} {v : V} {u : Value} {h₁ : Heap} {tk : Nat} (I : Inv X pins σ H s) (L : LamP X.env.scope scope X.N p) (e0 : Env0 X.prog X.w X.K X.mg X.base A outer s1 HZ) (hd : A.handled = none)
    (un : Un (frs X.stack) [] H HZ s.heap s1.heap) (hns : h₁.Ns s1.heap.objs.size fun y => [(p, u)].reverse.lookup y) (rv : L2.RelV v u) (kp : ∀ b o, s1.heap.get? b = some o → h₁.get? b = some o) :
    Inv (lpCx X A outer s1 HZ E scope f c' p) [] (σ ++ [some v]) HZ { s1 with heap := h₁, toks := tk } := by
  have hfree := L.has I.ok
  have cm : ∀ {y c}, (cloFrom X.env.cells scope.names []).lookup y = some c → X.env.cells.lookup y = some c := fun {y c} e => by
    rcases cloFrom_mem (PySem.mem_of_lookup e) with hm | ⟨h1, h2⟩
    · cases hm
    · obtain ⟨c1, hc⟩ := hfree _ h1 rfl
      have hc : X.env.cells.lookup y = some c1 := hc
      have e2 : c = c1 := by rw [h2, hc] <;> rfl
      rw [e2]; exact hc
  have look : ∀ {y}, scope.names.lookup y = some .free → ∃ c, (cloFrom X.env.cells scope.names []).lookup y = some c := fun {y} hl =>
    mem_lookup (cloFrom_has (cells := X.env.cells) (acc := []) (PySem.mem_of_lookup hl))
  have cellK : ∀ {c : Addr} {v : Option Value}, H c = none → s.heap.IsCell c v → h₁.IsCell c v := fun {c v} n ⟨o, ho, hd⟩ => by
    obtain ⟨sl, q⟩ := un.any ho n (by simp)
    exact ⟨_, kp _ _ q, hd⟩
  have noA : ∀ b : Addr, b ∉ (lpCx X A outer s1 HZ E scope f c' p).ex := fun b z => absurd (show b ∈ ([] : List Addr) from z) (by simp)
  refine ⟨⟨e0.mod, L.kind, rfl, rfl, Nat.le_refl _, fun y z c e1 e2 => I.ok.inj y z c (cm e1) (cm e2), fun y hy => ?_, fun y c z _ => ?_, fun _ => hd, Around.frames_deeper e0.frames, .inr ⟨rfl, rfl⟩, fun b z => absurd z (noA b), e0.bs, e0.bsz, fun b _ _ => noA b,
      fun b z => absurd z (noA b), e0.funs, e0.frf⟩,
    rfl, e0.bare, Un.kept kp, ⟨_, hns, fun i y x e1 e2 e3 => ?_⟩, fun y c e => ?_, e0.hok.fresh (Nat.le_refl _), fun y c e => ?_, fun q hq => absurd (show q ∈ ([] : List (Addr × Obj)) ++ [] from hq) (by simp), e0.hok.kept kp, ?_⟩
  · have hy : scope.names.lookup y = some .cell ∨ scope.names.lookup y = some .free := hy
    rcases hy with hy | hy
    · exact absurd rfl (L.own _ (PySem.mem_of_lookup hy))
    · exact look hy
  · have z : false = true := z
    cases z
  · have e1 : (X.N ++ [p])[i]? = some y := e1
    have e3 : Vis scope y := e3
    have hl : σ.length = X.N.length := I.len
    by_cases hi : i < X.N.length
    · rw [List.getElem?_append_left hi] at e1
      rw [List.getElem?_append_left (by omega)] at e2
      have hyN : y ∈ X.N := List.mem_of_getElem? e1
      rcases e3 with k | k | k
      · exact absurd (L.one y k ▸ hyN) L.new
      · exact absurd rfl (L.own _ (PySem.mem_of_lookup k))
      · obtain ⟨m, hn, hl⟩ := I.loc
        have hvis : Vis X.env.scope y := (L.free _ (PySem.mem_of_lookup k) rfl).elim (fun k => .inr (.inl k)) (fun k => .inr (.inr k))
        obtain ⟨w', r, q⟩ := hl i y x e1 e2 hvis
        obtain ⟨c2, h2⟩ := look k
        refine ⟨w', r, .inr ⟨.inr k, c2, h2, ?_⟩⟩
        have c1 := cm h2
        rcases q with ⟨k', _⟩ | ⟨_, c3, e', z⟩
        · have k' : X.env.scope.names.lookup y = some .local := k'
          rcases L.free _ (PySem.mem_of_lookup k) rfl with k2 | k2 <;> rw [show X.env.scope.names.lookup y = _ from k2] at k' <;> cases k'
        · rw [c1] at e'
          cases e'
          exact cellK (I.freeC y _ c1) z
    · have hi2 : i = X.N.length := by
        have := (List.getElem?_eq_some_iff.mp e1).1
        rw [List.length_append] at this
        simp only [List.length_cons, List.length_nil] at this
        omega
      subst hi2
      rw [List.getElem?_append_right (Nat.le_refl _), Nat.sub_self] at e1
      rw [List.getElem?_append_right (by omega), hl, Nat.sub_self] at e2
      obtain rfl := Option.some.inj e1
      obtain rfl := Option.some.inj (Option.some.inj e2)
      exact ⟨u, rv, .inl ⟨L.par, by simp⟩⟩
  · obtain ⟨w', z⟩ := I.cell y c (cm e)
    exact ⟨w', cellK (I.freeC y c (cm e)) z⟩
  · obtain ⟨v, o, ho, hd⟩ := I.cell y c (cm e)
    exact un.free c o ho (I.freeC y c (cm e)) (by simp)
  · show (σ ++ [some v]).length = (X.N ++ [p]).length
    rw [List.length_append, List.length_append, I.len]; rfl
/-- holds(e), in the def that was handed the lambda: Z is that def's context, entered at s -/
theorem pe_holds {Ng : List Str} {qg : Str} {sg : Scope} {g f c' : Addr} {cdg pm ctv : Value} {params : Arguments} {body : Expr} {scope : Scope} {k i : Nat} {a p : Str} {tb : TE} {q : Str} (hq : X.env.qual ++ "<lambda>" = q)
    (I : Inv X pins σ H s) (L : LamP X.env.scope scope X.N p) (hf : s.heap.get? f = some (PySem.W.kla_obj "<lambda>" q params body scope (cloFrom X.env.cells scope.names []) pm c' ctv)) (hfn : H f = none) (hfr : f ∉ frs X.stack)
    (hbind : ∀ u : Value, bindArgs (PySem.W.kla_fn "<lambda>" q params body scope (cloFrom X.env.cells scope.names []) pm (.ref c') ctv) ⟨[u], []⟩ = pure [(p, u)])
    (hr : Room (k + 1) (X.A.deeper (envOfC qg sg s.heap.objs.size g cdg)))
    (hbody : ∀ (A : Around) (outer : List Env) (s : Shared) (H : Hp), Room k (A.deeper (LamX.lamEnv X scope s.heap.objs.size f c')) → PE (lpCx X A outer s H (fun _ _ _ => False) scope f c' p) body tb)
    (hN : Ng[i]? = some a) (hv : Vis sg a) (hd : (a == ("__debug__" : Str)) = false := by decide) (hcd : (a == ("__classdict__" : Str)) = false := by decide) :
    ∀ {e : Expr} {ta : TA} {p1 p2 : Pos}, PA ((cxOf CX0 X.prog X.w X.K X.mg X.base Ng qg sg g cdg X.A X.stack s H E0).nox) [e] ta →
      (∀ Y : Env, starEach [e] Y = (false, eval e Y) :: starEach [] Y) →
      PE ((cxOf CX0 X.prog X.w X.K X.mg X.base Ng qg sg g cdg X.A X.stack s H E0).nox) (.Call (.Name a p1) [e] [] p2)
        (fun σZ HZ Q => σZ[i]? = some (some (.ref f)) ∧ ta σZ HZ fun vs H1 => ∃ v, vs = [v] ∧ H1 c' = some (LamX.CodeO c' q) ∧ tb (σ ++ [some v]) H1 Q) := by
  subst hq
  intro e ta p1 p2 ha hst
  refine ⟨fun pinsZ sZ σZ HZ Q IZ h => ?_⟩
  obtain ⟨hs, hta⟩ := h
  refine wpAny_Call_Name_kw (thn ((pe_var (pos := p1) (i := i) hN hv hd hcd).run pinsZ sZ σZ HZ (fun v H1 => v = .ref f ∧ H1 = HZ) IZ ⟨.ref f, hs, rfl, rfl⟩) fun u s0 ⟨v, H1, I1, r1, q1⟩ => ?_)
  obtain ⟨ev, eH⟩ := q1
  subst ev
  rw [eH] at I1
  obtain rfl : u = Value.ref f := r1
  have at_f : ∀ {σ' : L2.St} {H' : Hp} {s' : Shared}, Inv ((cxOf CX0 X.prog X.w X.K X.mg X.base Ng qg sg g cdg X.A X.stack s H E0).nox) pinsZ σ' H' s' → s'.heap.get? f = some (PySem.W.kla_obj "<lambda>" (X.env.qual ++ "<lambda>") params body scope (cloFrom X.env.cells scope.names []) pm c' ctv) :=
    fun J => J.base.keep f _ hf hfn hfr fun z => nomatch (show f ∈ ([] : List Addr) from z)
  refine PySem.W.callWith_F ⟨_, _, _, _, at_f I1⟩ (thn (ha.run p2 pinsZ s0 σZ HZ _ I1 hta) fun us s1 ⟨vs, H2, I2, r2, v, ev, hc, ht⟩ => ⟨⟨_, _, _, _, at_f I2⟩, ?_⟩) (hst _) rfl
  subst ev
  obtain ⟨u, rfl, ru⟩ := vals1 r2
  have un : Un (frs X.stack) [] H H2 s.heap s1.heap := I2.base
  obtain ⟨⟨oc, ws, t, hoc, hdc, hvc⟩, _, _⟩ := I2.hok c' _ hc
  have run : codeAny (model X.prog X.w) (X.A.deeper (envOfC qg sg s.heap.objs.size g cdg)) (.call (.ref f) ⟨[u], []⟩) (CR (L2.CX X.prog X.w) (envOfC qg sg s.heap.objs.size g cdg :: X.stack) X.prog X.w H2 s1 Q (fun _ _ _ => False)) s1 := by
    refine PySem.W.kla_callFunE hr.depth (at_f I2) rfl L.co L.gen rfl ⟨c', oc, ws, t, rfl, hoc, hdc, hvc⟩ ?_
    rw [hbind]
    refine wpAny_pure (wpAny_newFunctionEnv (fun y hy => L.own y hy) (fun y hy => ?_) (fun h₁ hns hsb => ⟨I2.nolimit.fresh _ hsb, ?_⟩) L.kind)
    · obtain rfl := List.mem_singleton.mp hy
      exact L.par
    show codeAny _ _ (.expr body (LamX.lamEnv X scope s1.heap.objs.size f c')) _ _
    have kp : ∀ b o, s1.heap.get? b = some o → h₁.get? b = some o := fun b o e => hsb.extBut b o (Nat.ne_of_lt (Heap.lt_size e)) (Heap.get?_push_of_some _ e)
    have J : Inv (lpCx X (X.A.deeper (envOfC qg sg s.heap.objs.size g cdg)) (envOfC qg sg s.heap.objs.size g cdg :: X.stack) s1 H2 (fun _ _ _ => False) scope f c' p) [] (σ ++ [some v]) H2 { s1 with heap := h₁, toks := s1.toks + [(p, u)].length } :=
      lp_start I L I2.env0 hr.hd un hns ru kp
    refine PySem.W.kla_codeExpr (wpAny_mono ((hbody _ _ s1 H2 (hr.deeper _)).run [] _ _ H2 Q J ht) (fun v s' hq => ?_) fun e s' hq => hq)
    obtain ⟨w', H', J', rv, q⟩ := hq
    exact ⟨w', H', J'.os, J'.bare, J'.base, J'.hok, rv, q⟩
  refine wpAny_call (codeAny_mono run fun r s' hq => ?_)
  cases r with
  | error e => exact passes_call (W := fun _ _ _ _ => False) LamX.takes0 (fun _ _ _ _ z => z) pinsZ _ _ s1 e s' I2 hq
  | ok fl =>
    cases fl with
    | ret u => exact I2.after hq
    | next => exact False.elim hq
    | brk => exact False.elim hq
    | cont => exact False.elim hq
end
/-- what a def of two parameters makes of what it was handed: v, and what calls of a give -/
def Takes2 (X : Cx) (Ng : List Str) (x : Str) (sg : Scope) (g : Addr) (cdg : Value) (bg : List Stmt) (a q : Str) (TT : Addr → V → (V → Hp → VK → Prop) → Hp → VK → Prop) : Prop :=
  ∀ (f c' : Addr) (s : Shared) (H : Hp) (Q : VK) (v : V) (act : V → Hp → VK → Prop),
    (∀ {e : Expr} {ta : TA} {p1 p2 : Pos}, PA ((cxOf CX0 X.prog X.w X.K X.mg X.base Ng x sg g cdg X.A X.stack s H E0).nox) [e] ta → (∀ Y : Env, starEach [e] Y = (false, eval e Y) :: starEach [] Y) →
      PE ((cxOf CX0 X.prog X.w X.K X.mg X.base Ng x sg g cdg X.A X.stack s H E0).nox) (.Call (.Name a p1) [e] [] p2) (fun σZ HZ Q => σZ[1]? = some (some (.ref f)) ∧ ta σZ HZ fun vs H1 => ∃ v, vs = [v] ∧ H1 c' = some (LamX.CodeO c' q) ∧ act v H1 Q)) →
    H c' = some (LamX.CodeO c' q) → TT c' v act H Q →
    ∃ t, PSs ((cxOf CX0 X.prog X.w X.K X.mg X.base Ng x sg g cdg X.A X.stack s H E0).nox) bg t ∧ t { nx := fun _ H' => Q .non H', rt := Q } (L2.start Ng [v, .ref f]) H
def tHand (P : Addr) (q : Str) (TT : Addr → V → (V → Hp → VK → Prop) → Hp → VK → Prop) (t1 tb : TE) : TE := fun σ H Q => t1 σ H fun v H1 => ∃ ps, H1 P = some (.tbl ps) ∧ TabP H1 ps q ∧
  ∀ (c' : Addr) (ps2 : Array Value) (H2 : Hp), (H2 = H1 ∧ ps2 = ps ∧ (∃ pos, codeAmong pos ps.toList = some (.ref c')) ∨ H1 c' = none ∧ P ≠ c' ∧ H2 = upd (upd H1 P (.tbl ps2)) c' (LamX.CodeO c' q) ∧ TriplesOk ps2.toList ∧ ∀ (pos : Pos) (cv : Value), codeAmong pos ps2.toList = some cv → codeAmong pos ps.toList = some cv ∨ cv = .ref c') →
    H2 c' = some (LamX.CodeO c' q) → TT c' v (fun u H' Q' => tb (σ ++ [some u]) H' Q') H2 Q
section
variable {X : Cx}
/-- x(e1, lambda p: body) -/
theorem pe_hand {TT : Addr → V → (V → Hp → VK → Prop) → Hp → VK → Prop} {x a b p q : Str} {g c P : Addr} {k : Nat} {pg : Arguments} {bg : List Stmt} {sg : Scope} {dV kV doc pm cdv ct oc : Value} {an od : Option Addr} {osl : Array (Option Value)} {Ng : List Str} {e1 : Expr} {t1 tb : TE}
    {params : Arguments} {body : Expr} {scope : Scope} {pp lpos pos : Pos} (hq : X.env.qual ++ "<lambda>" = q) (hg : Gl X x) (hm : X.mg x = some (.ref g)) (hk : PySem.W.keepIn X.K (.ref g) = true)
    (lk : X.K.lookup g = some ⟨oc, od, .func (PySem.W.fnOf x x pg bg sg dV kV doc pm an cdv ct), osl⟩) (hcg : PySem.W.codeIn X.K cdv x = true) (hb : L2.Binds X.K (PySem.W.fnOf x x pg bg sg dV kV doc pm an cdv ct) [b, a] []) (Sg : FnScope Ng [b, a] sg) (hNg : Ng[1]? = some a) (hva : Vis sg a)
    (hG : Takes2 X Ng x sg g cdv bg a q TT) (TB : LamX.TabB X.base X.mg c P) (hcode : X.env.code = .ref c) (hr : Room (k + 2) X.A) (L : LamP X.env.scope scope X.N p) (hdef : defaultsOf params X.env = ([], []))
    (hbind : ∀ (q : Str) (cl : List (Str × Addr)) (pm cv ctv u : Value), bindArgs (PySem.W.kla_fn "<lambda>" q params body scope cl pm cv ctv) ⟨[u], []⟩ = pure [(p, u)]) (h1 : PE X e1 t1)
    (hbody : ∀ (A : Around) (outer : List Env) (s : Shared) (H : Hp) (f c' : Addr), Room k (A.deeper (LamX.lamEnv X scope s.heap.objs.size f c')) → PE (lpCx X A outer s H (fun _ _ _ => False) scope f c' p) body tb)
    (hst : starEach [e1, .Lambda params body scope lpos] X.env = (false, eval e1 X.env) :: starEach [.Lambda params body scope lpos] X.env := by rfl)
    (hdb : (x == ("__debug__" : Str)) = false := by decide) (hd : (a == ("__debug__" : Str)) = false := by decide) (hcd : (a == ("__classdict__" : Str)) = false := by decide) :
    PE X (.Call (.Name x pp) [e1, .Lambda params body scope lpos] [] pos) (tHand P q TT t1 tb) := by
  subst hq
  refine ⟨fun pins s σ H Q I h => ?_⟩
  refine wpAny_Call_Name_kw (ld_glob I hg hm ?_ hdb)
  refine PySem.W.callWith_K (h₀ := X.base) I.ok.mod.kin hk ?_ hst (by rfl)
  rw [hst]
  show wpAny _ _ (spliced ((false, eval e1 X.env) :: (false, eval (.Lambda params body scope lpos) X.env) :: [])) _ _ s
  refine Calls.spliced_cons (thn (h1.run pins s σ H _ I h) fun u1 s1 ⟨v, H1, I1, r1, ps, hP, ⟨ht, ha⟩, h2⟩ => ?_)
  refine Calls.spliced_cons (lam_mk I1 TB hcode rfl hP ht ha hdef (L.has I.ok) fun f c' pm' ctv H2 ps2 s' I2 hcase hf hfn hfr hco => ?_)
  refine Calls.spliced_nil ⟨I2.kIn, ?_⟩
  have rc : codeAny (model X.prog X.w) X.A (.call (.ref g) ⟨[u1, .ref f], []⟩) (CR CX0 X.stack X.prog X.w H2 s' Q E0) s' := by
    refine LamX.run_ofS (N := Ng) (ps := [b, a]) (us := [u1, .ref f]) (vs := [v, .ref f]) lk hcg Sg hr I2.env0 (hb s' [u1, .ref f] I2.kIn rfl) (.cons r1 (.cons rfl .nil)) rfl fun hr' => ?_
    obtain ⟨t', ht', hq'⟩ := hG f c' s' H2 Q v (fun u H' Q' => tb (σ ++ [some u]) H' Q') (fun ha' hst' => pe_holds (i := 1) rfl I2 L hf hfn hfr (hbind _ _ _ _ _) hr' (fun A outer s H hr2 => hbody A outer s H f c' hr2) hNg hva hd hcd ha' hst') hco (h2 c' ps2 H2 hcase hco)
    exact ⟨t', ht'.nox, hq'⟩
  refine wpAny_call (codeAny_mono rc fun r s2 hq => ?_)
  cases r with
  | error e => exact (show False from hq).elim
  | ok fl =>
    cases fl with
    | ret u => exact I2.after hq
    | next => exact False.elim hq
    | brk => exact False.elim hq
    | cont => exact False.elim hq
end
/-! the least number for which it holds -/
def LeastR (n : Int) (hb : Int → Bool) (r : V) : Prop := (r = .non ∧ ∀ j, 0 ≤ j → j < n → hb j = false) ∨ ∃ k, r = .int k ∧ 0 ≤ k ∧ k < n ∧ hb k = true ∧ ∀ j, 0 ≤ j → j < k → hb j = false
def TLeast (q : Str) (c' : Addr) (v : V) (act : V → Hp → VK → Prop) (H : Hp) (Q : VK) : Prop := ∃ (n : Int) (I : Hp → Prop) (hb : Int → Bool), v = .int n ∧ 0 ≤ n ∧ n ≤ 10 ^ 40 ∧ I H ∧ (∀ H', I H' → H' c' = some (LamX.CodeO c' q)) ∧
  (∀ m H' Q', 0 ≤ m → m < n → I H' → (∀ H'', I H'' → Q' (.bl (hb m)) H'') → act (.int m) H' Q') ∧ (∀ i j, 0 ≤ i → i ≤ j → j < n → hb i = true → hb j = true) ∧ ∀ r H', I H' → LeastR n hb r → Q r H'
def wLeast (P : Addr) (q : Str) (w1 wb : WE') : WE' := fun l μ Q X => w1 l μ (fun x μ1 => ∃ (n : Int) (hb : Int → Bool), isI x n ∧ 0 ≤ n ∧ n ≤ 10 ^ 40 ∧ μ1 P = some (.tab q) ∧ (∀ m, 0 ≤ m → m < n → wb (l ++ [some (iAV m)]) μ1 (fun y μ2 => y = bAV (hb m) ∧ μ2 = μ1) noX) ∧
  (∀ i j, 0 ≤ i → i ≤ j → j < n → hb i = true → hb j = true) ∧ ((∀ j, 0 ≤ j → j < n → hb j = false) → Q (.dat true .none) μ1) ∧ ∀ k, 0 ≤ k → k < n → hb k = true → (∀ j, 0 ≤ j → j < k → hb j = false) → Q (iAV k) μ1) X
theorem updM_self {μ : MU} {a : Addr} {o : OB} (h : μ a = some o) : updM μ a o = μ := by
  funext b; unfold updM
  by_cases e : b = a
  · rw [if_pos e, e, h]
  · rw [if_neg e]
section
variable {K : PySem.W.Frag} {R : RK} {Wc : WX}
theorem RL.snoc {A : Hp} {σ : L2.St} {l : Loc} {v : V} {av : AV} (L : RL K A σ l) (r : RV K A v av) : RL K A (σ ++ [some v]) (l ++ [some av]) := by
  refine ⟨by rw [List.length_append, List.length_append, L.len]; rfl, fun i x e => ?_⟩
  by_cases h : i < l.length
  · rw [List.getElem?_append_left h] at e
    obtain ⟨u, hu, ru⟩ := L.at' i x e
    exact ⟨u, by rw [List.getElem?_append_left (by rw [L.len]; exact h)]; exact hu, ru⟩
  · have hi : i = l.length := by
      have := (List.getElem?_eq_some_iff.mp e).1
      rw [List.length_append] at this
      simp only [List.length_cons, List.length_nil] at this
      omega
    subst hi
    rw [List.getElem?_append_right (Nat.le_refl _), Nat.sub_self] at e
    obtain rfl := Option.some.inj (Option.some.inj e)
    exact ⟨v, by rw [List.getElem?_append_right (by rw [L.len]; exact Nat.le_refl _), L.len, Nat.sub_self]; rfl, r⟩
theorem d_least {P : Addr} {q : Str} {t1 tb : TE} {w1 wb : WE'} (h1 : DE K R Wc t1 w1) (hb : DE K R (fun _ _ _ _ => False) tb wb) : DE K R Wc (tHand P q (TLeast q) t1 tb) (wLeast P q w1 wb) := ⟨fun A H μ σ l Qc Q X W L kq kx qq =>
  h1.run A H μ σ l _ _ X W L (fun A1 H1 μ1 v av s1 W1 rv ⟨n, b, hx, n0, n1, hP, hw, mono, qn, qk⟩ => by
    obtain rfl := rv.i hx
    obtain ⟨nA, ho, eH, ps, rfl, ht, ha⟩ := W1.obs P _ hP
    refine ⟨ps, eH, ⟨ht, fun pos cv z => let ⟨c, e1, e2⟩ := ha pos cv z; ⟨c, e1, W1.sub _ _ e2⟩⟩, fun c' ps2 H2 hcase hco => ?_⟩
    obtain ⟨A2, W2, s2, e2⟩ : ∃ A2, WW K R A2 H2 μ1 ∧ Stp A1 H1 μ1 A2 H2 μ1 ∧ A2 c' = some (LamX.CodeO c' q) := by
      rcases hcase with ⟨rfl, rfl, pos, hc⟩ | ⟨nc, nP, rfl, ht2, ha2⟩
      · obtain ⟨c, e1, e2⟩ := ha pos _ hc
        cases e1
        exact ⟨A1, W1, Stp.refl, e2⟩
      · obtain ⟨W3, s3⟩ := W1.alloc (LamX.CodeO c' q) nc
        have r3 : RO K R (upd A1 c' (LamX.CodeO c' q)) (.tbl ps2) (.tab q) := ⟨ps2, rfl, ht2, fun pos cv z => by
          rcases ha2 pos cv z with z | z
          · obtain ⟨c, e1, e2⟩ := ha pos cv z
            exact ⟨c, e1, s3.grow _ _ e2⟩
          · exact ⟨c', z, upd_same⟩⟩
        obtain ⟨W4, s4⟩ := W3.mut hP r3
        rw [updM_self hP] at W4 s4
        have eq : upd (upd H1 c' (LamX.CodeO c' q)) P (.tbl ps2) = upd (upd H1 P (.tbl ps2)) c' (LamX.CodeO c' q) := by
          funext x
          by_cases h1 : x = P
          · subst h1; rw [upd_same, upd_ne nP, upd_same]
          · by_cases h2 : x = c'
            · subst h2; rw [upd_ne h1, upd_same, upd_same]
            · rw [upd_ne h1, upd_ne h2, upd_ne h2, upd_ne h1]
        rw [eq] at W4 s4
        exact ⟨_, W4, s3.trans s4, upd_same⟩
    have L2 := L.mono (s1.trans s2).grow
    refine ⟨n, fun H' => ∃ A', WW K R A' H' μ1 ∧ Stp A2 H2 μ1 A' H' μ1, b, rfl, n0, n1, ⟨A2, W2, Stp.refl⟩, fun H' ⟨A', W', s'⟩ => W'.sub _ _ (s'.grow _ _ e2), fun m H' Q' m0 m1 ⟨A', W', s'⟩ hq => ?_, mono, fun r H' ⟨A', W', s'⟩ hr => ?_⟩
    · refine hb.run A' H' μ1 (σ ++ [some (.int m)]) (l ++ [some (iAV m)]) Q' _ noX W' ((L2.mono s'.grow).snoc (av := iAV m) (show RV K A' (.int m) (.dat true (.int m)) from Tr.int m)) (fun A3 H3 μ3 y ay s3 W3 r3 ⟨e1, e2⟩ => ?_) (fun _ _ _ _ _ _ x => x.elim) (hw m m0 m1)
      subst e1 e2
      obtain rfl := r3.b (i := b m) rfl
      exact hq H3 ⟨A3, W3, s'.trans s3⟩
    · have k2 := kq.go ((s1.trans s2).trans s')
      rcases hr with ⟨rfl, hn⟩ | ⟨k, rfl, k0, k1, hk, hj⟩
      · exact k2.n W' (qn hn)
      · exact k2.i W' (qk k k0 k1 hk hj)) kx qq⟩
end
/-- a lambda's name, in the def of this one -/
def lamQ (nm : Str) : Str := (nm ++ ".<locals>.") ++ "<lambda>"
/-- a def whose code object stands at c -/
def DefAtC (K : PySem.W.Frag) (mg : Str → Option Value) (nm : Str) (st : Stmt) (ps : List Str) (c : Addr) : Prop := ∃ (f : Addr) (fd : FuncData), mg nm = some (.ref f) ∧ Fun K nm nm st f fd ∧ Binds K fd ps [] ∧ fd.code = .ref c
section
variable {P : Program} {w : World} {K : PySem.W.Frag} {R : RK} {mg : Str → Option Value} {base : Heap}
theorem GoodXD.ofC {nm : Str} {st : Stmt} {N ps : List Str} {k : Nat} {c : Addr} {f : FD} (D : DefAtC K mg nm st ps c) (S : FnScope N ps (defScope st)) (len : ∀ avs μ P X, f avs μ P X → avs.length = ps.length)
    (hbody : ∀ (fa : Addr) (cdv : Value) (hcd : cdv = .ref c) (A : Around) (outer : List Env) (s : Shared) (H : Hp) (E : XK), Room k (A.deeper (envOfC nm (defScope st) s.heap.objs.size fa cdv)) →
      ∃ t, PSs (cxOf (L2.CX P w) P w K mg base N nm (defScope st) fa cdv A outer s H E) (defBody st) t ∧ ∃ ws, DS K R (fun c d _ H => E c d H) t ws ∧ ∀ avs μ P X, f avs μ P X → ws (entry P X) (startA N.length avs) μ) :
    GoodX P w K mg base (k + 1) nm ps (spD K R f) := by
  obtain ⟨fa, fd, hm, F, hb, hc⟩ := D
  refine ⟨fa, fd, hm, F.kp, hb, ?_⟩
  obtain ⟨oc, od, kV, doc, pm, an, cdv, ct, osl, rfl, lk, hcd⟩ := F.ex
  refine fn_of lk hcd S (fun vs H Q E ⟨A, μ, avs, Qa, X, W, rv, hf, _⟩ => by rw [rv.length]; exact len _ _ _ _ hf) fun A outer s H vs Q E hr h => ?_
  obtain ⟨t, ht, ws, hd, hw⟩ := hbody fa cdv hc A outer s H E hr
  exact ⟨t, ht, body_of hd hw h⟩
end
end Fv

/-! sum of a tuple; where a text stands in a tuple of the top -/
namespace Fv
open PySem PySem.Spec PyProof.Rows L2
def rSumT (K : PySem.W.Frag) : List V → Hp → VK → Prop := fun vs H Q => ∃ (a : Addr) (ns : List Int), vs = [V.ref a] ∧ SqT K H a (ns.map V.int) ∧ Q (.int ns.sum) H
theorem cr_sumT {X : Cx} (hc : X.calm = true) : CallR X (.builtin "sum") (rSumT X.K) := by
  intro pins s σ H vs us Q I r h
  obtain ⟨a, ns, rfl, hs, q⟩ := h
  obtain ⟨its, rv, hl, _⟩ := I.tuple hs
  rw [Vals.ref1 r]
  obtain ⟨xs, e⟩ := rv.ints.allInts.items
  have hn : numsOf (intItems xs).toList = ns := by rw [← e]; exact rv.ints.numsOf
  rw [nums_intItems] at hn
  have hl : s.heap.IsTuple a (intItems xs) := by rw [← e]; exact hl
  have hlt : a < s.heap.objs.size := by obtain ⟨_, z, _⟩ := hl; exact Heap.lt_size z
  refine call_sum_walkG (wpAny_pyIter_tuple hl ⟨_, _, _, _, _, _, numAt xs, rfl, Walks.tuple (A := X.A.in1) (I.ok.hd hc) s.heap.objs.size a (Nat.ne_of_lt hlt) (intItems xs), ⟨⟨_, Heap.get?_push_size _ rfl, rfl, rfl⟩, hl.push _⟩, fun b hb => ?_, fun _ _ => intItems_at, fun h' tk t' hk => ?_⟩)
  · show b < (s.heap.push _).objs.size
    rw [Heap.size_push]
    simp only [List.mem_cons, List.not_mem_nil, or_false] at hb
    rcases hb with rfl | rfl
    · exact Nat.lt_succ_self _
    · exact Nat.lt_succ_of_lt hlt
  · have hs2 : preSum (numAt xs) (intItems xs).size = ns.sum := by
      rw [preSum_eq, List.take_of_length_le (by simp [intItems]), hn]
    rw [hs2]
    exact ⟨.int _, H, I.kept (fun b o e => hk b o (fun z => by
      simp only [List.mem_cons, List.not_mem_nil, or_false] at z
      rw [z] at e; exact absurd (Heap.lt_size e) (Nat.lt_irrefl _)) (Heap.get?_push_of_some _ e)), ⟨_, rfl⟩, q⟩
section
variable {K : PySem.W.Frag} {R : RK} {Wc : WX}
def bSumT : List AV → MU → PQ → Prop := fun xs μ Q => ∃ (x : AV) (k : Bool) (ns : List Int), xs = [x] ∧ x = .dat k (.tuple (ns.map PyData.int)) ∧ Q (iAV ns.sum) μ
theorem cd_sumT : CallD K R (rSumT K) bSumT := by
  rintro A H μ vs _ Qc Q W r kq ⟨x, k, ns, rfl, rfl, q⟩
  obtain ⟨v, rfl, r1⟩ := r.one
  obtain ⟨a, us, rfl, h1, h2⟩ := overT.at r1 overT_tuple
  have e : us = ns.map V.int := DqAll.ints_inv (RVs.dqT h2)
  rw [e] at h1
  exact ⟨a, ns, rfl, sqt_same W.sub h1, kq.i W q⟩
/-- a tuple of the top: its own object -/
structure ConO (K : PySem.W.Frag) (a : Addr) : Prop where
  t : ∃ o, K.lookup a = some o ∧ o.cls = .type "tuple" ∧ o.dict = none
def rTI (K : PySem.W.Frag) : V → List V → Hp → VK → Prop := fun x xs H Q => ∃ p, ∃ ys : List Str, ∃ z j, x = .ref p ∧ xs = [.str z] ∧ SqT K H p (ys.map V.str) ∧ ys[j]? = some z ∧ (∀ m, m < j → ys[m]? ≠ some z) ∧ Q (.int (j : Nat)) H
def wTIdx (ys : List Str) (wa : WA') : WE' := fun l μ Q X => wa l μ (fun xs μ1 => ∃ av z, xs = [av] ∧ isS av z ∧ ∃ j, ys[j]? = some z ∧ (∀ m, m < j → ys[m]? ≠ some z) ∧ Q (iAV (j : Nat)) μ1) X
theorem d_tidx {a : Addr} {ys : List Str} {ta : TA} {wa : WA'} (hs : ∀ H : Hp, SqT K H a (ys.map V.str)) (ho : ConO K a) (ha : DA K R Wc ta wa) : DE K R Wc (tBM K "tuple" (rTI K) (tC (.ref a)) ta) (wTIdx ys wa) := ⟨fun A H μ σ l Qc Q X W L kq kx h => by
  refine ⟨.inr (.inl ⟨rfl, ho.t⟩), ha.run A H μ σ l _ _ X W L (fun A1 H1 μ1 vs avs s1 W1 r1 ⟨av, z, e, hz, j, h1, h2, q⟩ => ?_) kx h⟩
  subst e
  obtain ⟨v, rfl, rv⟩ := r1.one
  obtain rfl := rv.s hz
  exact ⟨a, ys, z, j, rfl, rfl, hs H1, h1, h2, (kq.go s1).i W1 q⟩⟩
end
theorem aCat_T {xs ys : List PyData} {μ : MU} {Q : PQ} (hn : xs.length + ys.length ≤ 100000) (q : Q (.dat true (.list (xs ++ ys))) μ) : aCat false (.dat true (.list xs)) (.dat true (.list ys)) μ Q :=
  ⟨_, _, rfl, rfl, ⟨.inl ⟨all_frT _, rfl⟩, .inr (.inl rfl)⟩, ⟨.inl ⟨all_frT _, rfl⟩, .inr (.inl rfl)⟩, by rw [List.length_map, List.length_map]; exact hn, by rw [← List.map_append]; exact newL_tt q⟩
end Fv

/-! A law whose defs make lambdas: what lies beneath its call. -/
namespace Fv
open PySem PySem.Spec PyProof.Rows L2
def tabO : Obj := { cls := .none, data := .fields #[] }
theorem law_topT {P : Program} {w : World} {K : PySem.W.Frag} {mg mb : Str → Option Value} {fa a : Addr} {s1 : Shared} {us : List Value} {ns : List Int} {cs : List (Addr × Addr)}
    (kin : K.In s1.heap) (gl : s1.heap.Ns mainGlobals mg) (bl : s1.heap.Ns builtinsNs mb) (bm : ∀ x : Str, x ≠ "__name__" → mb x = bootBuiltins x) (nolim : s1.heap.NoLimit) (nogen : s1.gens = #[])
    (tabs : ∀ p ∈ cs, s1.heap.get? p.2 = some tabO ∧ K.lookup p.2 = none ∧ PySem.W.CodeHd s1.heap p.1 p.2)
    (main : ∃ (m : Addr) (ob : Obj), mg "__builtins__" = some (.ref m) ∧ m ≠ builtinsNs ∧ s1.heap.get? m = some ob ∧ ob.cls = .type "module" ∧ ob.dict = some builtinsNs ∧ ob.data = .plain)
    (obj : s1.heap.get? a = some { cls := .type "list", data := .seq us.toArray }) (hints : IntsAre us ns) (few : ns.length ≤ sizeLine)
    (run : ∀ (base : Heap) (H : Hp), K.In base → base.Ns mainGlobals mg → (∀ p ∈ cs, LamX.TabB base mg p.1 p.2) → (∀ p ∈ cs, H p.2 = some (.tbl #[])) → SqL K H a (ns.map V.int) → Env0 P w K mg base callerA [] s1 H →
      codeAny (model P w) callerA (.call (.ref fa) ⟨[.ref a], []⟩) (CR CX0 [] P w H s1 (fun v _ => v = .bl true) E0) s1) :
    codeAny (model P w) callerA (.call (.ref fa) ⟨[.ref a], []⟩) (fun r s' => r = .ok (.ret (.bool true)) ∧ OldK s1.heap s'.heap ∧ s'.os = s1.os ∧ AllBare s'.gens) s1 := by
  have rel := vals_ints hints
  have size := hints.length
  have tb : ∀ b, b ∈ cs.map Prod.snd → s1.heap.get? b = some tabO := by
    intro b h
    obtain ⟨p, hp, rfl⟩ := List.mem_map.mp h
    exact (tabs p hp).1
  have inT : ∀ p ∈ cs, p.2 ∈ cs.map Prod.snd := fun p h => List.mem_map.mpr ⟨p, h, rfl⟩
  have aT : a ∉ cs.map Prod.snd := by
    intro h
    have z := tb a h
    rw [obj] at z
    cases (show Data.seq us.toArray _ = Data.fields #[] from congrArg Obj.data (Option.some.inj z))
  suffices go : ∀ H : Hp, (∀ b, b ∈ cs.map Prod.snd → H b = some (.tbl #[])) → (∀ b, b ∉ cs.map Prod.snd → H b = none ∨ ∃ o xs, H b = some (.frz o (.lst xs))) → SqL K H a (ns.map V.int) → HOk P w H s1.heap →
      (∀ b, b ∉ cs.map Prod.snd → H b ≠ none → b = a ∧ K.lookup a = none) →
      codeAny (model P w) callerA (.call (.ref fa) ⟨[.ref a], []⟩) (fun r s' => r = .ok (.ret (.bool true)) ∧ OldK s1.heap s'.heap ∧ s'.os = s1.os ∧ AllBare s'.gens) s1 by
    cases look : K.lookup a with
    | some o =>
      have same := kin a o look
      rw [obj] at same
      cases same
      refine go (fun b => if b ∈ cs.map Prod.snd then some (.tbl #[]) else none) (fun b h => if_pos h) (fun b h => .inl (if_neg h)) (.inr ⟨_, us.toArray, _, look, rfl, rfl, rfl, by rw [List.size_toArray, size]; exact few, by simpa using rel⟩) (fun b u z => ?_) (fun b h z => absurd (if_neg h) z)
      by_cases h : b ∈ cs.map Prod.snd
      · have z2 := (if_pos h).symm.trans z
        obtain rfl := Option.some.inj z2
        exact tb b h
      · have z2 := (if_neg h).symm.trans z
        cases z2
    | none =>
      refine go (fun b => if b ∈ cs.map Prod.snd then some (.tbl #[]) else if b = a then some (.frz { cls := .type "list", data := .seq us.toArray } (.lst (ns.map V.int))) else none) (fun b h => if_pos h) (fun b h => ?_) (.inl (.inr ⟨{ cls := .type "list", data := .seq us.toArray }, (if_neg aT).trans (if_pos rfl)⟩)) (fun b u z => ?_) (fun b h z => ?_)
      · by_cases e : b = a
        · exact .inr ⟨_, _, (if_neg h).trans (if_pos e)⟩
        · exact .inl ((if_neg h).trans (if_neg e))
      · by_cases h : b ∈ cs.map Prod.snd
        · have z2 := (if_pos h).symm.trans z
          obtain rfl := Option.some.inj z2
          exact tb b h
        · have z1 := (if_neg h).symm.trans z
          by_cases e : b = a
          · have z2 := (if_pos e).symm.trans z1
            obtain rfl := Option.some.inj z2
            subst e
            exact ⟨obj, by rw [List.length_map]; exact few, us, _, rel, obj⟩
          · have z2 := (if_neg e).symm.trans z1
            cases z2
      · by_cases e : b = a
        · exact ⟨e, look⟩
        · exact absurd ((if_neg h).trans (if_neg e)) z
  intro H hT hO script hok alone
  -- what is hidden is the script or a table
  have out : ∀ {b : Addr} {o : Obj}, s1.heap.get? b = some o → (∀ vs n, o.data ≠ .seq vs n) → o.data ≠ .fields #[] → H b = none := by
    intro b o e h1 h2
    by_cases z : H b = none
    · exact z
    · by_cases h : b ∈ cs.map Prod.snd
      · rw [tb b h] at e; cases e; exact absurd rfl h2
      · obtain ⟨rfl, _⟩ := alone b h z
        rw [obj] at e; cases e; exact absurd rfl (h1 _ _)
  have outD : ∀ {b : Addr} {o : Obj} {es : Array DictEntry} {ep : Nat}, s1.heap.get? b = some o → o.data = .dict es ep → H b = none := fun e d => out e (fun vs n z => by rw [d] at z; cases z) (fun z => by rw [d] at z; cases z)
  have spaces : ∀ {b : Addr} {m : Str → Option Value}, s1.heap.Ns b m → (hidT s1.heap H).Ns b m := by
    rintro b m ⟨o, es, ep, e, d, r⟩
    exact ⟨o, es, ep, hidT_get e (outD e d), d, r⟩
  have kbase : K.In (hidT s1.heap H) := by
    intro b o e
    refine hidT_get (kin b o e) ?_
    by_cases z : H b = none
    · exact z
    · by_cases h : b ∈ cs.map Prod.snd
      · obtain ⟨p, hp, rfl⟩ := List.mem_map.mp h
        rw [(tabs p hp).2.1] at e; cases e
      · obtain ⟨rfl, n⟩ := alone b h z
        rw [n] at e; cases e
  obtain ⟨mc, c1, c2⟩ := nolim
  have mod : Mod K mg (hidT s1.heap H) := ⟨kbase, spaces gl, ⟨mb, spaces bl, bm⟩, ⟨mc, spaces c1, c2⟩⟩
  have TB : ∀ p ∈ cs, LamX.TabB (hidT s1.heap H) mg p.1 p.2 := by
    intro p hp
    have ht := (tabs p hp).1
    refine ⟨?_, ?_, fun z => ?_⟩
    · obtain ⟨o, vs, file, tf, flags, tg, inF, text, tt, e1, r1, r2, r3, rest⟩ := (tabs p hp).2.2
      refine ⟨o, vs, file, tf, flags, tg, inF, text, tt, hidT_get e1 (out e1 (fun vs n z => ?_) fun z => ?_), r1, r2, r3, rest⟩
      · rw [r2] at z; cases z
      · rw [r2] at z; cases z; simp at r3
    · obtain ⟨m, ob, b1, b2, b3, b4, b5, b6⟩ := main
      refine ⟨m, ob, b1, b2, fun q => ?_, fun q => ?_, hidT_get b3 (out b3 (fun vs n z => ?_) fun z => ?_), b4, b5, b6⟩
      · obtain ⟨o, es, ep, e, hd, _⟩ := gl
        rw [q, e] at b3; cases b3; rw [hd] at b6; cases b6
      · rw [q, ht] at b3; cases b3; cases b6
      · rw [b6] at z; cases z
      · rw [b6] at z; cases z
    · obtain ⟨o, es, ep, e, hd, _⟩ := gl
      rw [z, ht] at e; cases e; cases hd
  have en : Env0 P w K mg (hidT s1.heap H) callerA [] s1 H := ⟨rfl, mod, fun b o e => of_hidT e, Nat.le_of_eq (hidT_size _ _), trivial, fun b hb => absurd (show b ∈ ([] : List Addr) from hb) (by simp), hok, .of_eq nogen⟩
  apply codeAny_mono (run _ H kbase (spaces gl) TB (fun p hp => hT _ (inT p hp)) script en)
  intro r s' res
  cases r with
  | error e => exact (show False from res).elim
  | ok fl =>
    cases fl with
    | next => exact (show False from res).elim
    | brk => exact (show False from res).elim
    | cont => exact (show False from res).elim
    | ret u =>
      obtain ⟨v, H', os, bare, un, hok', rv, rfl⟩ := res
      obtain rfl : u = Value.bool true := rv
      have kept : ∀ b o, b ∉ cs.map Prod.snd → s1.heap.get? b = some o → s'.heap.get? b = some o := by
        intro b o h e
        by_cases z : H b = none
        · exact un.keep b o e z (fun y => absurd (show b ∈ ([] : List Addr) from y) (by simp)) (by simp)
        · rcases hO b h with y | ⟨ob, xs, y⟩
          · exact absurd y z
          · have e1 := (hok b _ y).1
            have e2 := (hok' b _ (un.frzs b ob _ y)).1
            rw [e1] at e; cases e; exact e2
      have grown : ∀ p ∈ cs, ∃ more : Array Value, s'.heap.get? p.2 = some { cls := .none, data := .fields more } := by
        intro p hp
        obtain ⟨more, z⟩ := un.tbls p.2 #[] (hT _ (inT p hp))
        exact ⟨_, hok' p.2 _ z⟩
      refine ⟨rfl, ⟨fun b o e => ?_, fun b o e => ?_⟩, os, bare⟩
      · by_cases h : b ∈ cs.map Prod.snd
        · obtain ⟨p, hp, rfl⟩ := List.mem_map.mp h
          obtain ⟨more, hm⟩ := grown p hp
          rw [(tabs p hp).1] at e; cases e
          exact .inr (.inl ⟨((tabs p hp).2.2.tab (tabs p hp).1).isCodeTable, rfl, #[], more, rfl, by rw [Array.empty_append]; exact hm⟩)
        · exact .inl (kept b o h e)
      · by_cases h : b ∈ cs.map Prod.snd
        · obtain ⟨p, hp, rfl⟩ := List.mem_map.mp h
          obtain ⟨more, hm⟩ := grown p hp
          exact ⟨_, hm⟩
        · exact ⟨o, kept b o h e⟩
/-! the law's def, its tables known -/
def fd_lawT (T : List (Addr × Str)) (x : AV) (μ : MU) (P : PQ) (X : PXq) : Prop := ∃ ns : List Int, x = .dat false (.list (ns.map PyData.int)) ∧ ns.length ≤ 63 ∧ (∀ p ∈ T, μ p.1 = some (.tab p.2)) ∧ ∀ μ', P (bAV true) μ'
section
variable {P : Program} {w : World} {K : PySem.W.Frag} {R : RK} {mg : Str → Option Value} {base : Heap}
theorem run_defT {nm : Str} {st : Stmt} {N : List Str} {p : Str} {k : Nat} {A : Around} {outer : List Env} {s : Shared} {H : Hp} {a fa : Addr} {ns : List Int} {T : List (Addr × Str)}
    (D : DefAt K mg nm st [p]) (S : FnScope N [p] (defScope st)) (hfa : mg nm = some (.ref fa)) (room : Room (k + 1) A) (en : Env0 P w K mg base A outer s H) (hS : SqL K H a (ns.map V.int)) (hn : ns.length ≤ 63)
    (hT : ∀ p ∈ T, H p.1 = some (.tbl #[])) (hT2 : ∀ p ∈ T, ∀ q ∈ T, p.1 = q.1 → p.2 = q.2)
    (hbody : ∀ (f : Addr) (cdv : Value), Room k (A.deeper (envOfC nm (defScope st) s.heap.objs.size f cdv)) → ∃ t, PSs (cxOf CX0 P w K mg base N nm (defScope st) f cdv A outer s H E0).nox (defBody st) t ∧
      ∃ ws, DS K R (fun c d _ H => E0 c d H) t ws ∧ ∀ avs μ P X, fd1 (fd_lawT T) avs μ P X → ws (entry P X) (startA N.length avs) μ) :
    codeAny (model P w) A (.call (.ref fa) ⟨[.ref a], []⟩) (CR CX0 outer P w H s (fun v _ => v = .bl true) E0) s := by
  obtain ⟨f, fd, hm, F, hb⟩ := D
  obtain rfl : f = fa := by rw [hm] at hfa; injection hfa with e; injection e
  refine run_def (N := N) (ps := [p]) (vs := [.ref a]) (us := [.ref a]) F S room en (hb s [.ref a] (run_def.e_kin en) rfl) (.cons rfl .nil) rfl fun cdv hr => ?_
  obtain ⟨t, ht, ws, hd, hw⟩ := hbody f cdv hr
  have at_ : ∀ b, b ∈ T.map Prod.fst → H b = some (.tbl #[]) := by
    intro b h
    obtain ⟨q, hq, rfl⟩ := List.mem_map.mp h
    exact hT q hq
  have aN : a ∉ T.map Prod.fst ∨ ∃ (o : Obj) (its : Array Value) (n : Nat), K.lookup a = some o ∧ o.cls = .type "list" ∧ o.dict = none ∧ o.data = .seq its n ∧ its.size ≤ sizeLine ∧ Vals (ns.map V.int) its.toList := by
    rcases hS with h | h
    · refine .inl fun z => ?_
      rcases h with h | ⟨o, h⟩ <;> (rw [at_ a z] at h; cases h)
    · exact .inr h
  have hS2 : SqL K (fun b => if b ∈ T.map Prod.fst then none else H b) a (ns.map V.int) := by
    rcases aN with h | h
    · rcases hS with z | z
      · rcases z with z | ⟨o, z⟩
        · exact .inl (.inl ((if_neg h).trans z))
        · exact .inl (.inr ⟨o, (if_neg h).trans z⟩)
      · exact .inr z
    · exact .inr h
  have W : WW K R (fun b => if b ∈ T.map Prod.fst then none else H b) H (fun b => (T.find? fun p => decide (p.1 = b)).map fun p => OB.tab p.2) := by
    refine ⟨fun b o e => ?_, fun b o e => ?_⟩
    · by_cases h : b ∈ T.map Prod.fst
      · have z := (if_pos h).symm.trans e
        cases z
      · exact (if_neg h).symm.trans e
    · obtain ⟨q, hq, rfl⟩ := Option.map_eq_some_iff.mp e
      have hq1 := List.mem_of_find?_eq_some hq
      have hq2 : q.1 = b := of_decide_eq_true (List.find?_some (p := fun p : Addr × Str => decide (p.1 = b)) hq)
      have hb : b ∈ T.map Prod.fst := List.mem_map.mpr ⟨q, hq1, hq2⟩
      exact ⟨if_pos hb, _, at_ b hb, #[], rfl, trivial, fun pos cv z => by simp [codeAmong] at z⟩
  have μT : ∀ p ∈ T, (T.find? fun q => decide (q.1 = p.1)).map (fun p => OB.tab p.2) = some (.tab p.2) := by
    intro p hp
    cases e : T.find? fun q => decide (q.1 = p.1) with
    | none =>
      have := List.find?_eq_none.mp e p hp
      exact absurd (decide_eq_true rfl) this
    | some q =>
      have hq1 := List.mem_of_find?_eq_some e
      have hq2 : q.1 = p.1 := of_decide_eq_true (List.find?_some (p := fun q : Addr × Str => decide (q.1 = p.1)) e)
      show some (OB.tab q.2) = _
      rw [hT2 q hq1 p hp hq2]
  refine ⟨t, ht, body_of (f := fd1 (fd_lawT T)) (Q := fun v _ => v = .bl true) hd hw ⟨_, _, [.dat false (.list (ns.map PyData.int))], fun av _ => av = bAV true, noX, W, .cons (.lst hS2 (dq_ints ns)) .nil, ⟨_, rfl, ns, rfl, hn, μT, fun _ => rfl⟩, ?_, fun _ _ _ _ _ _ z => z.elim⟩⟩
  intro A' H' μ' v av _ _ rv e
  subst e
  cases rv
  rfl
end
end Fv

/-! a tuple turned about; dicts whose keys are whole numbers and texts. -/
namespace Fv
open PySem PySem.Spec PyProof.Rows L2 HT
theorem adjust_rev (n : Nat) : Builtin.Slice.sliceAdjust none none (-1) (n : Int) = ((n : Int) - 1, -1) := rfl
theorem places_rev (n : Nat) : Builtin.Slice.slicePlaces ((n : Int) - 1) (-1) (-1) = n := by
  unfold Builtin.Slice.slicePlaces
  rw [if_neg (by decide)]
  by_cases h : (n : Int) - 1 > -1
  · rw [if_pos h]
    show (((n : Int) - 1 - -1 - 1) / 1 + 1).toNat = n
    rw [Int.ediv_one]; omega
  · rw [if_neg h]; show (0 : Int).toNat = n; omega
theorem fm_congr {α β : Type} {f g : α → Option β} : ∀ {l : List α}, (∀ x ∈ l, f x = g x) → l.filterMap f = l.filterMap g
  | [], _ => rfl
  | a :: r, h => by
    rw [List.filterMap_cons, List.filterMap_cons, h a List.mem_cons_self, fm_congr (fun x hx => h x (List.mem_cons_of_mem _ hx))]
theorem pick_rev (xs : Array Value) : ((List.range xs.size).filterMap fun (m : Nat) => xs[((xs.size : Int) - 1 + (m : Int) * -1).toNat]?).toArray = xs.toList.reverse.toArray := by
  congr 1
  have e : ∀ l : List Value, (List.range l.length).filterMap (fun (m : Nat) => l[((l.length : Int) - 1 + (m : Int) * -1).toNat]?) = l.reverse := by
    intro l
    refine List.ext_getElem? fun i => ?_
    have hf : (List.range l.length).filterMap (fun (m : Nat) => l[((l.length : Int) - 1 + (m : Int) * -1).toNat]?) = (List.range l.length).map (fun (m : Nat) => (l[((l.length : Int) - 1 + (m : Int) * -1).toNat]?).getD .none) := by
      rw [← List.filterMap_eq_map]
      refine fm_congr fun m hm => ?_
      have hm := List.mem_range.mp hm
      show l[((l.length : Int) - 1 + (m : Int) * -1).toNat]? = some ((l[((l.length : Int) - 1 + (m : Int) * -1).toNat]?).getD .none)
      rw [List.getElem?_eq_getElem (by omega)]; rfl
    rw [hf]
    by_cases hi : i < l.length
    · rw [List.getElem?_map, List.getElem?_range hi, List.getElem?_reverse hi]
      have z : ((l.length : Int) - 1 + (i : Int) * -1).toNat = l.length - 1 - i := by omega
      show some ((l[((l.length : Int) - 1 + (i : Int) * -1).toNat]?).getD .none) = _
      rw [z, List.getElem?_eq_getElem (by omega)]; rfl
    · rw [List.getElem?_eq_none (by simp; omega), List.getElem?_eq_none (by simp; omega)]
  have z := e xs.toList
  rw [Array.length_toList] at z
  rw [← z]
  refine fm_congr fun m _ => ?_
  rw [Array.getElem?_toList]
section
variable {prog : Program} {w : World} {A : Around} {E : Value → Shared → Prop} {s : Shared}
theorem sliceApplied_rev {sl : Addr} {vl vu vs : Value} {n : Nat} {Q : Int × Int × Nat → Shared → Prop} (hs : s.heap.IsSliceOf sl vl vu vs) (pl : IsPart vl none) (pu : IsPart vu none) (ps : IsPart vs (some (-1)))
    (h : Q ((n : Int) - 1, -1, n) s) : wpAny (model prog w) A (Builtin.Slice.sliceApplied (.ref sl) (pure (n : Int))) Q E s := by
  obtain ⟨os, hos, hcs, hds⟩ := id hs
  unfold Builtin.Slice.sliceApplied Builtin.Slice.sliceFields
  refine wpAny_bind (wpAny_bind (wpAny_field hos hds (x := vl) rfl (wpAny_bind (wpAny_field hos hds (x := vu) rfl (wpAny_bind (wpAny_field hos hds (x := vs) rfl (wpAny_pure ?_)))))))
  refine wpAny_bind (slicePart_ ps ?_)
  show wpAny _ _ (if ((-1 : Int) == 0) = true then _ else _) _ _ s
  rw [if_neg (by decide)]
  refine wpAny_bind (slicePart_ pl (wpAny_bind (slicePart_ pu (wpAny_bind (wpAny_pure ?_)))))
  show wpAny _ _ (match Builtin.Slice.sliceAdjust none none (-1) (n : Int) with | (lo, hi) => pure (lo, (-1 : Int), Builtin.Slice.slicePlaces lo hi (-1))) _ _ s
  rw [adjust_rev n]
  show wpAny _ _ (pure ((n : Int) - 1, (-1 : Int), Builtin.Slice.slicePlaces ((n : Int) - 1) (-1) (-1))) _ _ s
  rw [places_rev]
  exact wpAny_pure h
theorem getItem_tuple_rev {t sl : Addr} {items : Array Value} {vl vu vs : Value} {Q : Value → Shared → Prop} (ht : IsTup s.heap t items) (hs : s.heap.IsSliceOf sl vl vu vs) (pl : IsPart vl none) (pu : IsPart vu none) (ps : IsPart vs (some (-1)))
    (h : Q (.ref s.heap.objs.size) { s with heap := s.heap.push { cls := .type "tuple", data := .seq items.toList.reverse.toArray } })
    (hsz : items.size ≤ sizeLine) : wpAny (model prog w) A (getItem (.ref t) (.ref sl)) Q E s := by
  have htake : sizeOk (.seq items.toList.reverse.toArray) := by
    show items.toList.reverse.toArray.size ≤ sizeLine
    rw [List.size_toArray, List.length_reverse, Array.length_toList]
    exact hsz
  obtain ⟨os, hos, hcs, hds⟩ := id hs
  have hTs : s.TypeIs (.ref sl) "slice" := ⟨os, hos, hcs⟩
  unfold getItem
  try with_reducible refine wpAny_holding ?_
  first | refine wpAny_bind (wpAny_pure ?_) | skip
  refine wpAny_bind (wpAny_sequenceKey ht.typeIs (by decide) ?_)
  refine wpAny_bind (wpAny_callSpecial?_slot (name := Str.ofString "__getitem__") ht.typeIs PyProof.Rows.slot_tuple_getitem
    (wpAny_call_entry PyProof.Rows.slot_tuple_getitem ht.typeIs entry_tuple_getitem ?_ (args_tuple_getitem _ _)))
  show wpAny _ _ (Builtin.Tuple.tupleItemsOf (.ref t) >>= _) _ _ s
  refine wpAny_bind (tupleItemsOf_ ht ?_)
  refine wpAny_bind (wpAny_typeOf hTs ?_)
  rw [if_pos (by decide)]
  refine wpAny_bind (sliceApplied_rev hs pl pu ps ?_)
  show wpAny _ _ (if (((items.size : Int) - 1) == 0 && (-1 : Int) == 1 && items.size == items.size) = true then _ else _) _ _ s
  rw [if_neg (by rw [show ((-1 : Int) == 1) = false from rfl, Bool.and_false, Bool.false_and]; exact Bool.false_ne_true), pick_rev]
  first
    | exact wpAny_bind (m := Builtin.Tuple.tupleExact _) (wpAny_newObj_type (wpAny_pure ⟨_, rfl, wpAny_pure h⟩) htake)
    | exact wpAny_bind (m := Builtin.Tuple.tupleExact _) (wpAny_newObj_type (wpAny_bind (wpAny_pure (wpAny_pure ⟨_, rfl, wpAny_pure h⟩))) htake)
    | exact wpAny_bind (wpAny_bind (m := Builtin.Tuple.tupleExact _) (wpAny_newObj_type (wpAny_pure (wpAny_pure ⟨_, rfl, wpAny_pure h⟩)) htake))
    | exact wpAny_bind (wpAny_bind (m := Builtin.Tuple.tupleExact _) (wpAny_newObj_type (wpAny_pure ⟨_, rfl, wpAny_pure h⟩) htake))
end
section
variable {X : Cx}
def tRevT (K : PySem.W.Frag) (te : TE) : TE := fun σ H Q => te σ H fun x H1 => ∃ a xs, x = .ref a ∧ SqT K H1 a xs ∧ ∀ p, H1 p = none → Q (.ref p) (upd H1 p (.tup xs.reverse))
theorem pe_revT {e : Expr} {te : TE} {k : Nat} {p1 p2 p3 pos : Pos} (he : PE X e te) : PE X (.Subscript e (.Slice none none (some (.UnaryOp .USub (.Constant (.int 1) k p1) p2)) p3) pos) (tRevT X.K te) := by
  refine ⟨fun pins s σ H Q I h => ?_⟩
  refine Subscript_ (thn (he.run pins s σ H _ I h) fun v s1 ⟨x, H1, I1, r1, q1⟩ => ?_)
  obtain ⟨a, xs, ex, hx, q⟩ := q1
  subst ex
  cases r1
  have hst : PO X (some (.UnaryOp .USub (.Constant (.int 1) k p1) p2)) (tPart (tUn (rU fun i => .int (-i)) (tC (.int 1)))) := po_some (pe_un un_neg pe_int)
  refine wpAny_Slice (thn (po_none.run pins s1 σ H1 (fun o H2 => o = none ∧ H2 = H1) I1 ⟨rfl, rfl⟩) fun vl s2 ⟨l, H2, I2, pl, el, e2⟩ => ?_)
  subst el e2
  refine thn (po_none.run pins s2 σ H2 (fun o H3 => o = none ∧ H3 = H2) I2 ⟨rfl, rfl⟩) fun vu s3 ⟨u, H3, I3, pu, eu, e3⟩ => ?_
  subst eu e3
  refine thn (hst.run pins s3 σ H3 (fun o H4 => o = some (-1) ∧ H4 = H3) I3 ⟨1, rfl, -1, rfl, rfl, rfl⟩) fun vs s4 ⟨o, H4, I4, ps, eo, e4⟩ => ?_
  subst eo e4
  have I5 : Inv X pins σ H4 { s4 with heap := s4.heap.push { cls := .type "slice", data := .fields #[vl, vu, vs] } } := I4.kept (t' := s4.toks) fun b ob q => Heap.get?_push_of_some _ q
  obtain ⟨its, r, ht, hz⟩ := I5.tuple hx
  have hlen := r.length
  show wpAny (model X.prog X.w) X.A (subscriptTail e (.Slice none none (some (.UnaryOp .USub (.Constant (.int 1) k p1) p2)) p3) (.ref a) (.ref s4.heap.objs.size)) (EP X pins σ Q) X.xe { s4 with heap := s4.heap.push { cls := .type "slice", data := .fields #[vl, vu, vs] } }
  refine tail_any (ops := [.ref a, .ref s4.heap.objs.size]) ht.typeIs (PyProof.Rows.slot_tuple_getitem.lookup) ?_ (by with_unfolding_all rfl)
  refine getItem_tuple_rev ht (Heap.IsSliceOf.new _ vl vu vs) pl pu ps ?_ (by rw [List.size_toArray]; omega)
  refine ⟨.ref _, _, I5.laid (t' := s4.toks) (o := .tup xs.reverse) (fun b ob q => Heap.get?_push_of_some _ q) (Nat.le_refl _) ?_, rfl, q _ (I5.hok.fresh (Nat.le_refl _))⟩
  exact ⟨by rw [List.length_reverse]; exact hz, _, r.reverse, _, Heap.get?_push_size _ rfl, rfl, 0, rfl⟩
end
section
variable {K : PySem.W.Frag} {R : RK} {Wc : WX}
def wRevT (we : WE') : WE' := fun l μ Q X => we l μ (fun x μ1 => ∃ xs, isT x xs ∧ newT xs.reverse μ1 Q) X
theorem d_revT {te : TE} {we : WE'} (he : DE K R Wc te we) : DE K R Wc (tRevT K te) (wRevT we) := ⟨fun A H μ σ l Qc Q X W L kq kx h =>
  he.run A H μ σ l _ _ X W L (fun A1 H1 μ1 x ax s1 W1 r1 ⟨xs, hx, q1⟩ => by
    obtain ⟨a, vs, rfl, h1, h2⟩ := r1.seqT W1 hx
    exact ⟨a, vs, rfl, h1, fun p hp => newT_ok W1 (kq.go s1) h2.rev hp q1⟩) kx h⟩
/-! dicts -/
def keyD : L2.Key → PyData | .inl i => .int i | .inr x => .str x
def isKy : AV → L2.Key → Prop
  | .dat _ (.int i), .inl j => i = j
  | .dat _ (.str x), .inr y => x = y
  | _, _ => False
theorem RV.ky {A : Hp} {v : V} {av : AV} {k : L2.Key} (r : RV K A v av) (h : isKy av k) : v = kV k := by
  cases av with
  | dat b x =>
    cases x with
    | int i => cases k with
      | inl j => exact r.i (show isI (.dat b (.int i)) j from h)
      | inr y => exact h.elim
    | str x => cases k with
      | inl j => exact h.elim
      | inr y => exact r.s (show isS (.dat b (.str x)) y from h)
    | _ => cases k <;> exact h.elim
  | _ => cases k <;> exact h.elim
def valX {κ : Type} [DecidableEq κ] (kvs : List (κ × AV)) (k : κ) : Option AV := (kvs.find? fun kv => decide (kv.1 = k)).map (·.2)
def putX {κ : Type} [DecidableEq κ] (kvs : List (κ × AV)) (k : κ) (v : AV) : List (κ × AV) :=
  if (kvs.any fun kv => decide (kv.1 = k)) = true then kvs.map (fun kv => if kv.1 = k then (kv.1, v) else kv) else kvs ++ [(k, v)]
def mergeX (kvs more : List (L2.Key × AV)) : List (L2.Key × AV) := more.foldl (fun acc kv => putX acc kv.1 kv.2) kvs
theorem RKs.len {κ : Type} {A : Hp} : ∀ {vs : List (κ × V)} {xs : List (κ × AV)}, RKs K A vs xs → vs.length = xs.length
  | _, _, .nil => rfl
  | _, _, .cons _ r => congrArg (· + 1) (RKs.len r)
theorem RKs.val {κ : Type} [DecidableEq κ] {A : Hp} {k : κ} : ∀ {vs : List (κ × V)} {xs : List (κ × AV)}, RKs K A vs xs → (∀ x, valX xs k = some x → ∃ v, valV vs k = some v ∧ RV K A v x) ∧ (valX xs k = none → valV vs k = none)
  | _, _, .nil => ⟨fun x h => (by cases h), fun _ => rfl⟩
  | _, _, .cons (n := n) (v := v) (x := y) h r => by
    obtain ⟨i1, i2⟩ := RKs.val (k := k) r
    by_cases e : n = k
    · refine ⟨fun x hx => ⟨v, by rw [valV_pos (p := (n, v)) e], ?_⟩, fun hx => ?_⟩
      · have hx : (List.find? (fun kv => decide (kv.1 = k)) ((n, y) :: _)).map (·.2) = some x := hx
        rw [List.find?_cons_of_pos (by simpa using e)] at hx
        obtain rfl := Option.some.inj hx
        exact h
      · have hx : (List.find? (fun kv => decide (kv.1 = k)) ((n, y) :: _)).map (·.2) = none := hx
        rw [List.find?_cons_of_pos (by simpa using e)] at hx
        cases hx
    · rw [valV_neg (p := (n, v)) e]
      refine ⟨fun x hx => i1 x ?_, fun hx => i2 ?_⟩
      · have hx : (List.find? (fun kv => decide (kv.1 = k)) ((n, y) :: _)).map (·.2) = some x := hx
        rwa [List.find?_cons_of_neg (by simpa using e)] at hx
      · have hx : (List.find? (fun kv => decide (kv.1 = k)) ((n, y) :: _)).map (·.2) = none := hx
        rwa [List.find?_cons_of_neg (by simpa using e)] at hx
theorem RKs.any {κ : Type} [DecidableEq κ] {A : Hp} {k : κ} : ∀ {vs : List (κ × V)} {xs : List (κ × AV)}, RKs K A vs xs → (vs.any fun kv => decide (kv.1 = k)) = (xs.any fun kv => decide (kv.1 = k))
  | _, _, .nil => rfl
  | _, _, .cons _ r => by rw [List.any_cons, List.any_cons, RKs.any r]
theorem RKs.app {κ : Type} {A : Hp} : ∀ {vs ws : List (κ × V)} {xs ys : List (κ × AV)}, RKs K A vs xs → RKs K A ws ys → RKs K A (vs ++ ws) (xs ++ ys)
  | _, _, _, _, .nil, h => h
  | _, _, _, _, .cons h r, q => .cons h (RKs.app r q)
theorem RKs.rep {κ : Type} [DecidableEq κ] {A : Hp} {k : κ} {v : V} {x : AV} (hv : RV K A v x) : ∀ {vs : List (κ × V)} {xs : List (κ × AV)}, RKs K A vs xs → RKs K A (vs.map fun kv => if kv.1 = k then (kv.1, v) else kv) (xs.map fun kv => if kv.1 = k then (kv.1, x) else kv)
  | _, _, .nil => .nil
  | _, _, .cons (n := n) h r => by
    rw [List.map_cons, List.map_cons]
    by_cases e : n = k
    · rw [if_pos e, if_pos e]; exact .cons hv (RKs.rep hv r)
    · rw [if_neg e, if_neg e]; exact .cons h (RKs.rep hv r)
theorem RKs.put {κ : Type} [DecidableEq κ] {A : Hp} {k : κ} {v : V} {x : AV} {vs : List (κ × V)} {xs : List (κ × AV)} (h : RKs K A vs xs) (hv : RV K A v x) : RKs K A (putK vs k v) (putX xs k x) := by
  unfold putK putX
  rw [h.any]
  split
  · exact h.rep hv
  · exact h.app (.cons hv .nil)
theorem RKs.merge {A : Hp} : ∀ {ms : List (L2.Key × V)} {mx : List (L2.Key × AV)}, RKs K A ms mx → ∀ {vs : List (L2.Key × V)} {xs : List (L2.Key × AV)}, RKs K A vs xs → RKs K A (mergeK vs ms) (mergeX xs mx)
  | _, _, .nil, _, _, h => h
  | _, _, .cons hv r, _, _, h => RKs.merge r (h.put hv)
def wPairs : List (WE' × WE') → Loc → MU → (List (AV × AV) → MU → Prop) → PXq → Prop
  | [], _, μ, Q, _ => Q [] μ
  | (wk, wv) :: r, l, μ, Q, X => wk l μ (fun x μ1 => wv l μ1 (fun y μ2 => wPairs r l μ2 (fun ps μ3 => Q ((x, y) :: ps) μ3) X) X) X
inductive DPs (K : PySem.W.Frag) (R : RK) (Wc : WX) : List (TE × TE) → List (WE' × WE') → Prop
  | nil : DPs K R Wc [] []
  | cons {tk tv : TE} {wk wv : WE'} {ts : List (TE × TE)} {ws : List (WE' × WE')} : DE K R Wc tk wk → DE K R Wc tv wv → DPs K R Wc ts ws → DPs K R Wc ((tk, tv) :: ts) ((wk, wv) :: ws)
inductive RPs (K : PySem.W.Frag) (A : Hp) : List (V × V) → List (AV × AV) → Prop
  | nil : RPs K A [] []
  | cons {v u : V} {x y : AV} {vs : List (V × V)} {xs : List (AV × AV)} : RV K A v x → RV K A u y → RPs K A vs xs → RPs K A ((v, u) :: vs) ((x, y) :: xs)
theorem DPs.run : ∀ {ts : List (TE × TE)} {ws : List (WE' × WE')}, DPs K R Wc ts ws → ∀ (A H : Hp) (μ : MU) (σ : L2.St) (l : Loc) (Qc : List (V × V) → Hp → Prop) (Q : List (AV × AV) → MU → Prop) (X : PXq), WW K R A H μ → RL K A σ l →
    (∀ A' H' μ' vs xs, Stp A H μ A' H' μ' → WW K R A' H' μ' → RPs K A' vs xs → Q xs μ' → Qc vs H') → Lk K R Wc A H μ σ X → wPairs ws l μ Q X → tPairs ts σ H Qc
  | _, _, .nil, A, H, μ, σ, l, Qc, Q, X, W, L, kq, kx, h => kq A H μ [] [] Stp.refl W .nil h
  | _, _, .cons hk hv r, A, H, μ, σ, l, Qc, Q, X, W, L, kq, kx, h => by
    refine hk.run A H μ σ l _ _ X W L (fun A1 H1 μ1 x ax s1 W1 r1 q1 => ?_) kx h
    refine hv.run A1 H1 μ1 σ l _ _ X W1 (L.mono s1.grow) (fun A2 H2 μ2 y ay s2 W2 r2 q2 => ?_) (kx.go s1) q1
    refine DPs.run r A2 H2 μ2 σ l _ _ X W2 (L.mono (s1.trans s2).grow) (fun A3 H3 μ3 vs xs s3 W3 r3 q3 => ?_) (kx.go (s1.trans s2)) q2
    exact kq A3 H3 μ3 _ _ ((s1.trans s2).trans s3) W3 (.cons (r1.mono (s2.trans s3).grow) (r2.mono s3.grow) r3) q3
inductive KyPs : List (AV × AV) → List (L2.Key × AV) → Prop
  | nil : KyPs [] []
  | cons {x y : AV} {k : L2.Key} {ps : List (AV × AV)} {kvs : List (L2.Key × AV)} : isKy x k → KyPs ps kvs → KyPs ((x, y) :: ps) ((k, y) :: kvs)
theorem RPs.keys {A : Hp} : ∀ {vs : List (V × V)} {ps : List (AV × AV)} {kvs : List (L2.Key × AV)}, RPs K A vs ps → KyPs ps kvs → ∃ ks : List (L2.Key × V), vs = ks.map (fun kv => (kV kv.1, kv.2)) ∧ RKs K A ks kvs
  | _, _, _, .nil, .nil => ⟨[], rfl, .nil⟩
  | _, _, _, .cons (u := u) h1 h2 r, .cons (k := k) hk q => by
    obtain ⟨ks, e, hr⟩ := RPs.keys r q
    exact ⟨(k, u) :: ks, by rw [e, h1.ky hk]; rfl, .cons h2 hr⟩
/-- {k: v, ..} -/
def wDisp (ws : List (WE' × WE')) : WE' := fun l μ Q X => ∀ a, μ a = none → wPairs ws l (updM μ a (.dct [])) (fun ps μ1 => μ1 a = some (.dct []) ∧ ∃ kvs, KyPs ps kvs ∧ kvs.length ≤ 15 ∧ Q (.ref a) (updM μ1 a (.dct (mergeX [] kvs)))) X
theorem d_disp {ts : List (TE × TE)} {ws : List (WE' × WE')} (h : DPs K R Wc ts ws) : DE K R Wc (tDisp ts) (wDisp ws) := ⟨fun A H μ σ l Qc Q X W L kq kx q => fun p hp => by
  obtain ⟨W1, s1⟩ := W.own (p := p) (ho := .dK []) (o := .dct []) hp ⟨[], rfl, .nil⟩
  refine h.run A (upd H p (.dK [])) (updM μ p (.dct [])) σ l _ _ X W1 (L.mono s1.grow) (fun A2 H2 μ2 vs ps s2 W2 r2 ⟨hm, kvs, hk, hl, q2⟩ => ?_) (kx.go s1) (q p (W.free hp).1)
  obtain ⟨n, ho, h1, vs0, rfl, h2⟩ := W2.obs p _ hm
  cases h2
  obtain ⟨ks, rfl, hr⟩ := r2.keys hk
  obtain ⟨W3, s3⟩ := W2.mut hm (ho := .dK (mergeK [] ks)) (o := .dct (mergeX [] kvs)) ⟨_, rfl, hr.merge .nil⟩
  exact ⟨h1, ks, rfl, by rw [hr.len]; exact hl, kq _ _ _ _ (.ref p) ((s1.trans s2).trans s3) W3 rfl q2⟩⟩
/-- d[k] -/
def wDGetK (wd wy : WE') : WE' := fun l μ Q X => wd l μ (fun x μ1 => wy l μ1 (fun y μ2 => ∃ a kvs k z, x = .ref a ∧ μ2 a = some (.dct kvs) ∧ isKy y k ∧ valX kvs k = some z ∧ Q z μ2) X) X
theorem d_dgetK {td ty : TE} {wd wy : WE'} (hd : DE K R Wc td wd) (hy : DE K R Wc ty wy) : DE K R Wc (tDGet td ty) (wDGetK wd wy) := ⟨fun A H μ σ l Qc Q X W L kq kx q =>
  hd.run A H μ σ l _ _ _ W L (fun A1 H1 μ1 x ax s1 W1 rx q1 => hy.run A1 H1 μ1 σ l _ _ _ W1 (L.mono s1.grow) (fun A2 H2 μ2 y ay s2 W2 ry ⟨a, kvs, k, z, ex, hm, hk, hv, q2⟩ => by
    subst ex
    cases (show x = .ref a from rx)
    obtain rfl := ry.ky hk
    obtain ⟨n, ho, h1, vs, rfl, h2⟩ := W2.obs a _ hm
    obtain ⟨v, hv1, hv2⟩ := (h2.val (k := k)).1 z hv
    refine ⟨a, v, rfl, ?_, (kq.go (s1.trans s2)).at W2 hv2 q2⟩
    rw [← hv1]; exact DGet.k h1) (kx.go s1) q1) kx q⟩
end
end Fv

/-! t[2:0:-1] of a tuple of four. -/
namespace Fv
open PySem PySem.Spec PyProof.Rows L2 HT
section
variable {prog : Program} {w : World} {A : Around} {E : Value → Shared → Prop} {s : Shared}
theorem sliceApplied_by {sl : Addr} {vl vu vs : Value} {lo hi : Option Int} {st a b : Int} {m n : Nat} {Q : Int × Int × Nat → Shared → Prop} (hs : s.heap.IsSliceOf sl vl vu vs) (pl : IsPart vl lo) (pu : IsPart vu hi) (ps : IsPart vs (some st))
    (h0 : (st == 0) = false) (ha : Builtin.Slice.sliceAdjust lo hi st (n : Int) = (a, b)) (hm : Builtin.Slice.slicePlaces a b st = m) (h : Q (a, st, m) s) : wpAny (model prog w) A (Builtin.Slice.sliceApplied (.ref sl) (pure (n : Int))) Q E s := by
  obtain ⟨os, hos, hcs, hds⟩ := id hs
  unfold Builtin.Slice.sliceApplied Builtin.Slice.sliceFields
  refine wpAny_bind (wpAny_bind (wpAny_field hos hds (x := vl) rfl (wpAny_bind (wpAny_field hos hds (x := vu) rfl (wpAny_bind (wpAny_field hos hds (x := vs) rfl (wpAny_pure ?_)))))))
  refine wpAny_bind (slicePart_ ps ?_)
  show wpAny _ _ (if (st == 0) = true then _ else _) _ _ s
  rw [if_neg (by rw [h0]; exact Bool.false_ne_true)]
  refine wpAny_bind (slicePart_ pl (wpAny_bind (slicePart_ pu (wpAny_bind (wpAny_pure ?_)))))
  show wpAny _ _ (match Builtin.Slice.sliceAdjust lo hi st (n : Int) with | (lo, hi) => pure (lo, st, Builtin.Slice.slicePlaces lo hi st)) _ _ s
  rw [ha]
  show wpAny _ _ (pure (a, st, Builtin.Slice.slicePlaces a b st)) _ _ s
  rw [hm]
  exact wpAny_pure h
theorem getItem_tuple_by {t sl : Addr} {items : Array Value} {vl vu vs : Value} {lo hi : Option Int} {st a b : Int} {m : Nat} {L : List Value} {Q : Value → Shared → Prop} (ht : IsTup s.heap t items) (hs : s.heap.IsSliceOf sl vl vu vs) (pl : IsPart vl lo) (pu : IsPart vu hi) (ps : IsPart vs (some st))
    (h0 : (st == 0) = false) (h1 : (st == 1) = false) (ha : Builtin.Slice.sliceAdjust lo hi st (items.size : Int) = (a, b)) (hm : Builtin.Slice.slicePlaces a b st = m) (hL : ((List.range m).filterMap fun (k : Nat) => items[(a + (k : Int) * st).toNat]?) = L)
    (h : Q (.ref s.heap.objs.size) { s with heap := s.heap.push { cls := .type "tuple", data := .seq L.toArray } })
    (hsz : L.length ≤ sizeLine) : wpAny (model prog w) A (getItem (.ref t) (.ref sl)) Q E s := by
  have htake : sizeOk (.seq L.toArray) := by
    show L.toArray.size ≤ sizeLine
    rw [List.size_toArray]
    exact hsz
  obtain ⟨os, hos, hcs, hds⟩ := id hs
  have hTs : s.TypeIs (.ref sl) "slice" := ⟨os, hos, hcs⟩
  unfold getItem
  try with_reducible refine wpAny_holding ?_
  first | refine wpAny_bind (wpAny_pure ?_) | skip
  refine wpAny_bind (wpAny_sequenceKey ht.typeIs (by decide) ?_)
  refine wpAny_bind (wpAny_callSpecial?_slot (name := Str.ofString "__getitem__") ht.typeIs PyProof.Rows.slot_tuple_getitem
    (wpAny_call_entry PyProof.Rows.slot_tuple_getitem ht.typeIs entry_tuple_getitem ?_ (args_tuple_getitem _ _)))
  show wpAny _ _ (Builtin.Tuple.tupleItemsOf (.ref t) >>= _) _ _ s
  refine wpAny_bind (tupleItemsOf_ ht ?_)
  refine wpAny_bind (wpAny_typeOf hTs ?_)
  rw [if_pos (by decide)]
  refine wpAny_bind (sliceApplied_by hs pl pu ps h0 ha hm ?_)
  show wpAny _ _ (if (a == 0 && st == 1 && m == items.size) = true then _ else _) _ _ s
  rw [if_neg (by rw [h1, Bool.and_false, Bool.false_and]; exact Bool.false_ne_true), hL]
  first
    | exact wpAny_bind (m := Builtin.Tuple.tupleExact _) (wpAny_newObj_type (wpAny_pure ⟨_, rfl, wpAny_pure h⟩) htake)
    | exact wpAny_bind (m := Builtin.Tuple.tupleExact _) (wpAny_newObj_type (wpAny_bind (wpAny_pure (wpAny_pure ⟨_, rfl, wpAny_pure h⟩))) htake)
    | exact wpAny_bind (wpAny_bind (m := Builtin.Tuple.tupleExact _) (wpAny_newObj_type (wpAny_pure (wpAny_pure ⟨_, rfl, wpAny_pure h⟩)) htake))
    | exact wpAny_bind (wpAny_bind (m := Builtin.Tuple.tupleExact _) (wpAny_newObj_type (wpAny_pure ⟨_, rfl, wpAny_pure h⟩) htake))
end
theorem t21a : Builtin.Slice.sliceAdjust (some 2) (some 0) (-1) ((4 : Nat) : Int) = (2, 0) := by decide
theorem t21b : Builtin.Slice.slicePlaces 2 0 (-1) = 2 := by decide
theorem t21c (u0 u1 u2 u3 : Value) : ((List.range 2).filterMap fun (k : Nat) => ([u0, u1, u2, u3] : List Value).toArray[((2 : Int) + (k : Int) * (-1)).toNat]?) = [u2, u1] := by
  show List.filterMap _ [0, 1] = _
  simp
section
variable {X : Cx}
def tSl21 (K : PySem.W.Frag) (te : TE) : TE := fun σ H Q => te σ H fun x H1 => ∃ a x0 x1 x2 x3, x = .ref a ∧ SqT K H1 a [x0, x1, x2, x3] ∧ ∀ p, H1 p = none → Q (.ref p) (upd H1 p (.tup [x2, x1]))
theorem pe_sl21 {e : Expr} {te : TE} {k k2 k3 : Nat} {p1 p2 p3 p4 p5 pos : Pos} (he : PE X e te) : PE X (.Subscript e (.Slice (some (.Constant (.int 2) k2 p4)) (some (.Constant (.int 0) k3 p5)) (some (.UnaryOp .USub (.Constant (.int 1) k p1) p2)) p3) pos) (tSl21 X.K te) := by
  refine ⟨fun pins s σ H Q I h => ?_⟩
  refine Subscript_ (thn (he.run pins s σ H _ I h) fun v s1 ⟨x, H1, I1, r1, q1⟩ => ?_)
  obtain ⟨a, x0, x1, x2, x3, ex, hx, q⟩ := q1
  subst ex
  cases r1
  have hst : PO X (some (.UnaryOp .USub (.Constant (.int 1) k p1) p2)) (tPart (tUn (rU fun i => .int (-i)) (tC (.int 1)))) := po_some (pe_un un_neg pe_int)
  have h2 : PO X (some (.Constant (.int 2) k2 p4)) (tPart (tC (.int 2))) := po_some pe_int
  have h3 : PO X (some (.Constant (.int 0) k3 p5)) (tPart (tC (.int 0))) := po_some pe_int
  refine wpAny_Slice (thn (h2.run pins s1 σ H1 (fun o H2 => o = some 2 ∧ H2 = H1) I1 ⟨2, rfl, rfl, rfl⟩) fun vl s2 ⟨l, H2, I2, pl, el, e2⟩ => ?_)
  subst el e2
  refine thn (h3.run pins s2 σ H2 (fun o H3 => o = some 0 ∧ H3 = H2) I2 ⟨0, rfl, rfl, rfl⟩) fun vu s3 ⟨u, H3, I3, pu, eu, e3⟩ => ?_
  subst eu e3
  refine thn (hst.run pins s3 σ H3 (fun o H4 => o = some (-1) ∧ H4 = H3) I3 ⟨1, rfl, -1, rfl, rfl, rfl⟩) fun vs s4 ⟨o, H4, I4, ps, eo, e4⟩ => ?_
  subst eo e4
  have I5 : Inv X pins σ H4 { s4 with heap := s4.heap.push { cls := .type "slice", data := .fields #[vl, vu, vs] } } := I4.kept (t' := s4.toks) fun b ob q => Heap.get?_push_of_some _ q
  obtain ⟨its, r, ht, hz⟩ := I5.tuple hx
  obtain ⟨u0, u1, u2, u3, rfl, r1', r2'⟩ : ∃ u0 u1 u2 u3, its = [u0, u1, u2, u3] ∧ RelV x1 u1 ∧ RelV x2 u2 := by
    cases r with
    | cons r0 r => cases r with
      | cons r1 r => cases r with
        | cons r2 r => cases r with
          | cons r3 r => cases r; exact ⟨_, _, _, _, rfl, r1, r2⟩
  · skip
    show wpAny (model X.prog X.w) X.A (subscriptTail e (.Slice (some (.Constant (.int 2) k2 p4)) (some (.Constant (.int 0) k3 p5)) (some (.UnaryOp .USub (.Constant (.int 1) k p1) p2)) p3) (.ref a) (.ref s4.heap.objs.size)) (EP X pins σ Q) X.xe { s4 with heap := s4.heap.push { cls := .type "slice", data := .fields #[vl, vu, vs] } }
    refine tail_any (ops := [.ref a, .ref s4.heap.objs.size]) ht.typeIs (PyProof.Rows.slot_tuple_getitem.lookup) ?_ (by with_unfolding_all rfl)
    refine getItem_tuple_by (L := [u2, u1]) (a := 2) (b := 0) (m := 2) ht (Heap.IsSliceOf.new _ vl vu vs) pl pu ps (by decide) (by decide) t21a t21b (t21c u0 u1 u2 u3) ?_ (by rw [sizeLine_eq]; show 2 ≤ _; omega)
    refine ⟨.ref _, _, I5.laid (t' := s4.toks) (o := .tup [x2, x1]) (fun b ob q => Heap.get?_push_of_some _ q) (Nat.le_refl _) ?_, rfl, q _ (I5.hok.fresh (Nat.le_refl _))⟩
    exact ⟨by rw [sizeLine_eq]; show 2 ≤ _; omega, _, .cons r2' (.cons r1' .nil), _, Heap.get?_push_size _ rfl, rfl, 0, rfl⟩
end
section
variable {K : PySem.W.Frag} {R : RK} {Wc : WX}
def wSl21 (we : WE') : WE' := fun l μ Q X => we l μ (fun x μ1 => ∃ x0 x1 x2 x3, isT x [x0, x1, x2, x3] ∧ newT [x2, x1] μ1 Q) X
theorem d_sl21 {te : TE} {we : WE'} (he : DE K R Wc te we) : DE K R Wc (tSl21 K te) (wSl21 we) := ⟨fun A H μ σ l Qc Q X W L kq kx h =>
  he.run A H μ σ l _ _ X W L (fun A1 H1 μ1 x ax s1 W1 r1 ⟨x0, x1, x2, x3, hx, q1⟩ => by
    obtain ⟨a, vs, rfl, h1, h2⟩ := r1.seqT W1 hx
    cases h2 with
    | cons g0 h2 => cases h2 with
      | cons g1 h2 => cases h2 with
        | cons g2 h2 => cases h2 with
          | cons g3 h2 => cases h2; exact ⟨a, _, _, _, _, rfl, h1, fun p hp => newT_ok W1 (kq.go s1) (.cons g2 (.cons g1 .nil)) hp q1⟩) kx h⟩
end
end Fv

/-! a list made longer by another; two readings of one text; lists within lists that may change, read as data. -/
namespace Fv
open PySem PySem.Spec PyProof.Rows L2
section
variable {K : PySem.W.Frag} {R : RK} {Wc : WX}
theorem DS.or {t : TS} {w1 w2 : WS'} (h1 : DS K R Wc t w1) (h2 : DS K R Wc t w2) : DS K R Wc t (fun D l μ => w1 D l μ ∨ w2 D l μ) := ⟨fun A H μ σ l Dc D W e r c q => q.elim (fun q => h1.run A H μ σ l Dc D W e r c q) (fun q => h2.run A H μ σ l Dc D W e r c q)⟩
theorem ownT_TL {n : Nat} {g : TGs} {vs : List Nat} (hs : OwnTs g vs) : OwnT (gTL K n g) vs := fun v σ H Q q => q.elim (fun q => .inl (ownT_tup hs v σ H Q q)) (fun q => .inr (let ⟨a, xs, e, h1, h2, q⟩ := q; ⟨a, xs, e, h1, h2, hs xs σ H Q q⟩))
def wExtend (wo : WE') (wa : WA') : WE' := fun l μ Q X => wo l μ (fun x μ1 => ∃ a xs, x = .ref a ∧ μ1 a = some (.lst xs) ∧ wa l μ1 (fun ys μ2 => ∃ y zs xs', ys = [y] ∧ μ2 a = some (.lst xs') ∧ isL μ2 y zs ∧ fullL y zs ∧ xs'.length + zs.length ≤ 100000 ∧ Q (.dat true .none) (updM μ2 a (.lst (xs' ++ zs)))) X) X
theorem d_extend {to : TE} {ta : TA} {wo : WE'} {wa : WA'} (ho : DE K R Wc to wo) (ha : DA K R Wc ta wa) : DE K R Wc (tBM K "list" rExtend to ta) (wExtend wo wa) := ⟨fun A H μ σ l Qc Q X W L kq kx h =>
  ho.run A H μ σ l _ _ X W L (fun A1 H1 μ1 x ax s1 W1 r1 ⟨a, xs, e, hm, q1⟩ => by
    subst e
    cases (show x = .ref a from r1)
    obtain ⟨n, hob, h1, vs, rfl, h2⟩ := W1.obs a _ hm
    refine ⟨.inl ⟨rfl, vs, SqL.of h1⟩, ha.run A1 H1 μ1 σ l _ _ X W1 (L.mono s1.grow) (fun A2 H2 μ2 ys ays s2 W2 r2 ⟨y, zs, xs', e2, hm2, hz, hf, hl, q2⟩ => ?_) (kx.go s1) q1⟩
    subst e2
    obtain ⟨u, rfl, ru⟩ := r2.one
    obtain ⟨n2, hob2, h3, vs2, rfl, h4⟩ := W2.obs a _ hm2
    obtain ⟨b, ws, rfl, h5, h6⟩ := ru.lstL W2 hz hf.1 hf.2
    obtain ⟨W3, s3⟩ := W2.mut hm2 (ho := .lst (vs2 ++ ws)) (o := .lst (xs' ++ zs)) ⟨_, rfl, h4.app h6⟩
    exact ⟨a, b, vs2, ws, rfl, rfl, h3, h5, by rw [h4.length, h6.length, sizeLine_eq]; omega, ((kq.go s1).go (s2.trans s3)).n W3 q2⟩) kx h⟩
/-- sorted(xs) of whole numbers -/
def bSorted (m : Bool) : List AV → MU → PQ → Prop := fun xs μ Q => ∃ (x : AV) (k : Bool) (ns : List Int), xs = [x] ∧ isL μ x (ns.map fun i => AV.dat k (.int i)) ∧ ∀ ns' : List Int, ns'.Perm ns → ns'.Pairwise (· ≤ ·) → newL m ((ns'.map PyData.int).map (AV.dat true)) μ Q
theorem cd_sorted {m : Bool} : CallD K R (rSortedI K) (bSorted m) := by
  rintro A H μ vs _ Qc Q W r kq ⟨x, k, ns, rfl, h, q⟩
  obtain ⟨v, rfl, r1⟩ := r.one
  obtain ⟨a, us, rfl, h1, h2⟩ := r1.seqL W h
  have e := rvs_ints h2
  subst e
  refine ⟨a, ns, rfl, h1, fun ns' p p1 p2 hp => ?_⟩
  have rv : RVs K A (ns'.map V.int) ((ns'.map PyData.int).map (AV.dat true)) := RVs.of_tr (TrAll.ints ns')
  exact newL_ok W kq rv hp (q ns' p1 p2)
/-! lists within lists that may change, as data -/
mutual
inductive IsDD (μ : MU) : AV → PyData → Prop
  | dat {k : Bool} {d : PyData} : IsDD μ (.dat k d) d
  | ref {a : Addr} {xs : List AV} {ds : List PyData} : μ a = some (.lst xs) → IsDDs μ xs ds → IsDD μ (.ref a) (.list ds)
inductive IsDDs (μ : MU) : List AV → List PyData → Prop
  | nil : IsDDs μ [] []
  | cons {x : AV} {d : PyData} {xs : List AV} {ds : List PyData} : IsDD μ x d → IsDDs μ xs ds → IsDDs μ (x :: xs) (d :: ds)
end
mutual
theorem IsDD.dq {A H : Hp} {μ : MU} (W : WW K R A H μ) : ∀ {v : V} {x : AV} {d : PyData}, IsDD μ x d → RV K A v x → Dq K H v d
  | _, _, _, .dat, r => Dq.mono W.sub r.dq
  | _, _, _, .ref (a := a) hm h, r => by
    obtain ⟨n, ho, h1, ws, rfl, h2⟩ := W.obs a _ hm
    cases (show _ = V.ref a from r)
    exact .lst (SqL.of h1) (IsDDs.dq W h h2)
theorem IsDDs.dq {A H : Hp} {μ : MU} (W : WW K R A H μ) : ∀ {vs : List V} {xs : List AV} {ds : List PyData}, IsDDs μ xs ds → RVs K A vs xs → DqAll K H vs ds
  | _, _, _, .nil, .nil => .nil
  | _, _, _, .cons h t, .cons r rs => .cons (IsDD.dq W h r) (IsDDs.dq W t rs)
end
end
end Fv

namespace Fv
open PySem PySem.Spec PyProof.Rows L2
/-! a def whose body needs to know that nothing guards its callers (repr) -/
structure FnOkG (P : Program) (w : World) (K : PySem.W.Frag) (mg : Str → Option Value) (base : Heap) (k : Nat) (f : Addr) (fd : FuncData) (ps : List Str) (sp : Sp) : Prop where
  len : ∀ vs H Q E, sp vs H Q E → vs.length = ps.length
  run : ∀ (A : Around) (outer : List Env) (s : Shared) (H : Hp) (args : Args) (us : List Value) (vs : List V) (Q : VK) (E : XK), A.guards = some [] → Room k A → Env0 P w K mg base A outer s H → BindsTo s fd args (ps.zip us) → Vals vs us → sp vs H Q E →
    codeAny (model P w) A (.call (.ref f) args) (CR CX0 outer P w H s Q E) s
def GoodG (P : Program) (w : World) (K : PySem.W.Frag) (mg : Str → Option Value) (base : Heap) (k : Nat) (nm : Str) (ps : List Str) (sp : Sp) : Prop :=
  ∃ (f : Addr) (fd : FuncData), mg nm = some (.ref f) ∧ PySem.W.keepIn K (.ref f) = true ∧ Binds K fd ps [] ∧ FnOkG P w K mg base k f fd ps sp
section
variable {X : Cx} {k : Nat} {f : Addr} {fd : FuncData} {ps : List Str} {sp : Sp} {dvs : List V} {ds : List Value} {E : XK} {x : Str} {p pos : Pos} {e : Expr} {es : List Expr} {t : TA}
theorem pe_callG (hgd : X.A.guards = some []) (F : FnOkG X.prog X.w X.K X.mg X.base k f fd ps sp) (hr : Room k X.A) (hg : Gl X x) (hm : X.mg x = some (.ref f)) (hk : PySem.W.keepIn X.K (.ref f) = true) (hb : Binds X.K fd ps ds) (hd : Vals dvs ds) (hx : Passes CX0 X E)
    (ha : PA X (e :: es) t) (hdb : (x == ("__debug__" : Str)) = false := by decide) (he : starEach (e :: es) X.env = (false, eval e X.env) :: starEach es X.env := by rfl) (hpl : (backTo pos (starEach es X.env)).any (·.1) = false := by rfl) :
    PE X (.Call (.Name x p) (e :: es) [] pos) (tCall sp dvs E t) := by
  refine ⟨fun pins s σ H Q I h => wpAny_Call_Name_kw (ld_glob I hg hm ?_ hdb)⟩
  refine PySem.W.callWith_K (h₀ := X.base) I.ok.mod.kin hk (thn (ha.run pos pins s σ H _ I h) fun us s1 ⟨vs, H1, I1, r, q⟩ => ⟨I1.kIn, ?_⟩) he hpl
  have r2 : Vals (vs ++ dvs) (us ++ ds) := r.append hd
  refine wpAny_call (codeAny_mono (F.run X.A X.stack s1 H1 ⟨us, []⟩ (us ++ ds) (vs ++ dvs) Q E hgd hr I1.env0 (hb s1 us I1.kIn (by rw [← r2.length]; exact F.len _ _ _ _ q)) r2 q) fun z s' hq => ?_)
  cases z with
  | error e => exact hx pins σ H1 s1 e s' I1 hq
  | ok fl => cases fl <;> first | exact I1.after hq | exact False.elim hq
end
section
variable {P : Program} {w : World} {K : PySem.W.Frag} {R : RK} {mg : Str → Option Value} {base : Heap}
theorem Fun.okG {x qual : Str} {st : Stmt} {f : Addr} {fd : FuncData} {N ps : List Str} {k : Nat} {sp : Sp} (F : Fun K x qual st f fd) (S : FnScope N ps (defScope st)) (len : ∀ vs H Q E, sp vs H Q E → vs.length = ps.length)
    (hbody : ∀ (cdv : Value) (A : Around) (outer : List Env) (s : Shared) (H : Hp) (vs : List V) (Q : VK) (E : XK), A.guards = some [] → Room k (A.deeper (envOfC qual (defScope st) s.heap.objs.size f cdv)) → sp vs H Q E →
      ∃ t, PSs (cxOf CX0 P w K mg base N qual (defScope st) f cdv A outer s H E).nox (defBody st) t ∧ t { nx := fun _ H' => Q .non H', rt := Q } (start N vs) H) : FnOkG P w K mg base (k + 1) f fd ps sp := by
  obtain ⟨oc, od, kV, doc, pm, an, cdv, ct, osl, rfl, lk, hcd⟩ := F.ex
  refine ⟨len, fun A outer s H args us vs Q E hgd hr en hb r hsp => ?_⟩
  have KX : K.In s.heap := en.mod.kin.keeps fun b o e => (en.bs b o e).1
  refine codeAny_call_function hr.depth (KX _ _ lk) rfl S.co S.gen rfl (PySem.W.codeRec_of KX hcd) (hb _ _ _ _ (wpAny_newFunctionEnv_cells S.kind (fun ⟨n, v⟩ hy => ?_) fun env he s1 x => ?_))
  · rcases S.par n (List.of_mem_zip hy).1 with q | q
    · exact .inl q
    · exact .inr ⟨q, PySem.W.cellsFrom_some _ _ _ (.inl q)⟩
  · subst he
    refine ⟨(en.mod.nolimit.keeps fun b o e => (en.bs b o e).1).keeps x.toInCall.keep, codeAny_func ?_⟩
    obtain ⟨t, ht, hq⟩ := hbody cdv A outer s H vs Q E hgd (hr.deeper _) hsp
    have I := inv_start (CX := CX0) (E := E) S hr.hd en (len _ _ _ _ hsp) r x
    refine wpAny_mono (ht.nox.run [] s1 (start N vs) H _ I hq) (fun fl s' hs => ?_) fun e s' hs => hs
    cases fl with
    | ret u => obtain ⟨v, σ', H', J, rv, q⟩ := hs; exact ⟨v, H', J.os, J.bare, J.base, J.hok, rv, q⟩
    | next => obtain ⟨σ', H', J, q⟩ := hs; exact ⟨V.non, H', J.os, J.bare, J.base, J.hok, rfl, q⟩
    | brk => obtain ⟨_, _, _, q⟩ := hs; exact False.elim q
    | cont => obtain ⟨_, _, _, q⟩ := hs; exact False.elim q
theorem GoodGD.of {nm : Str} {st : Stmt} {N ps : List Str} {k : Nat} {f : FD} (D : DefAt K mg nm st ps) (S : FnScope N ps (defScope st)) (len : ∀ avs μ P X, f avs μ P X → avs.length = ps.length)
    (hbody : ∀ (fa : Addr) (cdv : Value) (A : Around) (outer : List Env) (s : Shared) (H : Hp) (E : XK), A.guards = some [] → Room k (A.deeper (envOfC nm (defScope st) s.heap.objs.size fa cdv)) →
      ∃ t, PSs (cxOf CX0 P w K mg base N nm (defScope st) fa cdv A outer s H E).nox (defBody st) t ∧ ∃ ws, DS K R (fun c d _ H => E c d H) t ws ∧ ∀ avs μ P X, f avs μ P X → ws (entry P X) (startA N.length avs) μ) :
    GoodG P w K mg base (k + 1) nm ps (spD K R f) := by
  obtain ⟨fa, fd, hm, F, hb⟩ := D
  refine ⟨fa, fd, hm, F.kp, hb, Fun.okG F S (fun vs H Q E ⟨A, μ, avs, Qa, X, W, rv, hf, _⟩ => by rw [rv.length]; exact len _ _ _ _ hf) fun cdv A outer s H vs Q E hgd hr h => ?_⟩
  obtain ⟨t, ht, ws, hd, hw⟩ := hbody fa cdv A outer s H E hgd hr
  exact ⟨t, ht, body_of hd hw h⟩
end
end Fv

/-! a comprehension whose items may change: lists of lists that may change -/
namespace Fv
open PySem PySem.Spec PyProof.Rows L2
section
variable {K : PySem.W.Frag} {R : RK} {Wc : WX} {A H : Hp} {μ : MU} {σ : L2.St}
/-- told by what holds behind each turn: the items so far, what may change -/
def lcOwn (wg : WG') (wt : WT') (we : WE') (vs : List Nat) (l : Loc) (μ : MU) (xs : List AV) (Q : PQ) : Prop :=
  xs.length < 100000 ∧ ∃ I : Nat → List AV → MU → Prop, I 0 [] μ ∧
    (∀ i x acc μ1, xs[i]? = some x → I i acc μ1 → wg x (wipeA l vs) μ1 (fun l2 μ2 => wt l2 μ2 (fun b μ3 => if b = true then we l2 μ3 (fun y μ4 => I (i + 1) (acc ++ [y]) μ4) noX else I (i + 1) acc μ3) noX)) ∧
    ∀ acc μ1, I xs.length acc μ1 → ∀ a, μ1 a = none → Q (.ref a) (updM μ1 a (.lst acc))
def LcPo (K : PySem.W.Frag) (R : RK) (A H : Hp) (μ : MU) (D : Addr) (I : Nat → List AV → MU → Prop) (i : Nat) (Hc : Hp) : Prop :=
  ∃ (A' : Hp) (acc : List V) (axs : List AV) (μ' : MU), Stp A H μ A' Hc μ' ∧ WW K R A' Hc μ' ∧ A' D = none ∧ μ' D = none ∧ Hc D = some (.lst acc) ∧ axs.length ≤ i ∧ I i axs μ' ∧ RVs K A' acc axs
theorem lco_start {D : Addr} {I : Nat → List AV → MU → Prop} (W : WW K R A H μ) (hD : H D = none) (h : I 0 [] μ) : LcPo K R A H μ D I 0 (upd H D (.lst [])) := by
  obtain ⟨W1, s1⟩ := W.own (p := D) (ho := .lst []) (o := .lst []) hD ⟨[], rfl, .nil⟩
  have n := W.free hD
  have lt : ∀ a o, μ a = some o → updM μ D (.lst []) a = some o := fun a o h => by
    rw [updM_ne (fun z => by rw [z, n.1] at h; cases h)]; exact h
  exact ⟨A, [], [], μ, s1.less lt, W1.less lt, n.2, n.1, upd_same, Nat.le_refl _, h, .nil⟩
theorem lco_turn {D : Addr} {I : Nat → List AV → MU → Prop} {l : Loc} {g : TG} {tt : TT} {te : TE} {wg : WG'} {wt : WT'} {we : WE'} {vs : List Nat} (hg : DG K R g wg) (ht : DT K R (fun _ _ _ _ => False) tt wt) (he : DE K R (fun _ _ _ _ => False) te we) (ow : OwnT g vs)
    (e : σ.length = l.length) (r : RL K A σ l) {i : Nat} {x : V} {ax : AV} {Hc : Hp} (hi : i < 100000) (hD : H D = none) (rx : RV K A x ax)
    (item : ∀ acc μ1, I i acc μ1 → wg ax (wipeA l vs) μ1 (fun l2 μ2 => wt l2 μ2 (fun b μ3 => if b = true then we l2 μ3 (fun y μ4 => I (i + 1) (acc ++ [y]) μ4) noX else I (i + 1) acc μ3) noX)) (p : LcPo K R A H μ D I i Hc) :
    g x (wipe σ vs) Hc fun σ2 H2 => wipe σ2 vs = wipe σ vs ∧ tt σ2 H2 fun b H3 => if b = true then te σ2 H3 fun y H4 => ∃ acc, H4 D = some (.lst acc) ∧ acc.length < sizeLine ∧ LcPo K R A H μ D I (i + 1) (upd H4 D (.lst (acc ++ [y]))) else LcPo K R A H μ D I (i + 1) H3 := by
  obtain ⟨A', acc, axs, μ', s, W, nA, nμ, eD, hz, hI, racc⟩ := p
  have hacc : acc.length ≤ i := by rw [racc.length]; exact hz
  have stay : ∀ {A2 H2 : Hp} {μ2 : MU}, Stp A' Hc μ' A2 H2 μ2 → H2 D = some (.lst acc) ∧ A2 D = none ∧ μ2 D = none := fun {A2 H2 μ2} s2 => by
    have n : Hc D ≠ none := by rw [eD]; simp
    refine ⟨by rw [s2.frame D n nμ, eD], ?_, ?_⟩
    · cases q : A2 D with
      | none => rfl
      | some o =>
        rcases s2.new D nA (by rw [q]; simp) with h | h
        · exact absurd h n
        · exact absurd nμ h
    · cases q : μ2 D with
      | none => rfl
      | some o => exact absurd nμ (s2.only D (by rw [q]; simp) n)
  have h1 : g x (wipe σ vs) Hc fun σ2 H2 => tt σ2 H2 fun b H3 => if b = true then te σ2 H3 fun y H4 => ∃ acc, H4 D = some (.lst acc) ∧ acc.length < sizeLine ∧ LcPo K R A H μ D I (i + 1) (upd H4 D (.lst (acc ++ [y]))) else LcPo K R A H μ D I (i + 1) H3 := by
    refine hg.run A' Hc μ' (wipe σ vs) (wipeA l vs) x ax _ _ W (by rw [wipe_length, wipeA_length, e]) ((r.wipe e vs).mono s.grow) (rx.mono s.grow) (fun A2 H2 μ2 σ2 l2 s2 W2 e2 r2 q => ?_) (item axs μ' hI)
    refine ht.run A2 H2 μ2 σ2 l2 _ _ noX W2 r2 (fun A3 H3 μ3 b s3 W3 q3 => ?_) (fun _ _ _ _ _ _ z => z.elim) q
    cases b with
    | false =>
      rw [if_neg Bool.false_ne_true] at q3 ⊢
      have s23 := s2.trans s3
      obtain ⟨k1, k2, k3⟩ := stay s23
      exact ⟨A3, acc, axs, μ3, s.trans s23, W3, k2, k3, k1, by omega, q3, racc.mono s23.grow⟩
    | true =>
      rw [if_pos rfl] at q3 ⊢
      refine he.run A3 H3 μ3 σ2 l2 _ _ noX W3 (r2.mono s3.grow) (fun A4 H4 μ4 y ay s4 W4 ry q4 => ?_) (fun _ _ _ _ _ _ z => z.elim) q3
      have s24 := (s2.trans s3).trans s4
      obtain ⟨k1, k2, k3⟩ := stay s24
      refine ⟨acc, k1, sz_lt (by omega), A4, acc ++ [y], axs ++ [ay], μ4, (s.trans s24).priv hD, W4.priv k3 k2, k2, k3, upd_same, by rw [List.length_append]; show _ + 1 ≤ _; omega, q4, ?_⟩
      exact (racc.mono s24.grow).app (.cons ry .nil)
  have h2 := ow _ _ _ _ h1
  rw [wipe_wipe] at h2
  exact h2
theorem lco_end {D : Addr} {I : Nat → List AV → MU → Prop} {n : Nat} {Qc : VK} {Q : PQ} {Hc : Hp} (hD : H D = none) (kq : LQ K R A H μ Qc Q)
    (fin : ∀ acc μ1, I n acc μ1 → ∀ a, μ1 a = none → Q (.ref a) (updM μ1 a (.lst acc))) (p : LcPo K R A H μ D I n Hc) : Qc (.ref D) Hc := by
  obtain ⟨A', acc, axs, μ', s, W, nA, nμ, eD, hz, hI, racc⟩ := p
  have W1 : WW K R A' Hc (updM μ' D (.lst axs)) := ⟨W.sub, fun a o h => by
    by_cases z : a = D
    · subst z
      rw [updM_same] at h
      obtain rfl := Option.some.inj h
      exact ⟨nA, _, eD, acc, rfl, racc⟩
    · rw [updM_ne z] at h; exact W.obs a o h⟩
  have s1 : Stp A H μ A' Hc (updM μ' D (.lst axs)) := ⟨s.grow, s.frame, s.live, s.new, fun a h1 h2 => by
    by_cases z : a = D
    · exact absurd hD (by rw [← z]; exact h2)
    · rw [updM_ne z] at h1; exact s.only a h1 h2⟩
  exact kq _ _ _ _ (.ref D) s1 W1 rfl (fin axs μ' hI D nμ)
/-- over a list or a tuple of a local name -/
def wLcSO (i : Nat) (wg : WG') (wt : WT') (we : WE') (vs : List Nat) : WE' := fun l μ Q X => ∃ av xs, l[i]? = some (some av) ∧ (overL av xs ∨ overT av xs) ∧ lcOwn wg wt we vs l μ xs Q
theorem d_lcSO {i : Nat} {g : TG} {tt : TT} {te : TE} {wg : WG'} {wt : WT'} {we : WE'} {vs : List Nat} (hg : DG K R g wg) (ht : DT K R (fun _ _ _ _ => False) tt wt) (he : DE K R (fun _ _ _ _ => False) te we) (ow : OwnT g vs) :
    DE K R Wc (tLc (iSeq K (tVar i)) g tt te vs) (wLcSO i wg wt we vs) := ⟨fun A H μ σ l Qc Q X W L kq kx ⟨av, xs, hi, ho, hn, I, i0, step, fin⟩ => by
  obtain ⟨v, e, rv⟩ := L.at' i av hi
  rcases ho with ho | ho
  · obtain ⟨a, us, rfl, h1, h2⟩ := ho.at rv
    refine .inl ⟨_, e, a, rfl, ⟨us, W.sub.seq h1⟩, fun D hD => lc_list (K := K) (a := a) (xs := us) (LcPo K R A H μ D I) (lco_start W hD i0) (fun i H' _ ⟨A', acc, zs, μ', s, W', _⟩ => (s.grow.trans W'.sub).seq h1) (fun i x H' hx p => by
      have hi : i < xs.length := by rw [← h2.length]; exact (List.getElem?_eq_some_iff.mp hx).1
      obtain ⟨x', hx', rx⟩ := h2.of (List.getElem?_eq_getElem hi)
      obtain rfl := Option.some.inj (hx.symm.trans hx')
      exact lco_turn hg ht he ow L.len L (by omega) hD rx (fun acc μ1 => step i _ acc μ1 (List.getElem?_eq_getElem hi)) p) (fun H' p => ?_)⟩
    rw [h2.length] at p
    exact lco_end hD kq fin p
  · obtain ⟨a, us, rfl, h1, h2⟩ := ho.at rv
    refine .inr ⟨_, e, a, rfl, ⟨us, sqt_same W.sub h1⟩, fun D hD => lc_tup (K := K) (a := a) (xs := us) (LcPo K R A H μ D I) (lco_start W hD i0) (fun i H' _ ⟨A', acc, zs, μ', s, W', _⟩ => sqt_same (s.grow.trans W'.sub) h1) (fun i x H' hx p => by
      have hi : i < xs.length := by rw [← h2.length]; exact (List.getElem?_eq_some_iff.mp hx).1
      obtain ⟨x', hx', rx⟩ := h2.of (List.getElem?_eq_getElem hi)
      obtain rfl := Option.some.inj (hx.symm.trans hx')
      exact lco_turn hg ht he ow L.len L (by omega) hD rx (fun acc μ1 => step i _ acc μ1 (List.getElem?_eq_getElem hi)) p) (fun H' p => ?_)⟩
    rw [h2.length] at p
    exact lco_end hD kq fin p⟩
/-! over a list, that may change, of lists that may change -/
theorem rvs_refs {vs : List V} {bs : List Addr} (r : RVs K A vs (bs.map AV.ref)) : vs = bs.map V.ref := by
  induction bs generalizing vs with
  | nil => cases r; rfl
  | cons b bs ih =>
    cases r with
    | cons r1 r2 =>
      rw [ih r2, show _ = V.ref b from r1]; rfl
theorem refs_rvs : ∀ bs : List Addr, RVs K A (bs.map V.ref) (bs.map AV.ref)
  | [] => .nil
  | b :: bs => .cons rfl (refs_rvs bs)
theorem WW.refs {a : Addr} {bs : List Addr} (W : WW K R A H μ) (h : μ a = some (.lst (bs.map AV.ref))) : H a = some (.lst (bs.map V.ref)) := by
  obtain ⟨_, ho, h1, vs, rfl, h2⟩ := W.obs a _ h
  rw [h1, rvs_refs h2]
/-- for x in a list of such; the list stays as it is -/
def wForO (wl : WE') (wg : WG') (wb : WS') : WS' := fun D l μ => wl l μ (fun x μ1 => ∃ (a : Addr) (bs : List Addr), x = .ref a ∧ μ1 a = some (.lst (bs.map AV.ref)) ∧ ∃ Inv : Nat → Loc → MU → Prop, Inv 0 l μ1 ∧ (∀ i l' μ', Inv i l' μ' → μ' a = some (.lst (bs.map AV.ref))) ∧
  (∀ i b l' μ', bs[i]? = some b → Inv i l' μ' → wg (.ref b) l' μ' (fun l2 μ2 => wb (D.turn (Inv (i + 1))) l2 μ2)) ∧ ∀ l' μ', Inv bs.length l' μ' → D.nx l' μ') (fun c μ1 => D.xc c l μ1)
theorem ds_forO {tl : TE} {wl : WE'} {g : TG} {wg : WG'} {tb : TS} {wb : WS'} (hl : DE K R Wc tl wl) (hg : DG K R g wg) (hb : DS K R Wc tb wb) : DS K R Wc (tFor (iList K tl) g tb) (wForO wl wg wb) := ⟨fun A H μ σ l Dc D W e r c q =>
  hl.run A H μ σ l _ _ _ W r (fun A1 H1 μ1 v av s1 W1 rv ⟨a, bs, ea, ha, IV, i0, keep, step, fin⟩ => by
    subst ea
    cases (show v = .ref a from rv)
    have c1 := c.go s1
    refine ⟨a, rfl, ⟨_, SqL.of (W1.refs ha)⟩, for_list (K := K) (a := a) (xs := bs.map V.ref) (PvOf K R A1 H1 μ1 IV) ⟨A1, μ1, l, Stp.refl, W1, e, r.mono s1.grow, i0⟩ (fun i σ' H' _ ⟨A', μ', l', s, W', _, _, iv⟩ => SqL.of (W'.refs (keep i l' μ' iv))) (fun i x σ' H' hx p => ?_) (fun σ' H' ⟨A', μ', l', s, W', e', r', iv⟩ => ?_)⟩
    · rw [List.getElem?_map] at hx
      obtain ⟨b, hb2, rfl⟩ := Option.map_eq_some_iff.mp hx
      exact turn_ok (xs := bs.map AV.ref) hg hb c1 (refs_rvs bs) (fun i x l' μ' hx iv => by
        rw [List.getElem?_map] at hx
        obtain ⟨b, hb3, rfl⟩ := Option.map_eq_some_iff.mp hx
        exact step i b l' μ' hb3 iv) (i := i) (x := V.ref b) (ax := .ref b) (by rw [List.getElem?_map, hb2]; rfl) rfl p
    · rw [List.length_map] at iv
      exact c1.nx _ _ _ _ _ s W' e' r' (fin l' μ' iv)) (c.xc.lk e r) q⟩
/-- a comprehension over a list of such, of items that are data -/
def wLcRf (m : Bool) (wl : WE') (wg : WG') (wt : WT') (we : WE') (vs : List Nat) : WE' := fun l μ Q X => wl l μ (fun x μ1 => ∃ (a : Addr) (bs : List Addr), x = .ref a ∧ μ1 a = some (.lst (bs.map AV.ref)) ∧ lcAll m wg wt we vs l μ1 (bs.map AV.ref) Q) X
theorem d_lcRf {m : Bool} {tl : TE} {wl : WE'} {g : TG} {tt : TT} {te : TE} {wg : WG'} {wt : WT'} {we : WE'} {vs : List Nat} (hl : DE K R Wc tl wl) (hg : DG K R g wg) (ht : DT K R (fun _ _ _ _ => False) tt wt) (he : DE K R (fun _ _ _ _ => False) te we) (ow : OwnT g vs) :
    DE K R Wc (tLc (iList K tl) g tt te vs) (wLcRf m wl wg wt we vs) := ⟨fun A H μ σ l Qc Q X W L kq kx q =>
  hl.run A H μ σ l _ _ X W L (fun A1 H1 μ1 v av s1 W1 rv ⟨a, bs, ea, ha, hn, rel, item, fin⟩ => by
    subst ea
    cases (show v = .ref a from rv)
    have r1 := L.mono s1.grow
    refine ⟨a, rfl, ⟨_, SqL.of (W1.refs ha)⟩, fun D hD => lc_list (K := K) (a := a) (xs := bs.map V.ref) (LcPv K R A1 H1 μ1 D rel) (lc_start W1 hD) (fun i H' _ ⟨A', acc, zs, s, W', _⟩ => SqL.of (W'.refs ha)) (fun i x H' hx p => ?_) (fun H' p => ?_)⟩
    · rw [List.getElem?_map] at hx
      obtain ⟨b, hb2, rfl⟩ := Option.map_eq_some_iff.mp hx
      have hi : i < (bs.map AV.ref).length := by rw [List.length_map]; exact (List.getElem?_eq_some_iff.mp hb2).1
      exact lc_turn hg ht he ow W1 r1.len r1 (by omega) hD (x := V.ref b) (ax := .ref b) rfl (item i _ (by rw [List.getElem?_map, hb2]; rfl)) p
    · rw [List.length_map] at p
      refine lc_end (m := m) W1 hD (kq.go s1) (fun zs hz hr => fin zs (by rw [hz, List.length_map]) hr) p) kx q⟩
/-! lists of lists that may change, lent to a def that changes nothing but the tables of code -/
def isTabO : Option OB → Bool | some (.tab _) => true | _ => false
def isLstO : Option OB → Bool | some (.lst _) => true | _ => false
def lentA (A H : Hp) (μ : MU) : Hp := fun b => if isLstO (μ b) = true then H b else A b
def lentM (μ : MU) : MU := fun b => if isTabO (μ b) = true then μ b else none
inductive Deep (μ : MU) : List Addr → List (List PyData) → Prop
  | nil : Deep μ [] []
  | cons {b : Addr} {ds : List PyData} {bs : List Addr} {dss : List (List PyData)} : μ b = some (.lst (ds.map (AV.dat true))) → Deep μ bs dss → Deep μ (b :: bs) (ds :: dss)
inductive LentT (μ : MU) : List AV → List AV → Prop
  | nil : LentT μ [] []
  | keep {x : AV} {xs ys : List AV} : LentT μ xs ys → LentT μ (x :: xs) (x :: ys)
  | deep {a : Addr} {bs : List Addr} {dss : List (List PyData)} {xs ys : List AV} : μ a = some (.lst (bs.map AV.ref)) → Deep μ bs dss → LentT μ xs ys → LentT μ (.ref a :: xs) (.dat true (.list (dss.map PyData.list)) :: ys)
theorem lentA_same (W : WW K R A H μ) : Same A (lentA A H μ) := fun b o e => by
  unfold lentA
  split
  · exact W.sub b o e
  · exact e
theorem lentA_lst {a : Addr} {xs : List AV} (W : WW K R A H μ) (h : μ a = some (.lst xs)) : lentA A H μ a = H a := by
  unfold lentA
  rw [h]; exact if_pos rfl
theorem deep_rvs (W : WW K R A H μ) : ∀ {bs : List Addr} {dss : List (List PyData)}, Deep μ bs dss → RVs K (lentA A H μ) (bs.map V.ref) ((dss.map PyData.list).map (AV.dat true))
  | _, _, .nil => .nil
  | _, _, .cons (b := b) (ds := ds) h r => by
    obtain ⟨_, ho, h1, ws, rfl, h2⟩ := W.obs b _ h
    refine .cons ?_ (deep_rvs W r)
    exact Tr.lst ((lentA_lst W h).trans h1) (RVs.tr (RVs.mono (lentA_same W) h2) (dats_map _) (all_frT _))
theorem LentT.rvs (W : WW K R A H μ) : ∀ {xs ys : List AV} {us : List V}, LentT μ xs ys → RVs K A us xs → RVs K (lentA A H μ) us ys
  | _, _, _, .nil, .nil => .nil
  | _, _, _, .keep h, .cons r t => .cons (RV.mono (lentA_same W) r) (LentT.rvs W h t)
  | _, _, _, .deep (a := a) (bs := bs) hm hd h, .cons r t => by
    refine .cons ?_ (LentT.rvs W h t)
    cases (show _ = V.ref a from r)
    exact Tr.lst ((lentA_lst W hm).trans (W.refs hm)) (RVs.tr (deep_rvs W hd) (dats_map _) (all_frT _))
theorem lent_ww (W : WW K R A H μ) : WW K R (lentA A H μ) H (lentM μ) := ⟨fun b o e => by
  unfold lentA at e
  split at e
  · exact e
  · exact W.sub b o e, fun a o e => by
  unfold lentM at e
  split at e
  · rename_i ht
    obtain ⟨h1, ho, h2, h3⟩ := W.obs a o e
    refine ⟨?_, ho, h2, RO.mono (lentA_same W) h3⟩
    unfold lentA
    rw [if_neg]
    · exact h1
    · rw [e] at ht ⊢
      cases o <;> first | (cases ht; done) | (intro z; cases z)
  · cases e⟩
def wCallT (f : FD) (wa : WA') : WE' := fun l μ Q X => wa l μ (fun xs μ1 => ∃ ys, LentT μ1 xs ys ∧ f ys (lentM μ1) (fun av μ2 => (∃ k d, av = .dat k d ∧ flatD d = true) ∧ μ2 = lentM μ1 ∧ Q av μ1) noX) X
theorem d_callT {f : FD} {ta : TA} {wa : WA'} (ha : DA K R Wc ta wa) : DE K R Wc (tCall (spD K R f) [] E0 ta) (wCallT f wa) := ⟨fun A H μ σ l Qc Q X W L kq kx h =>
  ha.run A H μ σ l _ _ X W L (fun A1 H1 μ1 xs axs s1 W1 r1 ⟨ys, hl, q1⟩ => by
    show spD K R f (xs ++ []) H1 Qc E0
    rw [List.append_nil]
    refine ⟨lentA A1 H1 μ1, lentM μ1, ys, _, noX, lent_ww W1, hl.rvs W1 r1, q1, fun A' H' μ' v av s W' r ⟨⟨k, d, e, hf⟩, em, q2⟩ => ?_, fun _ _ _ _ _ _ z => z.elim⟩
    subst e em
    have notTab : ∀ b, isTabO (μ1 b) = false → lentM μ1 b = none := fun b h => by unfold lentM; rw [h]; rfl
    have A3d : ∀ b, μ1 b = none → lentA A1 H1 μ1 b = A1 b := fun b h => by unfold lentA; rw [h]; rfl
    have sub3 : Same A1 (fun b => if (μ1 b).isSome = true then none else A' b) := fun b o e => by
      have nb : μ1 b = none := by
        cases q : μ1 b with
        | none => rfl
        | some u => have := (W1.obs b u q).1; rw [this] at e; cases e
      show (if (μ1 b).isSome = true then none else A' b) = some o
      rw [nb, if_neg (by decide)]
      exact s.grow b o (by rw [A3d b nb]; exact e)
    have W3 : WW K R (fun b => if (μ1 b).isSome = true then none else A' b) H' μ1 := ⟨fun b o e => by
      have e : (if (μ1 b).isSome = true then none else A' b) = some o := e
      split at e
      · cases e
      · exact W'.sub b o e, fun a o e => by
      refine ⟨show (if (μ1 a).isSome = true then none else A' a) = none by rw [e]; rfl, ?_⟩
      obtain ⟨h1, ho, h2, h3⟩ := W1.obs a o e
      cases ht : isTabO (μ1 a) with
      | false => exact ⟨ho, by rw [s.frame a (by rw [h2]; simp) (notTab a ht)]; exact h2, RO.mono sub3 h3⟩
      | true =>
        have e2 : lentM μ1 a = some o := by unfold lentM; rw [ht, if_pos rfl]; exact e
        obtain ⟨k1, ho2, k2, k3⟩ := W'.obs a o e2
        refine ⟨ho2, k2, ?_⟩
        rw [e] at ht
        cases o with
        | tab q =>
          obtain ⟨ps, p1, p2, p3⟩ := k3
          refine ⟨ps, p1, p2, fun pos cv z => ?_⟩
          obtain ⟨c, e3, e4⟩ := p3 pos cv z
          refine ⟨c, e3, ?_⟩
          show (if (μ1 c).isSome = true then none else A' c) = _
          cases hc : μ1 c with
          | none => rw [if_neg (by decide)]; exact e4
          | some u =>
            exfalso
            obtain ⟨c1, hc2, c2, c3⟩ := W1.obs c u hc
            cases tu : isTabO (μ1 c) with
            | true =>
              have := (W'.obs c u (by unfold lentM; rw [tu, if_pos rfl]; exact hc)).1
              rw [this] at e4; cases e4
            | false =>
              cases lu : isLstO (μ1 c) with
              | true =>
                have g : A' c = some hc2 := s.grow c hc2 (by unfold lentA; rw [lu, if_pos rfl]; exact c2)
                rw [g] at e4
                have e5 := Option.some.inj e4
                rw [hc] at lu
                cases u <;> first | (cases lu; done) | skip
                obtain ⟨vs, d1, _⟩ := c3
                rw [d1] at e5
                unfold LamX.CodeO at e5
                cases e5
              | false =>
                have g : lentA A1 H1 μ1 c = none := by unfold lentA; rw [lu, if_neg (by decide)]; exact c1
                rcases s.new c g (by rw [e4]; simp) with z1 | z1
                · rw [c2] at z1; cases z1
                · exact z1 (notTab c tu)
        | _ => cases ht⟩
    have s3 : Stp A1 H1 μ1 (fun b => if (μ1 b).isSome = true then none else A' b) H' μ1 := ⟨sub3, fun a h1 h2 => s.frame a h1 (notTab a (by rw [h2]; rfl)), s.live, fun a h1 h2 => by
      have h2 : (if (μ1 a).isSome = true then none else A' a) ≠ none := h2
      cases q : μ1 a with
      | some u => exact .inr (by simp)
      | none =>
        rw [q, if_neg (by decide)] at h2
        rcases s.new a (by rw [A3d a q]; exact h1) h2 with z | z
        · exact .inl z
        · exact absurd (notTab a (by rw [q]; rfl)) z, fun a h1 _ => h1⟩
    exact (kq.go s1) _ _ _ _ _ s3 W3 (rv_flat r hf) q2) kx h⟩
end
end Fv

/-! repr of a list, that may change, of lists that may change -/
namespace Fv
open PySem PySem.Spec PyProof.Rows L2
section
variable {K : PySem.W.Frag} {R : RK}
def bReprN : List AV → MU → PQ → Prop := fun xs μ Q => ∃ (x : AV) (k : Bool) (d : PyData), xs = [x] ∧ LentT μ [x] [.dat k d] ∧ d.showable = true ∧ d.depth ≤ 64 ∧ d.shown.length ≤ sizeLine ∧ Q (.dat true (.str d.shown)) μ
theorem cd_reprN : CallD K R (rReprQ K) bReprN := by
  rintro A H μ vs axs Qc Q W r kq ⟨x, k, d, rfl, hl, h1, h2, h3, q⟩
  obtain ⟨v, rfl, r1⟩ := r.one
  have r2 := hl.rvs W r
  cases r2 with
  | cons r3 _ => exact ⟨v, d, rfl, (RV.mono (lent_ww W).sub r3).dq, h1, h2, h3, kq.s W q⟩
variable {Wc : WX}
def wReverse (wo : WE') : WE' := fun l μ Q X => wo l μ (fun x μ1 => ∃ a xs, x = .ref a ∧ μ1 a = some (.lst xs) ∧ Q (.dat true .none) (updM μ1 a (.lst xs.reverse))) X
theorem d_reverse {to : TE} {wo : WE'} (ho : DE K R Wc to wo) : DE K R Wc (tBM K "list" rReverse to tNil) (wReverse wo) := ⟨fun A H μ σ l Qc Q X W L kq kx h =>
  ho.run A H μ σ l _ _ X W L (fun A1 H1 μ1 x ax s1 W1 r1 ⟨a, xs, e, hm, q1⟩ => by
    subst e
    cases (show x = .ref a from r1)
    obtain ⟨n, hob, h1, vs, rfl, h2⟩ := W1.obs a _ hm
    obtain ⟨W3, s3⟩ := W1.mut hm (ho := .lst vs.reverse) (o := .lst xs.reverse) ⟨_, rfl, RVs.rev h2⟩
    exact ⟨.inl ⟨rfl, vs, SqL.of h1⟩, a, vs, rfl, rfl, h1, ((kq.go s1).go s3).n W3 q1⟩) kx h⟩
end
end Fv

/-! xs[::s] of a list of two, s 1 or -1 as it comes -/
namespace Fv
open PySem PySem.Spec PyProof.Rows L2
section
variable {X : Cx}
def tStepL (K : PySem.W.Frag) (te ts : TE) : TE := fun σ H Q => te σ H fun x H1 => ∃ a, x = .ref a ∧ ts σ H1 fun y H2 => ∃ (b : Bool) (x0 x1 : V), y = .int (if b = true then -1 else 1) ∧ SqL K H2 a [x0, x1] ∧ ∀ p, H2 p = none → Q (.ref p) (upd H2 p (.lst (if b = true then [x1, x0] else [x0, x1])))
theorem pick_one (u0 u1 : Value) : slicePick (#[u0, u1] : Array Value) none none (some 1) = #[u0, u1] := by
  unfold slicePick
  simp [Builtin.Slice.sliceAdjust, Builtin.Slice.slicePlaces]
  rfl
theorem two_le : 2 ≤ sizeLine := by decide
theorem pe_stepL {e se : Expr} {te ts : TE} {p3 pos : Pos} (he : PE X e te) (hse : PE X se ts) : PE X (.Subscript e (.Slice none none (some se) p3) pos) (tStepL X.K te ts) := by
  refine ⟨fun pins s σ H Q I h => ?_⟩
  refine Subscript_ (thn (he.run pins s σ H _ I h) fun v s1 ⟨x, H1, I1, r1, a, ex, q⟩ => ?_)
  subst ex
  cases r1
  refine wpAny_Slice (thn (po_none.run pins s1 σ H1 (fun o H2 => o = none ∧ H2 = H1) I1 ⟨rfl, rfl⟩) fun vl s2 ⟨l, H2, I2, pl, el, e2⟩ => ?_)
  subst el e2
  refine thn (po_none.run pins s2 σ H2 (fun o H3 => o = none ∧ H3 = H2) I2 ⟨rfl, rfl⟩) fun vu s3 ⟨u, H3, I3, pu, eu, e3⟩ => ?_
  subst eu e3
  refine thn (hse.run pins s3 σ H3 _ I3 q) fun vs s4 ⟨y, H4, I4, ry, b, x0, x1, ey, hx4, q4⟩ => ?_
  subst ey
  obtain ⟨t, rfl⟩ := ry
  have I5 : Inv X pins σ H4 { s4 with heap := s4.heap.push { cls := .type "slice", data := .fields #[vl, vu, .int (if b = true then -1 else 1) t] } } := I4.kept (t' := s4.toks) fun c ob q => Heap.get?_push_of_some _ q
  obtain ⟨its, r, ht, hz⟩ := I5.list hx4
  obtain ⟨u0, u1, rfl, r0, r1'⟩ := vals2 r
  show wpAny (model X.prog X.w) X.A (subscriptTail e (.Slice none none (some se) p3) (.ref a) (.ref s4.heap.objs.size)) (EP X pins σ Q) X.xe { s4 with heap := s4.heap.push { cls := .type "slice", data := .fields #[vl, vu, .int (if b = true then -1 else 1) t] } }
  refine tail_any (ops := [.ref a, .ref s4.heap.objs.size]) ht.isList.typeIs (PySem.slot_list_getitem.lookup) (wpAny_getItem_list_slice ht.isList (Heap.IsSliceOf.new _ vl vu _) pl pu (.int _ t) (by cases b <;> decide) ?_ (by rw [List.size_toArray]; exact hz)) (by with_unfolding_all rfl)
  have res : slicePick ([u0, u1] : List Value).toArray none none (some (if b = true then -1 else 1)) = (if b = true then [u1, u0] else [u0, u1]).toArray := by
    cases b with
    | false => exact pick_one u0 u1
    | true =>
      rw [if_pos rfl, PySem.W.krv_pick]; rfl
  rw [res]
  refine ⟨.ref _, _, I5.laid (t' := s4.toks) (o := .lst (if b = true then [x1, x0] else [x0, x1])) (fun c ob q => Heap.get?_push_of_some _ q) (Nat.le_refl _) ?_, rfl, q4 _ (I5.hok.fresh (Nat.le_refl _))⟩
  cases b with
  | false => exact ⟨two_le, _, 0, .cons r0 (.cons r1' .nil), Heap.get?_push_size _ rfl⟩
  | true => exact ⟨two_le, _, 0, .cons r1' (.cons r0 .nil), Heap.get?_push_size _ rfl⟩
end
section
variable {K : PySem.W.Frag} {R : RK} {Wc : WX}
def wStepL (m : Bool) (we ws : WE') : WE' := fun l μ Q X => we l μ (fun x μ1 => ∃ (k : Bool) (d0 d1 : PyData), x = .dat k (.list [d0, d1]) ∧ ws l μ1 (fun y μ2 => ∃ b : Bool, isI y (if b = true then -1 else 1) ∧ newL m ((if b = true then [d1, d0] else [d0, d1]).map (AV.dat k)) μ2 Q) X) X
theorem d_stepL {m : Bool} {te ts : TE} {we ws : WE'} (he : DE K R Wc te we) (hs : DE K R Wc ts ws) : DE K R Wc (tStepL K te ts) (wStepL m we ws) := ⟨fun A H μ σ l Qc Q X W L kq kx h =>
  he.run A H μ σ l _ _ X W L (fun A1 H1 μ1 x ax s1 W1 r1 ⟨k, d0, d1, ex, q1⟩ => by
    subst ex
    obtain ⟨a, _, rfl, _, _⟩ := r1.seqL W1 (xs := [.dat k d0, .dat k d1]) (show isL μ1 (.dat k (.list [d0, d1])) _ from rfl)
    refine ⟨a, rfl, hs.run A1 H1 μ1 σ l _ _ X W1 (L.mono s1.grow) (fun A2 H2 μ2 y ay s2 W2 r2 ⟨b, hb, q4⟩ => ?_) (kx.go s1) q1⟩
    obtain ⟨_, vs, e, h1, h2⟩ := (r1.mono s2.grow).seqL W2 (xs := [.dat k d0, .dat k d1]) (show isL μ2 (.dat k (.list [d0, d1])) _ from rfl)
    cases e
    obtain ⟨v0, v1, rfl, q2, q3⟩ := h2.two
    refine ⟨b, v0, v1, r2.i hb, h1, fun p hp => ?_⟩
    have rr : RVs K A2 (if b = true then [v1, v0] else [v0, v1]) ((if b = true then [d1, d0] else [d0, d1]).map (AV.dat k)) := by
      cases b with
      | false => exact .cons q2 (.cons q3 .nil)
      | true => exact .cons q3 (.cons q2 .nil)
    exact newL_ok W2 (kq.go (s1.trans s2)) rr hp q4) kx h⟩
end
end Fv

/-! enumerate over a text; zip of two texts -/
namespace Fv
open PySem PySem.Spec PyProof.Rows L2
def sgV (c : Nat) : V := .str ⟨#[c]⟩
def IteS (x : Str) : It :=
  ⟨fun i _ => i < x.cps.size, fun i H v H' => ∃ T c, x.cps[i]? = some c ∧ v = .ref T ∧ H T = none ∧ H' = upd H T (.tup [.int (i : Nat), .str ⟨#[c]⟩]), fun i _ => x.cps.size = i⟩
theorem turn_enS {P : Program} {w : World} {K : PySem.W.Frag} {elts : List Expr} {kk : Nat} {tpos : Pos} (x : Str) (t : Tok) (e it : Addr) :
    Turn P w K (.Tuple elts kk tpos) (IteS x) [e, it] e (fun i h => (∃ old, IsEnum h e it ((i : Nat) : Int) old) ∧ h.IsStrIter it (strIterType x) x t i ∧ e ≠ it) where
  mem := by simp
  obj := fun i h st b hb => by
    obtain ⟨⟨old, he⟩, ⟨o, ho, hc, hd⟩, _⟩ := st
    rcases (by simpa using hb : b = e ∨ b = it) with z | z
    · rw [z]; exact ⟨_, he, fun v q => nomatch q⟩
    · rw [z]; exact ⟨o, ho, fun v q => by rw [hd] at q; cases q⟩
  keep := fun i h h' st k => let ⟨⟨old, he⟩, ⟨o, ho, r⟩, hne⟩ := st; ⟨⟨old, k e (by simp) _ he⟩, ⟨o, k it (by simp) o ho, r⟩, hne⟩
  item := by
    intro X hP hw hK hc i pins s σ H E I hf st hg
    subst hP hw hK
    obtain ⟨⟨old, he⟩, hit, hne⟩ := st
    have hel : e < s.heap.objs.size := Heap.lt_size he
    have hil : it < s.heap.objs.size := by obtain ⟨_, q, _⟩ := hit; exact Heap.lt_size q
    refine wpAny_pyNext_enum_itemD (Draws.text (prog := X.prog) (w := X.w) (A := X.A.in1) (I.ok.hd hc) it x t) he hit hg hne (by simp only [List.mem_cons, List.not_mem_nil, or_false]; exact hne) fun y h' tk hP ho hit' hT hsz hk => ?_
    obtain ⟨c, u, hcx, rfl⟩ := hP
    refine ⟨_, rfl, wpAny_letOwnedTupleGo_enum (s := { s with heap := h', toks := tk + 1 }) ho fun h'' he' sb => ?_⟩
    have hT2 : h''.get? s.heap.objs.size = some { cls := .type "tuple", data := .seq #[.int i tk, .str ⟨#[c]⟩ u] } := (sb.2 _ (Nat.ne_of_gt hel)).trans hT
    have new : ObjOk X.prog X.w (upd H s.heap.objs.size (.tup [.int (i : Nat), .str ⟨#[c]⟩])) h'' s.heap.objs.size (.tup [.int (i : Nat), .str ⟨#[c]⟩]) :=
      ⟨two_le, [.int i tk, .str ⟨#[c]⟩ u], .cons ⟨_, rfl⟩ (.cons ⟨_, rfl⟩ .nil), ⟨_, hT2, rfl, _, rfl⟩⟩
    have I1 : Inv X pins σ (upd H s.heap.objs.size (.tup [.int (i : Nat), .str ⟨#[c]⟩])) { s with heap := h'', toks := tk + 1 } :=
      I.turnedNew (t' := tk + 1) (ch := [e, it]) (fun b ob hb q => (sb.2 b (fun z => hb (by simp [z]))).trans (hk b ob (fun z => hb (by simp [z])) (fun z => hb (by simp [z])) q)) hf (Nat.le_refl _) new
    refine ⟨.ref s.heap.objs.size, _, I1, rfl, ⟨_, c, hcx, rfl, I.hok.fresh (Nat.le_refl _), rfl⟩, ⟨⟨.str ⟨#[c]⟩ u, ?_⟩, ?_, hne⟩, fun b hb => ?_⟩
    · have e1 : ((i + 1 : Nat) : Int) = (i : Int) + 1 := by omega
      rw [e1]; exact he'
    · obtain ⟨o, ho2, r⟩ := hit'
      exact ⟨o, (sb.2 it (Ne.symm hne)).trans ho2, r⟩
    · have hb' : b < s.heap.objs.size := by
        rcases (by simpa using hb : b = e ∨ b = it) with z | z
        · rw [z]; exact hel
        · rw [z]; exact hil
      rw [upd_ne (Nat.ne_of_lt hb')]
      exact (hf b hb).1
  done := by
    intro X hP hw hK hc i pins s σ H E I hf st hg
    subst hP hw hK
    obtain ⟨⟨old, he⟩, hit, hne⟩ := st
    obtain ⟨f0, f1, f2, f3, f4, f5⟩ := hf it (by simp)
    have hg : x.cps.size = i := hg
    subst hg
    exact wpAny_pyNext_enum_endD (Draws.text (prog := X.prog) (w := X.w) (A := X.A.in1) (I.ok.hd hc) it x t) he hit fun h' eb => ⟨rfl, I.turned (t' := s.toks) (fun b o hb q => eb b o hb q) f0 f1 f3 f4 f5⟩
  self := fun A i s Q E st h => let ⟨⟨_, he⟩, _⟩ := st; wpAny_pyIter_enum he h
def iEnS (ta : TA) : TI := fun σ H R => ta σ H fun vs H1 => ∃ x, vs = [.str x] ∧ R (IteS x) H1
theorem pi_enS {X : Cx} {e : Expr} {ta : TA} {p pos tpos : Pos} {elts : List Expr} {kk : Nat} (hg : Gl X "enumerate") (hm : X.mg "enumerate" = none) (ha : PA X [e] ta) (hs : starEach [e] X.env = [(false, eval e X.env)] := by rfl) :
    PI X (.Tuple elts kk tpos) (.Call (.Name "enumerate" p) [e] [] pos) (iEnS ta) := by
  refine ⟨fun pins s σ H R I h => Call_ (ld_blt I hg hm boot_enumerate (PyProof.Rows.callWith_type1 (thn (ha.run pos pins s σ H _ I h) fun us s1 ⟨vs, H1, I1, r1, q1⟩ => ?_) hs rfl))⟩
  obtain ⟨x, ex, q⟩ := q1
  subst ex
  cases r1 with
  | cons r rr =>
    cases rr
    obtain ⟨t, rfl⟩ := r
    refine call_enumerate_str fun h' he hit hsz hk => wpAny_pyIter_enum he ?_
    have I2 : Inv X pins σ H1 { s1 with heap := h' } := I1.kept (t' := s1.toks) hk
    refine ⟨s1.heap.objs.size + 1, [s1.heap.objs.size + 1, s1.heap.objs.size], _, _, H1, rfl, I2, turn_enS x t (s1.heap.objs.size + 1) s1.heap.objs.size, ⟨⟨.none, he⟩, hit, Nat.succ_ne_self _⟩, fun b hb => ?_, q⟩
    have hle : s1.heap.objs.size ≤ b := by
      rcases (by simpa using hb : b = s1.heap.objs.size + 1 ∨ b = s1.heap.objs.size) with z | z
      · rw [z]; exact Nat.le_add_right _ _
      · rw [z]; exact Nat.le_refl _
    exact I1.fpOk hle (I1.hok.fresh hle)
/-! zip of two texts -/
def ItzS (x y : Str) : It :=
  ⟨fun i _ => i < x.cps.size ∧ i < y.cps.size, fun i H v H' => ∃ T c d, x.cps[i]? = some c ∧ y.cps[i]? = some d ∧ v = .ref T ∧ H T = none ∧ H' = upd H T (.tup [.str ⟨#[c]⟩, .str ⟨#[d]⟩]),
    fun i _ => i ≤ x.cps.size ∧ i ≤ y.cps.size ∧ (i = x.cps.size ∨ i = y.cps.size)⟩
theorem turn_zipS {P : Program} {w : World} {K : PySem.W.Frag} {elts : List Expr} {kk : Nat} {tpos : Pos} (x y : Str) (t u : Tok) {z TI TO i1 i2 : Addr} (D : ZipSep2 z TI TO i1 i2 [i1] [i2]) :
    Turn P w K (.Tuple elts kk tpos) (ItzS x y) [z, TI, TO, i1, i2] z (fun i h => IsZip h z TI TO .none ∧ IsTupOf2 h TI (.ref i1) (.ref i2) ∧ (∃ a b, IsTupOf2 h TO a b) ∧ h.IsStrIter i1 (strIterType x) x t i ∧ h.IsStrIter i2 (strIterType y) y u i) where
  mem := by simp
  obj := fun i h st c hc => by
    obtain ⟨hz, hTI, ⟨a, b, hTO⟩, ⟨o1, e1, _, d1⟩, ⟨o2, e2, _, d2⟩⟩ := st
    rcases (by simpa using hc : c = z ∨ c = TI ∨ c = TO ∨ c = i1 ∨ c = i2) with rfl | rfl | rfl | rfl | rfl
    · exact ⟨_, hz, fun v q => nomatch q⟩
    · exact ⟨_, hTI, fun v q => nomatch q⟩
    · exact ⟨_, hTO, fun v q => nomatch q⟩
    · exact ⟨o1, e1, fun v q => by rw [d1] at q; cases q⟩
    · exact ⟨o2, e2, fun v q => by rw [d2] at q; cases q⟩
  keep := fun i h h' st k => by
    obtain ⟨hz, hTI, ⟨a, b, hTO⟩, ⟨o1, e1, r1⟩, ⟨o2, e2, r2⟩⟩ := st
    exact ⟨k z (by simp) _ hz, k TI (by simp) _ hTI, ⟨a, b, k TO (by simp) _ hTO⟩, ⟨o1, k i1 (by simp) o1 e1, r1⟩, ⟨o2, k i2 (by simp) o2 e2, r2⟩⟩
  item := by
    intro X hP hw hK hc i pins s σ H E I hf st hg
    subst hP hw hK
    obtain ⟨hz, hTI, ⟨a, b, hTO⟩, h1, h2⟩ := st
    have hzl : z < s.heap.objs.size := Heap.lt_size hz
    refine wpAny_pyNext_zipD2_item D (Draws.text (prog := X.prog) (w := X.w) (A := X.A.in1) (I.ok.hd hc) i1 x t) (Draws.text (prog := X.prog) (w := X.w) (A := X.A.in1) (I.ok.hd hc) i2 y u) hz hTI hTO h1 h2 hg.1 hg.2 fun v1 v2 h' tk p1 p2 z' TO' h1' h2' hT hsz hk => ?_
    obtain ⟨c, u1, hcx, rfl⟩ := p1
    obtain ⟨d, u2, hdy, rfl⟩ := p2
    refine ⟨_, rfl, wpAny_letOwnedTupleGo_zip (s := { s with heap := h', toks := tk }) z' fun h'' z'' sb => ?_⟩
    have hT2 : h''.get? s.heap.objs.size = some { cls := .type "tuple", data := .seq #[.str ⟨#[c]⟩ u1, .str ⟨#[d]⟩ u2] } := (sb.2 _ (Nat.ne_of_gt hzl)).trans hT
    have new : ObjOk X.prog X.w (upd H s.heap.objs.size (.tup [.str ⟨#[c]⟩, .str ⟨#[d]⟩])) h'' s.heap.objs.size (.tup [.str ⟨#[c]⟩, .str ⟨#[d]⟩]) :=
      ⟨two_le, [.str ⟨#[c]⟩ u1, .str ⟨#[d]⟩ u2], .cons ⟨_, rfl⟩ (.cons ⟨_, rfl⟩ .nil), ⟨_, hT2, rfl, _, rfl⟩⟩
    have I1 : Inv X pins σ (upd H s.heap.objs.size (.tup [.str ⟨#[c]⟩, .str ⟨#[d]⟩])) { s with heap := h'', toks := tk } :=
      I.turnedNew (t' := tk) (ch := [z, TI, TO, i1, i2]) (fun e o hb q => (sb.2 e (fun q' => hb (by simp [q']))).trans (hk e o (fun q' => hb (by simp [q'])) (fun q' => hb (by simp [q'])) (fun q' => hb (by simp [q'])) (fun q' => hb (by simp [q'])) q)) hf (Nat.le_refl _) new
    refine ⟨.ref s.heap.objs.size, _, I1, rfl, ⟨_, c, d, hcx, hdy, rfl, I.hok.fresh (Nat.le_refl _), rfl⟩, ⟨z'', ?_, ⟨.str ⟨#[c]⟩ u1, .str ⟨#[d]⟩ u2, ?_⟩, ?_, ?_⟩, fun e he => ?_⟩
    · exact (sb.2 _ D.TIz).trans (hk _ _ D.TIz D.TITO D.TIi1 D.TIi2 hTI)
    · exact (sb.2 _ D.TOz).trans TO'
    · obtain ⟨o, ho, r⟩ := h1'
      exact ⟨o, (sb.2 _ (Ne.symm D.zi1)).trans ho, r⟩
    · obtain ⟨o, ho, r⟩ := h2'
      exact ⟨o, (sb.2 _ (Ne.symm D.zi2)).trans ho, r⟩
    · have hlt : e < s.heap.objs.size := by
        rcases (by simpa using he : e = z ∨ e = TI ∨ e = TO ∨ e = i1 ∨ e = i2) with rfl | rfl | rfl | rfl | rfl
        · exact hzl
        · exact Heap.lt_size hTI
        · exact Heap.lt_size hTO
        · obtain ⟨_, q, _⟩ := h1; exact Heap.lt_size q
        · obtain ⟨_, q, _⟩ := h2; exact Heap.lt_size q
      rw [upd_ne (Nat.ne_of_lt hlt)]
      exact (hf e he).1
  done := by
    intro X hP hw hK hc i pins s σ H E I hf st hg
    subst hP hw hK
    obtain ⟨hz, hTI, ⟨a, b, hTO⟩, h1, h2⟩ := st
    obtain ⟨g1, g2, g3⟩ := hg
    exact wpAny_pyNext_zipD2_end D (Draws.text (prog := X.prog) (w := X.w) (A := X.A.in1) (I.ok.hd hc) i1 x t) (Draws.text (prog := X.prog) (w := X.w) (A := X.A.in1) (I.ok.hd hc) i2 y u) hz hTI hTO h1 h2 g1 g2 g3 fun h' tk hk => ⟨rfl, I.turnedL (t' := tk) (ch := [z, TI, TO, i1, i2]) (fun c o hb q =>
      hk c o (fun q' => hb (by simp [q'])) (fun q' => hb (by simp [q'])) (fun q' => hb (by simp [q'])) (fun q' => hb (by simp [q'])) q) hf⟩
  self := fun A i s Q E st h => wpAny_pyIter_zip st.1 h
def iZipS (ta : TA) : TI := fun σ H R => ta σ H fun vs H1 => ∃ x y, vs = [.str x, .str y] ∧ R (ItzS x y) H1
theorem pi_zipS {X : Cx} {e e2 : Expr} {ta : TA} {p pos tpos : Pos} {elts : List Expr} {kk : Nat} (hg : Gl X "zip") (hm : X.mg "zip" = none) (ha : PA X [e, e2] ta)
    (hs : starEach [e, e2] X.env = (false, eval e X.env) :: starEach [e2] X.env := by rfl) (hpl : (backTo pos (starEach [e2] X.env)).any (·.1) = false := by rfl) :
    PI X (.Tuple elts kk tpos) (.Call (.Name "zip" p) [e, e2] [] pos) (iZipS ta) := by
  refine ⟨fun pins s σ H R I h => Call_ (ld_blt I hg hm PyProof.Rows.boot_zip (PyProof.Rows.callWith_type1 (thn (ha.run pos pins s σ H _ I h) fun us s1 ⟨vs, H1, I1, r1, q1⟩ => ?_) hs hpl))⟩
  obtain ⟨x, y, ex, q⟩ := q1
  subst ex
  obtain ⟨v1, v2, rfl, ⟨t, rfl⟩, ⟨u, rfl⟩⟩ := vals2 r1
  refine zip_begins2 (begins_text x t) (begins_text y u) trivial trivial fun h' hz hTI hTO h1 h2 hsz hk => wpAny_pyIter_zip hz ?_
  have I2 : Inv X pins σ H1 { s1 with heap := h' } := I1.kept (t' := s1.toks) hk
  have S : ZipSep2 (s1.heap.objs.size + 4) (s1.heap.objs.size + 2) (s1.heap.objs.size + 3) s1.heap.objs.size (s1.heap.objs.size + 1) [s1.heap.objs.size] [s1.heap.objs.size + 1] := by
    generalize s1.heap.objs.size = n
    have ne : ∀ a b : Nat, a ≠ b → (a : Addr) ≠ b := fun _ _ h => h
    constructor <;> first | (apply ne; omega) | simp
  refine ⟨s1.heap.objs.size + 4, [s1.heap.objs.size + 4, s1.heap.objs.size + 2, s1.heap.objs.size + 3, s1.heap.objs.size, s1.heap.objs.size + 1], _, _, H1, rfl, I2, turn_zipS x y t u S, ⟨hz, hTI, ⟨_, _, hTO⟩, ⟨_, h1, rfl, rfl⟩, ⟨_, h2, rfl, rfl⟩⟩, fun c hcm => ?_, q⟩
  have hle : s1.heap.objs.size ≤ c := by
    rcases (by simpa using hcm : c = s1.heap.objs.size + 4 ∨ c = s1.heap.objs.size + 2 ∨ c = s1.heap.objs.size + 3 ∨ c = s1.heap.objs.size ∨ c = s1.heap.objs.size + 1) with rfl | rfl | rfl | rfl | rfl
    · exact Nat.le_add_right _ _
    · exact Nat.le_add_right _ _
    · exact Nat.le_add_right _ _
    · exact Nat.le_refl _
    · exact Nat.le_add_right _ _
  exact I1.fpOk hle (I1.hok.fresh hle)
end Fv

/-! texts: s * n, s[::-1], count and index of one sign, joined signs -/
namespace Fv
open PySem PySem.Spec PyProof.Rows L2
/-- the text of these signs -/
def tx (l : List Nat) : Str := ⟨l.toArray⟩
theorem tx_len (l : List Nat) : (tx l).length = l.length := by show l.toArray.size = _; simp
theorem tx_of (z : Str) : ∃ l, z = tx l := ⟨z.cps.toList, by show z = ⟨z.cps.toList.toArray⟩; simp⟩
theorem tx_inj {a b : List Nat} (h : tx a = tx b) : a = b := by
  have h1 := congrArg (fun z : Str => z.cps.toList) h
  simpa [tx] using h1
theorem tx_app (a b : List Nat) : tx a ++ tx b = tx (a ++ b) := by
  show (⟨a.toArray ++ b.toArray⟩ : Str) = ⟨(a ++ b).toArray⟩
  simp
theorem fold_rep (l : List Nat) : ∀ (k : Nat) (acc : Array Nat), (List.replicate k l.toArray).foldl (· ++ ·) acc = (acc.toList ++ (List.replicate k l).flatten).toArray
  | 0, acc => by simp
  | k + 1, acc => by
    rw [List.replicate_succ, List.foldl_cons, fold_rep l k]
    simp [List.replicate_succ]
theorem rep_len (l : List Nat) : ∀ k : Nat, (List.replicate k l).flatten.length = k * l.length
  | 0 => by simp
  | k + 1 => by
    rw [List.replicate_succ, List.flatten_cons, List.length_append, rep_len l k, Nat.succ_mul]; omega
section
variable {X : Cx}
/-- s * n -/
def rRepS : R2 := fun x y H Q => ∃ (l : List Nat) (n : Int), x = .str (tx l) ∧ y = .int n ∧ -(2 ^ 62) ≤ n ∧ n < 2 ^ 62 ∧ l.length * n.toNat ≤ 100000 ∧ l.length ≤ 100000 ∧ Q (.str (tx (List.replicate n.toNat l).flatten)) H
theorem op_repS : OpR X (binaryOp .Mult) rRepS := by
  intro pins s σ H x y v u Q I rx ry h
  obtain ⟨l, n, rfl, rfl, b1, b2, hz, hl, q⟩ := h
  obtain ⟨t, rfl⟩ := rx
  obtain ⟨t', rfl⟩ := ry
  have hr : (decide (n < -(2 ^ 63 : Int)) || decide (n ≥ 2 ^ 63)) = false := by
    rw [decide_eq_false (by omega), decide_eq_false (by omega)]; rfl
  refine P.mul_str hr (fun h1 h2 z => ?_) (fun h1 h2 => ?_) ?_
  · have n1 : 1 ≤ n := by omega
    rw [tx_len] at z
    have q1 : (2 ^ 63 - 1 : Int) / n < 100000 := by omega
    rw [Int.ediv_lt_iff_lt_mul (by omega)] at q1
    have q2 : ((l.length * n.toNat : Nat) : Int) = l.length * n := by rw [Int.natCast_mul]; congr 1; omega
    have q3 : (l.length : Int) * n ≤ 100000 := by omega
    have q4 : (2 ^ 63 - 1 : Int) / n * n + (2 ^ 63 - 1) % n = 2 ^ 63 - 1 := Int.ediv_mul_add_emod ..
    have q5 : (2 ^ 63 - 1 : Int) % n < n := Int.emod_lt_of_pos _ (by omega)
    have q6 : ((2 ^ 63 - 1 : Int) / n + 1) * n ≤ (l.length : Int) * n := Int.mul_le_mul_of_nonneg_right (by omega) (by omega)
    rw [Int.add_mul] at q6
    omega
  · rw [tx_len]
    show decide (l.length * n.toNat > sizeLine) = false
    rw [decide_eq_false]
    rw [sizeLine_eq]; omega
  · by_cases h1 : n < 1
    · rw [if_pos h1]
      have e : n.toNat = 0 := by omega
      rw [e] at q
      exact ⟨by decide, .str (tx []), H, I.tok _, ⟨_, rfl⟩, q⟩
    · rw [if_neg h1]
      by_cases h2 : (n == 1 || (tx l).length == 0) = true
      · rw [if_pos h2]
        have e : tx (List.replicate n.toNat l).flatten = tx l := by
          rw [tx_len] at h2
          simp only [Bool.or_eq_true, beq_iff_eq] at h2
          rcases h2 with h2 | h2
          · subst h2; simp
          · have : l = [] := List.eq_nil_of_length_eq_zero h2
            subst this
            simp
        rw [e] at q
        exact ⟨.str (tx l), H, I, ⟨t, rfl⟩, q⟩
      · rw [if_neg h2]
        have e : (⟨(List.replicate n.toNat (tx l).cps).foldl (· ++ ·) #[]⟩ : Str) = tx (List.replicate n.toNat l).flatten := by
          show (⟨(List.replicate n.toNat l.toArray).foldl (· ++ ·) #[]⟩ : Str) = _
          rw [fold_rep]; simp [tx]
        rw [e]
        refine ⟨?_, .str _, H, I.tok _, ⟨_, rfl⟩, q⟩
        rw [tx_len, rep_len, sizeLine_eq]
        rw [Nat.mul_comm]; omega
/-- s[::-1] -/
def tRevS (te : TE) : TE := fun σ H Q => te σ H fun x H1 => ∃ l : List Nat, x = .str (tx l) ∧ l.length ≤ 100000 ∧ Q (.str (tx l.reverse)) H1
theorem picked_rev (l : List Nat) (t : Tok) : ((slicePicked (tx l) none none (some (-1, t))).filterMap ((tx l).cps[·]?)) = l.reverse := by
  have e : slicePicked (tx l) none none (some (-1, t)) = (List.range l.toArray.size).reverse := by
    show sliceRange (((tx l).length : Int) - 1) (-1) (-1) = _
    rw [tx_len, PySem.W.krv_sliceRange, PySem.W.krv_range]; simp
  rw [e, List.filterMap_reverse]
  show ((List.range l.toArray.size).filterMap (l.toArray[·]?)).reverse = _
  rw [PySem.W.krv_all]
theorem pe_revS {e : Expr} {te : TE} {k : Nat} {p1 p2 p3 pos : Pos} (he : PE X e te) : PE X (.Subscript e (.Slice none none (some (.UnaryOp .USub (.Constant (.int 1) k p1) p2)) p3) pos) (tRevS te) := by
  refine ⟨fun pins s σ H Q I h => ?_⟩
  refine Subscript_ (thn (he.run pins s σ H _ I h) fun v s1 ⟨x, H1, I1, r1, l, ex, hl, q⟩ => ?_)
  subst ex
  obtain ⟨t, rfl⟩ := r1
  have hst : PO X (some (.UnaryOp .USub (.Constant (.int 1) k p1) p2)) (tPart (tUn (rU fun i => .int (-i)) (tC (.int 1)))) := po_some (pe_un un_neg pe_int)
  refine wpAny_Slice (thn (po_none.run pins s1 σ H1 (fun o H2 => o = none ∧ H2 = H1) I1 ⟨rfl, rfl⟩) fun vl s2 ⟨o2, H2, I2, pl, el, e2⟩ => ?_)
  subst el e2
  refine thn (po_none.run pins s2 σ H2 (fun o H3 => o = none ∧ H3 = H2) I2 ⟨rfl, rfl⟩) fun vu s3 ⟨o3, H3, I3, pu, eu, e3⟩ => ?_
  subst eu e3
  refine thn (hst.run pins s3 σ H3 (fun o H4 => o = some (-1) ∧ H4 = H3) I3 ⟨1, rfl, -1, rfl, rfl, rfl⟩) fun vs s4 ⟨o4, H4, I4, ps, eo, e4⟩ => ?_
  subst eo e4
  cases pl
  cases pu
  cases ps with
  | int _ u =>
    have I5 : Inv X pins σ H4 { s4 with heap := s4.heap.push { cls := .type "slice", data := .fields #[.none, .none, .int (-1) u] } } := I4.kept (t' := s4.toks) fun b ob q => Heap.get?_push_of_some _ q
    show wpAny (model X.prog X.w) X.A (subscriptTail e (.Slice none none (some (.UnaryOp .USub (.Constant (.int 1) k p1) p2)) p3) (.str (tx l) t) (.ref s4.heap.objs.size)) (EP X pins σ Q) X.xe _
    refine tail_any (ops := [.str (tx l) t, .ref s4.heap.objs.size]) (typeIs_str _ _ _) (F.slot_str_getitem.lookup) (wpAny_getItem_str_slice (l := none) (u := none) (st := some (-1, u)) ⟨_, Heap.get?_push_size _ rfl, rfl, rfl⟩ rfl ?_) (by with_unfolding_all rfl)
    show Made.post (if (((-1 : Int) == 1) && _) = true then _ else Made.str ⟨((slicePicked (tx l) none none (some (-1, u))).filterMap ((tx l).cps[·]?)).toArray⟩) _ _
    rw [if_neg (by rw [show ((-1 : Int) == 1) = false from rfl, Bool.false_and]; exact Bool.false_ne_true), picked_rev]
    refine ⟨?_, .str (tx l.reverse), H4, I5.tok _, ⟨_, rfl⟩, q⟩
    show (tx l.reverse).length ≤ sizeLine
    rw [tx_len, List.length_reverse, sizeLine_eq]; omega
end
end Fv

/-! texts: how often one sign stands in a text; signs joined -/
namespace Fv
open PySem PySem.Spec PyProof.Rows L2
def sgAt (l : List Nat) (c i : Nat) : Bool := decide (l[i]? = some c)
theorem occ_go (l : List Nat) (c lim : Nat) : ∀ (m j : Nat) (st : Array Nat × Nat), st.1.size + m ≤ lim → st.2 ≤ j →
    (forIn (List.range' j m) st (PySem.StrLaws.occBody (tx l) (tx [c]) (tx l).length lim)).run.1.toList = st.1.toList ++ (List.range' j m).filter (sgAt l c)
  | 0, j, st, _, _ => by simp
  | m + 1, j, st, h1, h2 => by
    rw [List.range'_succ, List.forIn_cons]
    have key := PySem.StrLaws.subAt_one (tx l) c j
    have e : (tx l).cps.toList = l := by simp [tx]
    rw [e] at key
    unfold PySem.StrLaws.occBody
    by_cases hc : l[j]? = some c
    · obtain ⟨k1, k2⟩ := key.mpr hc
      rw [if_pos ⟨⟨⟨by omega, h2⟩, k1⟩, k2⟩]
      have ih := occ_go l c lim m (j + 1) (st.1.push j, j + (tx [c]).length) (by simp; omega) (by show j + 1 ≤ j + 1; omega)
      show (forIn (List.range' (j + 1) m) (st.1.push j, j + (tx [c]).length) (PySem.StrLaws.occBody (tx l) (tx [c]) (tx l).length lim)).run.1.toList = _
      rw [ih, List.filter_cons_of_pos (by unfold sgAt; rw [decide_eq_true hc])]
      simp
    · rw [if_neg (fun z => hc (key.mp ⟨z.1.2, z.2⟩))]
      have ih := occ_go l c lim m (j + 1) st (by omega) (by omega)
      show (forIn (List.range' (j + 1) m) (st.1, st.2) (PySem.StrLaws.occBody (tx l) (tx [c]) (tx l).length lim)).run.1.toList = _
      rw [ih, List.filter_cons_of_neg (by unfold sgAt; rw [decide_eq_false hc]; exact Bool.false_ne_true)]
theorem pos_count (l : List Nat) (c : Nat) : ∀ (m j : Nat), ((List.range' j m).filter (sgAt l c)).length = ((l.drop j).take m).count c
  | 0, j => by simp
  | m + 1, j => by
    rw [List.range'_succ]
    have ih := pos_count l c m (j + 1)
    by_cases hj : j < l.length
    · rw [List.drop_eq_getElem_cons hj, List.take_succ_cons, List.count_cons]
      by_cases hc : l[j] = c
      · rw [List.filter_cons_of_pos (by unfold sgAt; rw [decide_eq_true (by rw [List.getElem?_eq_getElem hj, hc])]), List.length_cons, ih, if_pos (by simpa using hc)]
      · rw [List.filter_cons_of_neg (by unfold sgAt; rw [decide_eq_false (by rw [List.getElem?_eq_getElem hj]; simpa using hc)]; exact Bool.false_ne_true), ih, if_neg (by simpa using hc)]; rfl
    · have e1 : l.drop j = [] := List.drop_eq_nil_of_le (by omega)
      have e2 : l.drop (j + 1) = [] := List.drop_eq_nil_of_le (by omega)
      rw [e2] at ih
      rw [List.filter_cons_of_neg (by unfold sgAt; rw [decide_eq_false (by rw [List.getElem?_eq_none (by omega)]; simp)]; exact Bool.false_ne_true), ih, e1]; simp
theorem count_tx (l : List Nat) (c : Nat) : Txt.count (tx l) (tx [c]) = ((l.count c : Nat) : Int) := by
  unfold Txt.count
  rw [PySem.StrLaws.occ_eq, occ_go l c _ _ 0 (#[], 0) (by rw [tx_len]; simp) (Nat.le_refl _)]
  simp only [Array.toList_empty, List.nil_append]
  rw [pos_count, tx_len, List.drop_zero, List.take_of_length_le (by omega)]
theorem join_tx : ∀ cs : List Nat, Txt.join (tx []) (cs.map fun c => tx [c]) = tx cs := by
  intro cs
  unfold Txt.join
  rw [PySem.StrLaws.glued_eq_join]
  induction cs with
  | nil => rfl
  | cons a r ih =>
    cases r with
    | nil => rfl
    | cons b s =>
      show tx [a] ++ tx [] ++ Str.join (tx []) (tx [b] :: s.map fun c => tx [c]) = tx (a :: b :: s)
      rw [show Str.join (tx []) (tx [b] :: s.map fun c => tx [c]) = tx (b :: s) from ih, tx_app, tx_app]
      rfl
theorem cut_tx (l : List Nat) (lo hi : Option Int) : cutS (tx l) lo hi = tx ((l.drop (HT.sIx l.length 0 lo)).take (HT.sIx l.length l.length hi - HT.sIx l.length 0 lo)) := by
  unfold cutS
  rw [tx_len]
  show (⟨((l.toArray.toList.drop _).take _).toArray⟩ : Str) = _
  simp [tx]
theorem str_tx (s : String) : Str.ofString s = tx (s.toList.map Char.toNat) := Str.ofString_eq_toList s
theorem tx_hd3 : Str.ofString "hd-" = tx [104, 100, 45] := by rw [str_tx]; decide
end Fv

/-! texts in the layer of data; while -/
namespace Fv
open PySem PySem.Spec PyProof.Rows L2
section
variable {K : PySem.W.Frag} {R : RK} {Wc : WX}
theorem tx_fit {l : List Nat} (h : l.length ≤ 100000) : (tx l).length ≤ sizeLine := by rw [tx_len, sizeLine_eq]; omega
/-! len(s) -/
def bLenS : List AV → MU → PQ → Prop := fun xs μ Q => ∃ (x : AV) (l : List Nat), xs = [x] ∧ isS x (tx l) ∧ l.length ≤ 100000 ∧ Q (iAV (l.length : Int)) μ
theorem cd_lenS : CallD K R (fun xs H Q => ∃ z : Str, xs = [V.str z] ∧ z.length ≤ sizeLine ∧ Q (V.int z.length) H) bLenS := by
  rintro A H μ vs axs Qc Q W r kq ⟨x, l, rfl, hs, hl, q⟩
  obtain ⟨v, rfl, r1⟩ := r.one
  refine ⟨tx l, by rw [r1.s hs], tx_fit hl, ?_⟩
  rw [tx_len]
  exact kq.i W q
/-! s + t, s * n, s[i] -/
def aAddS : AV → AV → MU → PQ → Prop := fun x y μ Q => ∃ a b : List Nat, isS x (tx a) ∧ isS y (tx b) ∧ a.length + b.length ≤ 100000 ∧ Q (.dat true (.str (tx (a ++ b)))) μ
theorem od_addS : OpD K R (fun x y H Q => ∃ i j : Str, x = V.str i ∧ y = V.str j ∧ i.length + j.length ≤ sizeLine ∧ Q (V.str (i ++ j)) H) aAddS := by
  rintro A H μ x y ax ay Qc Q W rx ry kq ⟨a, b, h1, h2, hl, q⟩
  refine ⟨tx a, tx b, rx.s h1, ry.s h2, by rw [tx_len, tx_len, sizeLine_eq]; omega, ?_⟩
  rw [tx_app]
  exact kq.s W q
def aRepS : AV → AV → MU → PQ → Prop := fun x y μ Q => ∃ (a : List Nat) (n : Int), isS x (tx a) ∧ isI y n ∧ -(2 ^ 62) ≤ n ∧ n < 2 ^ 62 ∧ a.length * n.toNat ≤ 100000 ∧ a.length ≤ 100000 ∧ Q (.dat true (.str (tx (List.replicate n.toNat a).flatten))) μ
theorem od_repS : OpD K R rRepS aRepS := by
  rintro A H μ x y ax ay Qc Q W rx ry kq ⟨a, n, h1, h2, b1, b2, h3, h4, q⟩
  exact ⟨a, n, rx.s h1, ry.i h2, b1, b2, h3, h4, kq.s W q⟩
def aIxS : AV → AV → MU → PQ → Prop := fun x y μ Q => ∃ (a : List Nat) (i : Int) (c : Nat), isS x (tx a) ∧ isI y i ∧ a.length ≤ 100000 ∧ atI a i = some c ∧ Q (.dat true (.str (tx [c]))) μ
theorem od_ixS : OpD K R rIxS aIxS := by
  rintro A H μ x y ax ay Qc Q W rx ry kq ⟨a, i, c, h1, h2, h3, h4, q⟩
  exact ⟨tx a, i, c, rx.s h1, ry.i h2, tx_fit h3, by rw [show (tx a).cps.toList = a by simp [tx]]; exact h4, kq.s W q⟩
/-! s[::-1], s[a:b] -/
def wRevS (we : WE') : WE' := fun l μ Q X => we l μ (fun x μ1 => ∃ a : List Nat, isS x (tx a) ∧ a.length ≤ 100000 ∧ Q (.dat true (.str (tx a.reverse))) μ1) X
theorem d_revS {te : TE} {we : WE'} (he : DE K R Wc te we) : DE K R Wc (tRevS te) (wRevS we) := ⟨fun A H μ σ l Qc Q X W L kq kx h =>
  he.run A H μ σ l _ _ X W L (fun A1 H1 μ1 x ax s1 W1 r1 ⟨a, hx, hl, q1⟩ => ⟨a, r1.s hx, hl, (kq.go s1).s W1 q1⟩) kx h⟩
/-- a list's part -/
def cutN (a : List Nat) (lo hi : Option Int) : List Nat := (a.drop (HT.sIx a.length 0 lo)).take (HT.sIx a.length a.length hi - HT.sIx a.length 0 lo)
def wSlS (we : WE') (wl wh : WO') : WE' := fun l μ Q X => we l μ (fun x μ1 => wl l μ1 (fun lo μ2 => wh l μ2 (fun hi μ3 => ∃ a : List Nat, isS x (tx a) ∧ a.length ≤ 100000 ∧ Q (.dat true (.str (tx (cutN a lo hi)))) μ3) X) X) X
theorem d_slS {te : TE} {tl th : TO} {we : WE'} {wl wh : WO'} (he : DE K R Wc te we) (hl : DO K R Wc tl wl) (hh : DO K R Wc th wh) : DE K R Wc (tSl rSlS te tl th) (wSlS we wl wh) := ⟨fun A H μ σ l Qc Q X W L kq kx h =>
  he.run A H μ σ l _ _ X W L (fun A1 H1 μ1 x ax s1 W1 r1 q1 => hl.run A1 H1 μ1 σ l _ _ X W1 (L.mono s1.grow) (fun A2 H2 μ2 lo s2 W2 q2 =>
    hh.run A2 H2 μ2 σ l _ _ X W2 (L.mono (s1.trans s2).grow) (fun A3 H3 μ3 hi s3 W3 ⟨a, hx, hz, q3⟩ => ⟨tx a, r1.s hx, tx_fit hz, by rw [cut_tx]; exact (kq.go ((s1.trans s2).trans s3)).s W3 q3⟩) (kx.go (s1.trans s2)) q2) (kx.go s1) q1) kx h⟩
theorem cutN_from (a : List Nat) (k : Nat) : cutN a (some (k : Int)) none = a.drop k := by
  unfold cutN
  rw [show HT.sIx a.length 0 (some (k : Int)) = min k a.length from HT.sIx_nat a.length 0 k, show HT.sIx a.length a.length none = a.length from HT.sIx_none a.length a.length]
  by_cases h : k ≤ a.length
  · rw [Nat.min_eq_left h]
    exact List.take_of_length_le (by rw [List.length_drop]; exact Nat.le_refl _)
  · rw [Nat.min_eq_right (by omega), Nat.sub_self, List.drop_eq_nil_of_le (show a.length ≤ k by omega)]; rfl
theorem cutN_to (a : List Nat) (k : Nat) : cutN a none (some (k : Int)) = a.take k := by
  unfold cutN
  rw [show HT.sIx a.length a.length (some (k : Int)) = min k a.length from HT.sIx_nat a.length a.length k, show HT.sIx a.length 0 none = 0 from HT.sIx_none a.length 0, List.drop_zero, Nat.sub_zero]
  by_cases h : k ≤ a.length
  · rw [Nat.min_eq_left h]
  · rw [Nat.min_eq_right (by omega), List.take_of_length_le (Nat.le_refl _), List.take_of_length_le (by omega)]
theorem cutN_len (a : List Nat) (lo hi : Option Int) : (cutN a lo hi).length ≤ a.length := by
  unfold cutN
  rw [List.length_take, List.length_drop]; omega
/-! s.count(c), s.index(t), s.join(xs) -/
def wCountS (wo we : WE') : WE' := fun l μ Q X => wo l μ (fun x μ1 => ∃ a : List Nat, isS x (tx a) ∧ we l μ1 (fun y μ2 => ∃ c : Nat, isS y (tx [c]) ∧ Q (iAV (a.count c : Nat)) μ2) X) X
theorem d_countS {to te : TE} {wo we : WE'} (ho : DE K R Wc to wo) (he : DE K R Wc te we) : DE K R Wc (tM1 (fun x xs H Q => ∃ a b : Str, x = V.str a ∧ xs = [V.str b] ∧ Q (V.int (Txt.count a b)) H) to te) (wCountS wo we) := ⟨fun A H μ σ l Qc Q X W L kq kx h =>
  ho.run A H μ σ l _ _ X W L (fun A1 H1 μ1 x ax s1 W1 r1 ⟨a, hx, q1⟩ => ⟨⟨_, r1.s hx⟩, he.run A1 H1 μ1 σ l _ _ X W1 (L.mono s1.grow) (fun A2 H2 μ2 y ay s2 W2 r2 ⟨c, hy, q2⟩ =>
    ⟨tx a, tx [c], r1.s hx, by rw [r2.s hy], by rw [count_tx]; exact (kq.go (s1.trans s2)).i W2 q2⟩) (kx.go s1) q1⟩) kx h⟩
def wIndexS (wo we : WE') : WE' := fun l μ Q X => wo l μ (fun x μ1 => ∃ a : List Nat, isS x (tx a) ∧ we l μ1 (fun y μ2 => ∃ (b : List Nat) (i : Nat) (rest : List Nat), isS y (tx b) ∧ Builtin.Str.occurrences (tx a) (tx b) 0 (tx a).length 1 = i :: rest ∧ Q (iAV (i : Nat)) μ2) X) X
theorem d_indexS {to te : TE} {wo we : WE'} (ho : DE K R Wc to wo) (he : DE K R Wc te we) : DE K R Wc (tM1 (fun x xs H Q => ∃ a b i rest, x = V.str a ∧ xs = [V.str b] ∧ Builtin.Str.occurrences a b 0 a.length 1 = i :: rest ∧ Q (V.int (i : Nat)) H) to te) (wIndexS wo we) := ⟨fun A H μ σ l Qc Q X W L kq kx h =>
  ho.run A H μ σ l _ _ X W L (fun A1 H1 μ1 x ax s1 W1 r1 ⟨a, hx, q1⟩ => ⟨⟨_, r1.s hx⟩, he.run A1 H1 μ1 σ l _ _ X W1 (L.mono s1.grow) (fun A2 H2 μ2 y ay s2 W2 r2 ⟨b, i, rest, hy, ho2, q2⟩ =>
    ⟨tx a, tx b, i, rest, r1.s hx, by rw [r2.s hy], ho2, (kq.go (s1.trans s2)).i W2 q2⟩) (kx.go s1) q1⟩) kx h⟩
theorem rvs_strs {A : Hp} {k : Bool} : ∀ {vs : List V} {ss : List Str}, RVs K A vs (ss.map fun z => AV.dat k (.str z)) → vs = ss.map V.str
  | _, [], h => by cases h; rfl
  | _, n :: r, h => by
    cases h with
    | cons h1 h2 => rw [rvs_strs h2, RV.s h1 (show isS (.dat k (.str n)) n from rfl)]; rfl
theorem sum_ones : ∀ cs : List Nat, ((cs.map fun c => tx [c]).map (·.length)).sum = cs.length
  | [] => rfl
  | c :: r => by
    have ih := sum_ones r
    simp only [List.map_cons, List.sum_cons, List.length_cons] at ih ⊢
    rw [ih, tx_len]
    simp; omega
/-- "".join(xs), each of one sign -/
def wGlue (wo we : WE') : WE' := fun l μ Q X => wo l μ (fun x μ1 => isS x (tx []) ∧ we l μ1 (fun y μ2 => ∃ (k : Bool) (cs : List Nat), isL μ2 y ((cs.map fun c => tx [c]).map fun z => AV.dat k (.str z)) ∧ cs.length ≤ 100000 ∧ Q (.dat true (.str (tx cs))) μ2) X) X
theorem d_glue {to te : TE} {wo we : WE'} (ho : DE K R Wc to wo) (he : DE K R Wc te we) : DE K R Wc (tM1 (fun x xs H Q => ∃ a p, ∃ ys : List Str, x = V.str a ∧ xs = [V.ref p] ∧ (SqL K H p (ys.map V.str) ∨ SqT K H p (ys.map V.str)) ∧ (ys.map (·.length)).sum + ys.length * a.length ≤ 16777216 ∧ Q (V.str (Txt.join a ys)) H) to te) (wGlue wo we) := ⟨fun A H μ σ l Qc Q X W L kq kx h =>
  ho.run A H μ σ l _ _ X W L (fun A1 H1 μ1 x ax s1 W1 r1 ⟨hx, q1⟩ => ⟨⟨_, r1.s hx⟩, he.run A1 H1 μ1 σ l _ _ X W1 (L.mono s1.grow) (fun A2 H2 μ2 y ay s2 W2 r2 ⟨k, cs, hy, hl, q2⟩ => by
    obtain ⟨a, us, rfl, h1, h2⟩ := r2.seqL W2 hy
    have e := rvs_strs h2
    subst e
    refine ⟨tx [], a, cs.map fun c => tx [c], r1.s hx, rfl, .inl h1, ?_, ?_⟩
    · rw [sum_ones, tx_len, List.length_nil, Nat.mul_zero]; omega
    · rw [join_tx]; exact (kq.go (s1.trans s2)).s W2 q2) (kx.go s1) q1⟩) kx h⟩
/-! while -/
def wWhile (wc : WT') (wb : WS') : WS' := fun D l μ => ∃ IV : Nat → Loc → MU → Prop, (∃ m, IV m l μ) ∧ ∀ m l' μ', IV m l' μ' → wc l' μ' (fun b μ1 => if b = true then wb (D.turn fun l2 μ2 => ∃ m', m' < m ∧ IV m' l2 μ2) l' μ1 else D.nx l' μ1) (fun c μ1 => D.xc c l' μ1)
theorem ds_while {tc : TT} {tb : TS} {wc : WT'} {wb : WS'} (hc : DT K R Wc tc wc) (hb : DS K R Wc tb wb) : DS K R Wc (tWhile tc tb) (wWhile wc wb) := ⟨fun A H μ σ l Dc D W e r c ⟨IV, ⟨m0, i0⟩, step⟩ => by
  refine ⟨PvOf K R A H μ IV, ⟨m0, A, μ, l, Stp.refl, W, e, r, i0⟩, ?_⟩
  rintro m σ' H' ⟨A', μ', l', s, W', e', r', iv⟩
  have c1 := c.go s
  refine hc.run A' H' μ' σ' l' _ _ _ W' r' (fun A1 H1 μ1 b s1 W1 q1 => ?_) (c1.xc.lk e' r') (step m l' μ' iv)
  have g := s.trans s1
  cases b with
  | false =>
    rw [if_neg Bool.false_ne_true] at q1 ⊢
    exact c1.nx _ _ _ _ _ s1 W1 e' (r'.mono s1.grow) q1
  | true =>
    rw [if_pos rfl] at q1 ⊢
    refine ⟨fun σ2 H2 => ∃ m', m' < m ∧ PvOf K R A H μ IV m' σ2 H2, fun _ _ h => h, ?_⟩
    have nx : LS K R A1 H1 μ1 (fun σ2 H2 => ∃ m', m' < m ∧ PvOf K R A H μ IV m' σ2 H2) (fun l2 μ2 => ∃ m', m' < m ∧ IV m' l2 μ2) := fun A3 H3 μ3 σ3 l3 s3 W3 e3 r3 ⟨m', hm, q3⟩ => ⟨m', hm, A3, μ3, l3, g.trans s3, W3, e3, r3, q3⟩
    exact hb.run A1 H1 μ1 σ' l' _ (D.turn fun l2 μ2 => ∃ m', m' < m ∧ IV m' l2 μ2) W1 e' (r'.mono s1.grow) ⟨nx, c1.nx.go s1, nx, c1.rt.go s1, c1.xc.go s1⟩ q1⟩
/-! walks over a text's signs, two texts' -/
theorem walk_enS {x : Str} : Walk (IteS x) x.cps.size (fun _ => True) (fun i H v H' => ∃ T c, x.cps[i]? = some c ∧ v = .ref T ∧ H T = none ∧ H' = upd H T (.tup [.int (i : Nat), .str ⟨#[c]⟩])) :=
  ⟨fun i _ hi _ => hi, fun _ _ => rfl, fun i H v H' _ _ y => y⟩
variable {A H : Hp} {μ : MU}
/-- the signs, each with its number -/
def enS (l : List Nat) : List PyData := (List.range l.length).map fun i => .tuple [.int (i : Nat), .str (tx [l.getD i 0])]
theorem walkD_enS {l : List Nat} : WalkD K R A H μ (IteS (tx l)) ((enS l).map (AV.dat true)) := by
  have e0 : (tx l).cps.size = l.length := by simp [tx]
  have e : ((enS l).map (AV.dat true)).length = (tx l).cps.size := by rw [List.length_map, enS, List.length_map, List.length_range, e0]
  refine ⟨_, _, by rw [e]; exact walk_enS, fun _ _ _ _ => trivial, fun A' Hc μ' i x H' hi s W y => ?_⟩
  obtain ⟨T, c, hc, rfl, hT, rfl⟩ := y
  rw [e, e0] at hi
  have hcl : l[i]? = some c := by
    have h1 : (tx l).cps[i]? = l[i]? := by simp [tx]
    rw [← h1]; exact hc
  obtain ⟨W1, s1⟩ := W.alloc (.tup [.int (i : Nat), .str ⟨#[c]⟩]) hT
  refine ⟨_, _, ?_, W1, s1, pair_rv (K := K) (k := true) (j := true) (d := .int (i : Nat)) (e := .str (tx [c])) (W.free hT).2 (Tr.int _) (Tr.str _)⟩
  rw [List.getElem?_map, enS, List.getElem?_map, List.getElem?_range hi]
  show some (AV.dat true (.tuple [.int (i : Nat), .str (tx [l.getD i 0])])) = _
  rw [List.getD_eq_getElem?_getD, hcl]; rfl
theorem walk_zipS {x y : Str} : Walk (ItzS x y) (min x.cps.size y.cps.size) (fun _ => True) (fun i H v H' => ∃ T c d, x.cps[i]? = some c ∧ y.cps[i]? = some d ∧ v = .ref T ∧ H T = none ∧ H' = upd H T (.tup [.str ⟨#[c]⟩, .str ⟨#[d]⟩])) :=
  ⟨fun i _ hi _ => ⟨by omega, by omega⟩, fun _ _ => ⟨by omega, by omega, by omega⟩, fun i H v H' _ _ y => y⟩
def zipS (a b : List Nat) : List PyData := (a.zip b).map fun p => .tuple [.str (tx [p.1]), .str (tx [p.2])]
theorem walkD_zipS {a b : List Nat} : WalkD K R A H μ (ItzS (tx a) (tx b)) ((zipS a b).map (AV.dat true)) := by
  have e0 : (tx a).cps.size = a.length ∧ (tx b).cps.size = b.length := ⟨by simp [tx], by simp [tx]⟩
  have e : ((zipS a b).map (AV.dat true)).length = min (tx a).cps.size (tx b).cps.size := by rw [List.length_map, zipS, List.length_map, List.length_zip, e0.1, e0.2]
  refine ⟨_, _, by rw [e]; exact walk_zipS, fun _ _ _ _ => trivial, fun A' Hc μ' i x H' hi s W y => ?_⟩
  obtain ⟨T, c, d, hc, hd, rfl, hT, rfl⟩ := y
  have hca : a[i]? = some c := by
    have h1 : (tx a).cps[i]? = a[i]? := by simp [tx]
    rw [← h1]; exact hc
  have hdb : b[i]? = some d := by
    have h1 : (tx b).cps[i]? = b[i]? := by simp [tx]
    rw [← h1]; exact hd
  obtain ⟨W1, s1⟩ := W.alloc (.tup [.str ⟨#[c]⟩, .str ⟨#[d]⟩]) hT
  refine ⟨_, _, ?_, W1, s1, pair_rv (K := K) (k := true) (j := true) (d := .str (tx [c])) (e := .str (tx [d])) (W.free hT).2 (Tr.str _) (Tr.str _)⟩
  rw [List.getElem?_map, zipS, List.getElem?_map, (List.getElem?_zip_eq_some (z := (c, d))).mpr ⟨hca, hdb⟩]; rfl
def wForZipS (wa : WA') (wg : WG') (wb : WS') : WS' := fun D l μ => wa l μ (fun xs μ1 => ∃ (x y : AV) (a b : List Nat), xs = [x, y] ∧ isS x (tx a) ∧ isS y (tx b) ∧ wTurns ((zipS a b).map (AV.dat true)) wg wb D l μ1) (fun c μ1 => D.xc c l μ1)
theorem ds_forZipS {ta : TA} {wa : WA'} {g : TG} {wg : WG'} {tb : TS} {wb : WS'} (ha : DA K R Wc ta wa) (hg : DG K R g wg) (hb : DS K R Wc tb wb) : DS K R Wc (tFor (iZipS ta) g tb) (wForZipS wa wg wb) := ⟨fun A H μ σ l Dc D W e r c q =>
  ha.run A H μ σ l _ _ _ W r (fun A1 H1 μ1 vs avs s1 W1 rv ⟨x, y, a, b, ex, hx, hy, h⟩ => by
    subst ex
    obtain ⟨v, u, rfl, r1, r2⟩ := rv.two
    refine ⟨tx a, tx b, by rw [r1.s hx, r2.s hy], forW_ok walkD_zipS hg hb W1 e (r.mono s1.grow) (c.go s1) h⟩) (c.xc.lk e r) q⟩
end
end Fv

/-! a dict of whole numbers, made over the signs of a text; a walk over such a dict; a dict of the program's top -/
namespace Fv
open PySem PySem.Spec PyProof.Rows L2
section
variable {K : PySem.W.Frag} {R : RK} {Wc : WX} {A H : Hp} {μ : MU} {σ : L2.St}
def dcItem (wg : WG') (wt : WT') (wk wv : WE') (vs : List Nat) (l : Loc) (μ : MU) (x : AV) (o : Option (Int × Int)) : Prop :=
  wg x (wipeA l vs) μ (fun l2 μ1 => μ1 = μ ∧ wt l2 μ (fun b μ2 => μ2 = μ ∧ if b = true then wk l2 μ (fun y μ3 => μ3 = μ ∧ wv l2 μ (fun z μ4 => μ4 = μ ∧ ∃ k v, o = some (k, v) ∧ isI y k ∧ isI z v) noX) noX else o = none) noX)
def dks (f : Nat → Option (Int × Int)) (i : Nat) : Steps := (List.range i).filterMap f
theorem dks_succ (f : Nat → Option (Int × Int)) (i : Nat) : dks f (i + 1) = dks f i ++ (f i).toList := by
  unfold dks
  rw [List.range_succ, List.filterMap_append]
  congr 1
theorem dks_len (f : Nat → Option (Int × Int)) (i : Nat) : (dks f i).length ≤ i := by
  have h := filterMap_le f (List.range i)
  rwa [List.length_range] at h
theorem putI_new {c : Steps} {k v : Int} (h : ∀ p ∈ c, p.1 ≠ k) : putI c k v = c ++ [(k, v)] := by
  unfold putI
  rw [if_neg]
  intro z
  obtain ⟨p, hp, e⟩ := List.any_eq_true.mp z
  exact h p hp (of_decide_eq_true e)
def DcPv (K : PySem.W.Frag) (R : RK) (A H : Hp) (μ : MU) (D : Addr) (f : Nat → Option (Int × Int)) (i : Nat) (Hc : Hp) : Prop :=
  ∃ A' : Hp, Stp A H μ A' Hc μ ∧ WW K R A' Hc μ ∧ A' D = none ∧ Hc D = some (.dK ((dks f i).map entI))
theorem dc_start {D : Addr} {f : Nat → Option (Int × Int)} (W : WW K R A H μ) (hD : H D = none) : DcPv K R A H μ D f 0 (upd H D (.dK [])) := by
  obtain ⟨W1, s1⟩ := W.own (p := D) (ho := .dK []) (o := .dic []) hD rfl
  have n := W.free hD
  have lt : ∀ a o, μ a = some o → updM μ D (.dic []) a = some o := fun a o h => by
    rw [updM_ne (fun z => by rw [z, n.1] at h; cases h)]; exact h
  exact ⟨A, s1.less lt, W1.less lt, n.2, upd_same⟩
theorem dcW_ok {J : It} {xs : List AV} {l : Loc} {g : TG} {tt : TT} {tk tv : TE} {wg : WG'} {wt : WT'} {wk wv : WE'} {vs : List Nat} {Qc : VK} {Q : PQ} {f : Nat → Option (Int × Int)} (hw : ∀ {A H : Hp} {μ : MU}, WalkD K R A H μ J xs) (hg : DG K R g wg) (ht : DT K R (fun _ _ _ _ => False) tt wt) (hk : DE K R (fun _ _ _ _ => False) tk wk) (hv : DE K R (fun _ _ _ _ => False) tv wv) (ow : OwnT g vs)
    (W0 : WW K R A H μ) (r : RL K A σ l) (kq : LQ K R A H μ Qc Q) (hn : xs.length < 100000) (item : ∀ i x, xs[i]? = some x → dcItem wg wt wk wv vs l μ x (f i)) (un : ∀ i j p q, i < j → f i = some p → f j = some q → p.1 ≠ q.1) (fin : ∀ D, μ D = none → Q (.ref D) (updM μ D (.dic (dks f xs.length)))) :
    ∀ D, H D = none → ∃ W : Nat → Nat → Hp → Prop, (∃ m, W 0 m (upd H D (.dK []))) ∧ ∀ i m H, W i m H →
      (J.stop i H ∧ Qc (.ref D) H) ∨ (J.go i H ∧ ∃ Nx : Hp → Prop, (∀ H', Nx H' → ∃ m', m' < m ∧ W (i + 1) m' H') ∧ ∀ x H', J.yld i H x H' → g x (wipe σ vs) H' fun σ2 H2 => wipe σ2 vs = wipe σ vs ∧ tt σ2 H2 fun b H3 =>
        if b = true then tk σ2 H3 fun y H4 => tv σ2 H4 fun z H5 => ∃ kvs k, y = kV k ∧ H5 D = some (.dK kvs) ∧ kvs.length < sizeLine ∧ Nx (upd H5 D (.dK (putK kvs k z))) else Nx H3) := fun D hD => by
  obtain ⟨G, Y, w, hG, hY⟩ := (hw (A := A) (H := H) (μ := μ)).ex
  have nμ : μ D = none := (W0.free hD).1
  have e : σ.length = l.length := r.len
  refine ⟨fun i m Hc => m = xs.length - i ∧ i ≤ xs.length ∧ DcPv K R A H μ D f i Hc, ⟨xs.length, by omega, by omega, dc_start W0 hD⟩, ?_⟩
  rintro i m Hc ⟨rfl, hi, A1, s1, W1, nA1, eD1⟩
  by_cases hlt : i < xs.length
  · refine .inr ⟨w.goes i Hc hlt (hG A1 Hc s1.grow W1.sub), DcPv K R A H μ D f (i + 1), fun H' p => ⟨xs.length - (i + 1), by omega, rfl, by omega, p⟩, fun x H' y => ?_⟩
    obtain ⟨A', ax, hx, W, s01, rx⟩ := hY A1 Hc μ i x H' hlt s1 W1 (w.yields i Hc x H' hlt (hG A1 Hc s1.grow W1.sub) y)
    have s := s1.trans s01
    have nA : A' D = none := by
      cases q : A' D with
      | none => rfl
      | some o =>
        rcases s01.new D nA1 (by rw [q]; simp) with h | h
        · rw [eD1] at h; cases h
        · exact absurd nμ h
    have eD : H' D = some (.dK ((dks f i).map entI)) := by rw [s01.frame D (by rw [eD1]; simp) nμ, eD1]
    have stay : ∀ {A2 H2 : Hp}, Stp A' H' μ A2 H2 μ → H2 D = some (.dK ((dks f i).map entI)) ∧ A2 D = none := fun {A2 H2} s2 => by
      have n : H' D ≠ none := by rw [eD]; simp
      refine ⟨by rw [s2.frame D n nμ, eD], ?_⟩
      cases q : A2 D with
      | none => rfl
      | some o =>
        rcases s2.new D nA (by rw [q]; simp) with h | h
        · exact absurd h n
        · exact absurd nμ h
    have h1 : g x (wipe σ vs) H' fun σ2 H2 => tt σ2 H2 fun b H3 => if b = true then tk σ2 H3 fun y H4 => tv σ2 H4 fun z H5 => ∃ kvs k, y = kV k ∧ H5 D = some (.dK kvs) ∧ kvs.length < sizeLine ∧ DcPv K R A H μ D f (i + 1) (upd H5 D (.dK (putK kvs k z))) else DcPv K R A H μ D f (i + 1) H3 := by
      refine hg.run A' H' μ (wipe σ vs) (wipeA l vs) x ax _ _ W (by rw [wipe_length, wipeA_length, e]) ((r.wipe e vs).mono s.grow) rx (fun A2 H2 μ2 σ2 l2 s2 W2 e2 r2 ⟨em, q⟩ => ?_) (item i ax hx)
      subst em
      refine ht.run A2 H2 μ2 σ2 l2 _ _ noX W2 r2 (fun A3 H3 μ3 b s3 W3 ⟨em, q3⟩ => ?_) (fun _ _ _ _ _ _ z => z.elim) q
      subst em
      cases b with
      | false =>
        rw [if_neg Bool.false_ne_true] at q3 ⊢
        have s23 := s2.trans s3
        obtain ⟨k1, k2⟩ := stay s23
        exact ⟨A3, s.trans s23, W3, k2, by rw [dks_succ, q3]; simpa using k1⟩
      | true =>
        rw [if_pos rfl] at q3 ⊢
        refine hk.run A3 H3 μ3 σ2 l2 _ _ noX W3 (r2.mono s3.grow) (fun A4 H4 μ4 y ay s4 W4 ry ⟨em, q4⟩ => ?_) (fun _ _ _ _ _ _ z => z.elim) q3
        subst em
        refine hv.run A4 H4 μ4 σ2 l2 _ _ noX W4 (r2.mono (s3.trans s4).grow) (fun A5 H5 μ5 z az s5 W5 rz ⟨em, k, v, ef, hky, hvz⟩ => ?_) (fun _ _ _ _ _ _ z => z.elim) q4
        subst em
        have s25 := ((s2.trans s3).trans s4).trans s5
        obtain ⟨k1, k2⟩ := stay s25
        have fresh : ∀ p ∈ dks f i, p.1 ≠ k := fun p hp => by
          obtain ⟨j, hj, ej⟩ := List.mem_filterMap.mp hp
          rw [List.mem_range] at hj
          exact un j i p (k, v) hj ej ef
        have ek : dks f (i + 1) = putI (dks f i) k v := by rw [dks_succ, ef, putI_new fresh]; rfl
        have hl := dks_len f i
        refine ⟨_, (Sum.inl k : L2.Key), ry.i hky, k1, by rw [List.length_map, sizeLine_eq]; omega, A5, (s.trans s25).priv hD, W5.priv nμ k2, k2, ?_⟩
        rw [upd_same, ek, rz.i hvz, putI_ent]
    have h2 := ow _ _ _ _ h1
    rw [wipe_wipe] at h2
    exact h2
  · obtain rfl : i = xs.length := by omega
    refine .inl ⟨w.stops Hc (hG A1 Hc s1.grow W1.sub), ?_⟩
    have W2 : WW K R A1 Hc (updM μ D (.dic (dks f xs.length))) := ⟨W1.sub, fun a o h => by
      by_cases z : a = D
      · subst z
        rw [updM_same] at h
        obtain rfl := Option.some.inj h
        exact ⟨nA1, _, eD1, rfl⟩
      · rw [updM_ne z] at h; exact W1.obs a o h⟩
    have s2 : Stp A H μ A1 Hc (updM μ D (.dic (dks f xs.length))) := ⟨s1.grow, s1.frame, s1.live, s1.new, fun a h1 h2 => by
      by_cases z : a = D
      · exact absurd hD (by rw [← z]; exact h2)
      · rw [updM_ne z] at h1; exact s1.only a h1 h2⟩
    exact kq _ _ _ _ (.ref D) s2 W2 rfl (fin D nμ)
/-- {k: v for .. in enumerate(text) if ..} -/
def wDcEn (wa : WA') (wg : WG') (wt : WT') (wk wv : WE') (vs : List Nat) : WE' := fun l μ Q X => wa l μ (fun xs μ1 => ∃ (x : AV) (a : List Nat) (f : Nat → Option (Int × Int)), xs = [x] ∧ isS x (tx a) ∧ a.length < 100000 ∧
  (∀ i x, ((enS a).map (AV.dat true))[i]? = some x → dcItem wg wt wk wv vs l μ1 x (f i)) ∧ (∀ i j p q, i < j → f i = some p → f j = some q → p.1 ≠ q.1) ∧ ∀ D, μ1 D = none → Q (.ref D) (updM μ1 D (.dic (dks f a.length)))) X
theorem d_dcEn {ta : TA} {wa : WA'} {g : TG} {tt : TT} {tk tv : TE} {wg : WG'} {wt : WT'} {wk wv : WE'} {vs : List Nat} (ha : DA K R Wc ta wa) (hg : DG K R g wg) (ht : DT K R (fun _ _ _ _ => False) tt wt) (hk : DE K R (fun _ _ _ _ => False) tk wk) (hv : DE K R (fun _ _ _ _ => False) tv wv) (ow : OwnT g vs) :
    DE K R Wc (tDc (iEnS ta) g tt tk tv vs) (wDcEn wa wg wt wk wv vs) := ⟨fun A H μ σ l Qc Q X W L kq kx h =>
  ha.run A H μ σ l _ _ X W L (fun A1 H1 μ1 vs' avs s1 W1 rv ⟨x, a, f, ex, hx, hl, item, un, fin⟩ => by
    subst ex
    obtain ⟨v, rfl, r1⟩ := rv.one
    have en : ((enS a).map (AV.dat true)).length = a.length := by rw [List.length_map, enS, List.length_map, List.length_range]
    refine ⟨tx a, by rw [r1.s hx], dcW_ok (f := f) walkD_enS hg ht hk hv ow W1 (L.mono s1.grow) (kq.go s1) (by rw [en]; exact hl) item un (by rw [en]; exact fin)⟩) kx h⟩
end
end Fv

/-! a dict of whole numbers that no longer changes; a dict of the program's top, of texts -/
namespace Fv
open PySem PySem.Spec PyProof.Rows L2
section
variable {X : Cx}
/-- the dict that comes is locked for good -/
def tFrzD (t : TE) : TE := fun σ H Q => t σ H fun x H1 => ∃ d u, x = .ref d ∧ H1 d = some u ∧ Mut (some u) ∧ ∀ od, Q (.ref d) (upd H1 d (.frz od u))
theorem pe_frzD {e : Expr} {t : TE} (h : PE X e t) : PE X e (tFrzD t) := by
  refine ⟨fun pins s σ H Q I hw => thn (h.run pins s σ H _ I hw) fun v s1 ⟨x, H1, I1, r, d, u, ex, hd, mu, q⟩ => ?_⟩
  subst ex
  obtain ⟨od, I2⟩ := I1.lock hd mu
  exact ⟨.ref d, _, I2, r, q od⟩
end
section
variable {K : PySem.W.Frag} {R : RK} {Wc : WX}
def wFrzD (we : WE') : WE' := fun l μ Q X => we l μ (fun x μ1 => ∃ d kvs, x = .ref d ∧ μ1 d = some (.dic kvs) ∧ ∀ od, Q (.ref d) (updM μ1 d (.fdc od kvs))) X
theorem d_frzD {te : TE} {we : WE'} (he : DE K R Wc te we) : DE K R Wc (tFrzD te) (wFrzD we) := ⟨fun A H μ σ l Qc Q X W L kq kx h =>
  he.run A H μ σ l _ _ X W L (fun A1 H1 μ1 v av s1 W1 rv ⟨d, kvs, ex, hm, q1⟩ => by
    subst ex
    cases (show v = .ref d from rv)
    obtain ⟨n, ho, h1, rfl⟩ := W1.obs d _ hm
    refine ⟨d, _, rfl, h1, trivial, fun od => ?_⟩
    obtain ⟨W2, s2⟩ := W1.mut hm (ho := .frz od (.dK (kvs.map fun p : Int × Int => ((Sum.inl p.1 : L2.Key), V.int p.2)))) (o := .fdc od kvs) rfl
    exact kq _ _ _ _ (.ref d) (s1.trans s2) W2 rfl (q1 od)) kx h⟩
/-- d[k] of such a dict -/
def wDGetF (wd wy : WE') : WE' := fun l μ Q X => wd l μ (fun x μ1 => wy l μ1 (fun y μ2 => ∃ d od kvs k i, x = .ref d ∧ μ2 d = some (.fdc od kvs) ∧ isI y k ∧ getI kvs k = some i ∧ Q (iAV i) μ2) X) X
theorem d_dgetF {td ty : TE} {wd wy : WE'} (hd : DE K R Wc td wd) (hy : DE K R Wc ty wy) : DE K R Wc (tDGet td ty) (wDGetF wd wy) := ⟨fun A H μ σ l Qc Q X W L kq kx q =>
  hd.run A H μ σ l _ _ X W L (fun A1 H1 μ1 x ax s1 W1 rx q1 => hy.run A1 H1 μ1 σ l _ _ X W1 (L.mono s1.grow) (fun A2 H2 μ2 y ay s2 W2 ry ⟨d, od, kvs, k, i, ex, hm, hk, hg, q2⟩ => by
    subst ex
    cases (show x = .ref d from rx)
    obtain ⟨n, ho, h1, rfl⟩ := W2.obs d _ hm
    refine ⟨d, V.int i, rfl, .inl ⟨_, (Sum.inl k : L2.Key), .inr ⟨od, h1⟩, ry.i hk, ?_⟩, (kq.go (s1.trans s2)).i W2 q2⟩
    have e : valV (kvs.map entI) (Sum.inl k : L2.Key) = (getI kvs k).map V.int := getI_ent kvs k
    rw [show (kvs.map fun p => ((Sum.inl p.1 : L2.Key), V.int p.2)) = kvs.map entI from rfl, e, hg]; rfl) (kx.go s1) q1) kx q⟩
theorem walk_keys {d : Addr} {o : Obj} {kvs : List (L2.Key × V)} : Walk (Itk d o kvs) kvs.length (fun H => H d = some (.frz o (.dK kvs))) (fun i H x H' => H' = H ∧ ∃ k v, kvs[i]? = some (k, v) ∧ x = kV k) :=
  ⟨fun i H hi h => ⟨h, hi⟩, fun H h => ⟨h, Nat.le_refl _⟩, fun i H x H' _ _ y => y⟩
variable {A H : Hp} {μ : MU}
/-- a comprehension over its keys -/
def wLcK (m : Bool) (i : Nat) (wg : WG') (wt : WT') (we : WE') (vs : List Nat) : WE' := fun l μ Q X => ∃ d od kvs, l[i]? = some (some (.ref d)) ∧ μ d = some (.fdc od kvs) ∧ lcAll m wg wt we vs l μ (kvs.map fun p => iAV p.1) Q
theorem d_lcK {m : Bool} {i : Nat} {g : TG} {tt : TT} {te : TE} {wg : WG'} {wt : WT'} {we : WE'} {vs : List Nat} (hg : DG K R g wg) (ht : DT K R (fun _ _ _ _ => False) tt wt) (he : DE K R (fun _ _ _ _ => False) te we) (ow : OwnT g vs) :
    DE K R Wc (tLc (iKeys (tVar i)) g tt te vs) (wLcK m i wg wt we vs) := ⟨fun A H μ σ l Qc Q X W L kq kx ⟨d, od, kvs, hi, hm, hn, rel, item, fin⟩ => by
  obtain ⟨v, e, rv⟩ := L.at' i _ hi
  cases (show v = .ref d from rv)
  obtain ⟨n, ho, h1, rfl⟩ := W.obs d _ hm
  have hl : (kvs.map fun p => iAV p.1).length = kvs.length := List.length_map ..
  refine ⟨_, e, d, od, rfl, .inl ⟨_, h1, fun D hD => ?_⟩⟩
  have w := walk_keys (d := d) (o := od) (kvs := kvs.map fun p => ((Sum.inl p.1 : L2.Key), V.int p.2))
  rw [List.length_map] at w
  refine lc_it w (LcPv K R A H μ D rel) (lc_start W hD) (fun i H' _ ⟨A', acc, zs, s, W', _⟩ => ?_) (fun j x Hc H' hj p y => ?_) (fun H' p => ?_)
  · obtain ⟨_, ho', h2, h3⟩ := W'.obs d _ hm
    rw [h2, show ho' = _ from h3]
  · obtain ⟨rfl, k, z, hk, rfl⟩ := y
    rw [List.getElem?_map] at hk
    obtain ⟨q, hq, eq⟩ := Option.map_eq_some_iff.mp hk
    obtain ⟨rfl, rfl⟩ := Prod.mk.inj eq
    exact lc_turn (x := V.int q.1) (ax := iAV q.1) hg ht he ow W L.len L (by omega) hD (Tr.int _) (item j _ (by rw [List.getElem?_map, hq]; rfl)) p
  · rw [hl] at fin
    exact lc_end (m := m) W hD kq (fun zs hz hr => fin zs hz hr) p⟩
/-! a dict of the program's top, of texts -/
structure ConD (K : PySem.W.Frag) (w : World) (mg : Str → Option Value) (nm : Str) (a : Addr) (kvs : List (Nat × Nat)) : Prop where
  g : mg nm = some (.ref a)
  d : ∃ es n, KDict K w a es n
  no : ∀ c : Nat, (∀ p ∈ kvs, p.1 ≠ c) → PySem.W.nsIn K a (tx [c]) = some none
  yes : ∀ p ∈ kvs, ∃ t, PySem.W.nsIn K a (tx [p.1]) = some (some (.str (tx [p.2]) t))
def rInC (kvs : List (Nat × Nat)) (a : Addr) : R2 := fun x y H Q => ∃ c : Nat, x = .str (tx [c]) ∧ y = .ref a ∧ Q (.bl (kvs.any fun p => p.1 == c)) H
def rGetC (kvs : List (Nat × Nat)) (a : Addr) : R2 := fun x y H Q => ∃ p : Nat × Nat, p ∈ kvs ∧ x = .ref a ∧ y = .str (tx [p.1]) ∧ Q (.str (tx [p.2])) H
section
variable {X : Cx} {w : World} {mg : Str → Option Value} {nm : Str} {a : Addr} {kvs : List (Nat × Nat)}
theorem op_inC (hw : X.w = w) (hK : X.K = K) (C : ConD K w mg nm a kvs) : OpR X (compareOp .In) (rInC kvs a) := by
  subst hw hK
  intro pins s σ H x y v u Q I rx ry ⟨c, ex, ey, q⟩
  obtain ⟨es, n, D⟩ := C.d
  cases h : kvs.any fun p => p.1 == c with
  | false =>
    rw [h] at q
    exact op_in_kd D pins s σ H x y v u Q I rx ry ⟨tx [c], none, ex, ey, C.no c (fun p hp z => by
      have := List.any_eq_false.mp h p hp
      exact this (by simpa using z)), q⟩
  | true =>
    rw [h] at q
    obtain ⟨p, hp, e⟩ := List.any_eq_true.mp h
    obtain ⟨t, ht⟩ := C.yes p hp
    have e : p.1 = c := by simpa using e
    subst e
    exact op_in_kd D pins s σ H x y v u Q I rx ry ⟨tx [p.1], _, ex, ey, ht, q⟩
theorem op_getC (hw : X.w = w) (hK : X.K = K) (C : ConD K w mg nm a kvs) : OpR X getItem (rGetC kvs a) := by
  subst hw hK
  intro pins s σ H x y v u Q I rx ry ⟨p, hp, ex, ey, q⟩
  obtain ⟨es, n, D⟩ := C.d
  obtain ⟨t, ht⟩ := C.yes p hp
  exact op_item_kd D pins s σ H x y v u Q I rx ry ⟨tx [p.1], _, .str (tx [p.2]), ex, ey, ht, ⟨t, rfl⟩, q⟩
theorem pe_getC {o i : Expr} {pos : Pos} {ta ti : TE} (hw : X.w = w) (hK : X.K = K) (C : ConD K w mg nm a kvs) (ho : PE X o ta) (hi : PE X i ti) (hs : NoSl i) : PE X (.Subscript o i pos) (tOp (rGetC kvs a) ta ti) := by
  subst hw hK
  refine ⟨fun pins s σ H Q I h => ?_⟩
  refine subD_of PySem.F.slot_dict_getitem.lookup hs (thn (ho.run pins s σ H _ I h) fun u s1 ⟨x, H1, I1, rx, q1⟩ => thn (hi.run pins s1 σ H1 _ I1 q1) fun iv s2 ⟨y, H2, I2, ry, p, hp, ex, ey, q2⟩ => ?_)
  subst ex
  obtain rfl : u = Value.ref a := rx
  obtain ⟨es, n, D⟩ := C.d
  exact ⟨kd_type D I2, op_getC rfl rfl C pins s2 σ H2 (.ref a) y (.ref a) iv Q I2 rfl ry ⟨p, hp, rfl, ey, q2⟩⟩
end
theorem d_cref {a : Addr} : DE K R Wc (tC (.ref a)) (wC (.ref a)) := ⟨fun A H μ σ l Qc Q X W L kq kx h => kq.at W (av := .ref a) rfl h⟩
def aInC (kvs : List (Nat × Nat)) (a : Addr) : AV → AV → MU → PQ → Prop := fun x y μ Q => ∃ c : Nat, isS x (tx [c]) ∧ y = .ref a ∧ Q (bAV (kvs.any fun p => p.1 == c)) μ
theorem od_inC {kvs : List (Nat × Nat)} {a : Addr} : OpD K R (rInC kvs a) (aInC kvs a) := by
  rintro A H μ x y ax ay Qc Q W rx ry kq ⟨c, h1, h2, q⟩
  subst h2
  exact ⟨c, rx.s h1, ry, kq.b W q⟩
def aGetC (kvs : List (Nat × Nat)) (a : Addr) : AV → AV → MU → PQ → Prop := fun x y μ Q => ∃ p : Nat × Nat, p ∈ kvs ∧ x = .ref a ∧ isS y (tx [p.1]) ∧ Q (.dat true (.str (tx [p.2]))) μ
theorem od_getC {kvs : List (Nat × Nat)} {a : Addr} : OpD K R (rGetC kvs a) (aGetC kvs a) := by
  rintro A H μ x y ax ay Qc Q W rx ry kq ⟨p, hp, h1, h2, q⟩
  subst h1
  exact ⟨p, hp, rx, ry.s h2, kq.s W q⟩
end
end Fv

/-! a comprehension over range(n) whose items may change what is tracked -/
namespace Fv
open PySem PySem.Spec PyProof.Rows L2
section
variable {K : PySem.W.Frag} {R : RK} {Wc : WX} {A H : Hp} {μ : MU}
def wLcRO (wa : WA') (wg : WG') (wt : WT') (we : WE') (vs : List Nat) : WE' := fun l μ Q X => wa l μ (fun xs μ1 => ∃ x j, xs = [x] ∧ isI x j ∧ -(2 ^ 62) ≤ j ∧ j < 2 ^ 62 ∧ lcOwn wg wt we vs l μ1 ((List.range j.toNat).map fun (k : Nat) => iAV (k : Int)) Q) X
theorem d_lcRO {ta : TA} {wa : WA'} {g : TG} {tt : TT} {te : TE} {wg : WG'} {wt : WT'} {we : WE'} {vs : List Nat} (ha : DA K R Wc ta wa) (hg : DG K R g wg) (ht : DT K R (fun _ _ _ _ => False) tt wt) (he : DE K R (fun _ _ _ _ => False) te we) (ow : OwnT g vs) :
    DE K R Wc (tLc (iRng1 ta) g tt te vs) (wLcRO wa wg wt we vs) := ⟨fun A H μ σ l Qc Q X W L kq kx q =>
  ha.run A H μ σ l _ _ X W L (fun A1 H1 μ1 us avs s1 W1 rv ⟨x, j, ex, hj, b1, b2, hn, IV, i0, step, fin⟩ => by
    subst ex
    obtain ⟨v, rfl, rx⟩ := rv.one
    have r1 := L.mono s1.grow
    rw [List.length_map, List.length_range] at hn
    refine ⟨j, by rw [rx.i hj], b1, b2, fun D hD => lc_range (lo := 0) (n := j.toNat) (LcPo K R A1 H1 μ1 D IV) (lco_start W1 hD i0) (fun i H' hi p => ?_) (fun H' p => ?_)⟩
    · rw [Int.zero_add]
      exact lco_turn hg ht he ow r1.len r1 (by omega) hD (show RV K A1 (.int (i : Int)) (iAV (i : Int)) from Tr.int _) (fun acc μ' => step i _ acc μ' (by rw [List.getElem?_map, List.getElem?_range hi]; rfl)) p
    · rw [List.length_map, List.length_range] at fin
      exact lco_end hD (kq.go s1) fin p) kx q⟩
/-- joined signs: of a list that may change, and is left -/
theorem glue_ref {a : Addr} {cs : List Nat} {μ : MU} (h : μ a = some (.lst ((cs.map fun c => tx [c]).map fun z => AV.dat true (.str z)))) : isL μ (.ref a) ((cs.map fun c => tx [c]).map fun z => AV.dat true (.str z)) := h
/-- [.. for i in range(a, b)] -/
def wLcR2 (m : Bool) (wa : WA') (wg : WG') (wt : WT') (we : WE') (vs : List Nat) : WE' := fun l μ Q X => wa l μ (fun xs μ1 => ∃ x y i j, xs = [x, y] ∧ isI x i ∧ isI y j ∧ (-(2 ^ 62) ≤ i ∧ i < 2 ^ 62 ∧ -(2 ^ 62) ≤ j ∧ j < 2 ^ 62) ∧ lcAll m wg wt we vs l μ1 ((List.range (j - i).toNat).map fun (k : Nat) => iAV (i + (k : Int))) Q) X
theorem d_lcR2 {m : Bool} {ta : TA} {wa : WA'} {g : TG} {tt : TT} {te : TE} {wg : WG'} {wt : WT'} {we : WE'} {vs : List Nat} (ha : DA K R Wc ta wa) (hg : DG K R g wg) (ht : DT K R (fun _ _ _ _ => False) tt wt) (he : DE K R (fun _ _ _ _ => False) te we) (ow : OwnT g vs) :
    DE K R Wc (tLc (iRng2 ta) g tt te vs) (wLcR2 m wa wg wt we vs) := ⟨fun A H μ σ l Qc Q X W L kq kx q =>
  ha.run A H μ σ l _ _ X W L (fun A1 H1 μ1 us avs s1 W1 rv ⟨x, y, i0, j, ex, hi, hj, b, hn, rel, item, fin⟩ => by
    subst ex
    obtain ⟨v, u, rfl, rx, ry⟩ := rv.two
    have r1 := L.mono s1.grow
    rw [List.length_map, List.length_range] at hn
    refine ⟨i0, j, by rw [rx.i hi, ry.i hj], b, fun D hD => lc_range (lo := i0) (n := (j - i0).toNat) (LcPv K R A1 H1 μ1 D rel) (lc_start W1 hD) (fun i H' hi p => ?_) (fun H' p => ?_)⟩
    · exact lc_turn hg ht he ow W1 r1.len r1 (by omega) hD (show RV K A1 (.int (i0 + (i : Int))) (iAV (i0 + (i : Int))) from Tr.int _) (item i _ (by rw [List.getElem?_map, List.getElem?_range hi]; rfl)) p
    · rw [List.length_map, List.length_range] at fin
      exact lc_end W1 hD (kq.go s1) fin p) kx q⟩
/-- a list of whole numbers that may change, and stays -/
def intA (ns : List Int) : List AV := (ns.map PyData.int).map (AV.dat true)
theorem rvs_intA {vs : List V} : ∀ {ns : List Int}, RVs K A vs (intA ns) → vs = ns.map V.int := by
  intro ns r
  induction ns generalizing vs with
  | nil => cases r; rfl
  | cons b bs ih =>
    cases r with
    | cons r1 r2 =>
      rw [ih r2, r1.i (isI_int.mpr rfl)]; rfl
theorem WW.ints {a : Addr} {ns : List Int} (W : WW K R A H μ) (h : μ a = some (.lst (intA ns))) : H a = some (.lst (ns.map V.int)) := by
  obtain ⟨_, ho, h1, vs, rfl, h2⟩ := W.obs a _ h
  rw [h1, rvs_intA h2]
/-- a comprehension over such a list, of items that are data -/
def wLcRi (m : Bool) (wl : WE') (wg : WG') (wt : WT') (we : WE') (vs : List Nat) : WE' := fun l μ Q X => wl l μ (fun x μ1 => ∃ (a : Addr) (ns : List Int), x = .ref a ∧ μ1 a = some (.lst (intA ns)) ∧ lcAll m wg wt we vs l μ1 (intA ns) Q) X
theorem d_lcRi {m : Bool} {tl : TE} {wl : WE'} {g : TG} {tt : TT} {te : TE} {wg : WG'} {wt : WT'} {we : WE'} {vs : List Nat} (hl : DE K R Wc tl wl) (hg : DG K R g wg) (ht : DT K R (fun _ _ _ _ => False) tt wt) (he : DE K R (fun _ _ _ _ => False) te we) (ow : OwnT g vs) :
    DE K R Wc (tLc (iList K tl) g tt te vs) (wLcRi m wl wg wt we vs) := ⟨fun A H μ σ l Qc Q X W L kq kx q =>
  hl.run A H μ σ l _ _ X W L (fun A1 H1 μ1 v av s1 W1 rv ⟨a, bs, ea, ha, hn, rel, item, fin⟩ => by
    subst ea
    cases (show v = .ref a from rv)
    have r1 := L.mono s1.grow
    have hlen : (intA bs).length = bs.length := by unfold intA; rw [List.length_map, List.length_map]
    refine ⟨a, rfl, ⟨_, SqL.of (W1.ints ha)⟩, fun D hD => lc_list (K := K) (a := a) (xs := bs.map V.int) (LcPv K R A1 H1 μ1 D rel) (lc_start W1 hD) (fun i H' _ ⟨A', acc, zs, s, W', _⟩ => SqL.of (W'.ints ha)) (fun i x H' hx p => ?_) (fun H' p => ?_)⟩
    · rw [List.getElem?_map] at hx
      obtain ⟨b, hb2, rfl⟩ := Option.map_eq_some_iff.mp hx
      have hi : i < (intA bs).length := by rw [hlen]; exact (List.getElem?_eq_some_iff.mp hb2).1
      exact lc_turn hg ht he ow W1 r1.len r1 (by omega) hD (x := V.int b) (ax := .dat true (.int b)) (Tr.int _) (item i _ (by unfold intA; rw [List.getElem?_map, List.getElem?_map, hb2]; rfl)) p
    · rw [List.length_map, ← hlen] at p
      exact lc_end (m := m) W1 hD (kq.go s1) fin p) kx q⟩
end
end Fv

namespace Fv
open PySem PySem.Spec PyProof.Rows L2
/-! the text -/
def topS (i : Nat) : Stmt := PySem.Challenge.pw_foldvat_k37_beginnings_told.main.body.getD i (.Pass ⟨0, 0, 0, 0⟩)
namespace D_is_pattern
abbrev st : Stmt := topS 8
abbrev ps : List Str := ["thing"]
abbrev N : List Str := ["thing", "sign"]
theorem sc : FnScope N ps (defScope st) := ⟨rfl, rfl, rfl, by decide +kernel, rfl, by decide +kernel, by decide +kernel⟩
end D_is_pattern
namespace D_check_pattern
abbrev st : Stmt := topS 9
abbrev ps : List Str := ["pattern"]
abbrev N : List Str := ["pattern"]
theorem sc : FnScope N ps (defScope st) := ⟨rfl, rfl, rfl, by decide +kernel, rfl, by decide +kernel, by decide +kernel⟩
end D_check_pattern
namespace D_whole_of
abbrev st : Stmt := topS 10
abbrev ps : List Str := ["pattern"]
abbrev N : List Str := ["pattern"]
theorem sc : FnScope N ps (defScope st) := ⟨rfl, rfl, rfl, by decide +kernel, rfl, by decide +kernel, by decide +kernel⟩
end D_whole_of
namespace D_reach_at
abbrev st : Stmt := topS 11
abbrev ps : List Str := ["pattern", "number"]
abbrev N : List Str := ["pattern", "number", "reach", "one", "other"]
theorem sc : FnScope N ps (defScope st) := ⟨rfl, rfl, rfl, by decide +kernel, rfl, by decide +kernel, by decide +kernel⟩
end D_reach_at
namespace D_reaches_of
abbrev st : Stmt := topS 12
abbrev ps : List Str := ["pattern"]
abbrev N : List Str := ["pattern", "number", "sign"]
theorem sc : FnScope N ps (defScope st) := ⟨rfl, rfl, rfl, by decide +kernel, rfl, by decide +kernel, by decide +kernel⟩
end D_reaches_of
namespace D_bent_in
abbrev st : Stmt := topS 13
abbrev ps : List Str := ["reaches", "stretch"]
abbrev N : List Str := ["reaches", "stretch", "first", "behind", "number"]
theorem sc : FnScope N ps (defScope st) := ⟨rfl, rfl, rfl, by decide +kernel, rfl, by decide +kernel, by decide +kernel⟩
end D_bent_in
namespace D_begun
abbrev st : Stmt := topS 14
abbrev ps : List Str := ["reaches", "stretch"]
abbrev N : List Str := ["reaches", "stretch", "first", "behind", "number"]
theorem sc : FnScope N ps (defScope st) := ⟨rfl, rfl, rfl, by decide +kernel, rfl, by decide +kernel, by decide +kernel⟩
end D_begun
namespace D_beginnings
abbrev st : Stmt := topS 15
abbrev ps : List Str := ["pattern"]
abbrev N : List Str := ["pattern"]
theorem sc : FnScope N ps (defScope st) := ⟨rfl, rfl, rfl, by decide +kernel, rfl, by decide +kernel, by decide +kernel⟩
end D_beginnings
namespace D__law_bag
abbrev st : Stmt := topS 17
abbrev ps : List Str := ["script"]
abbrev N : List Str := ["script", "total", "cell"]
theorem sc : FnScope N ps (defScope st) := ⟨rfl, rfl, rfl, by decide +kernel, rfl, by decide +kernel, by decide +kernel⟩
end D__law_bag
namespace D__law_stir
abbrev st : Stmt := topS 18
abbrev ps : List Str := ["number", "place"]
abbrev N : List Str := ["number", "place", "one", "two"]
theorem sc : FnScope N ps (defScope st) := ⟨rfl, rfl, rfl, by decide +kernel, rfl, by decide +kernel, by decide +kernel⟩
end D__law_stir
namespace D__law_draw
abbrev st : Stmt := topS 19
abbrev ps : List Str := ["bag", "many"]
abbrev N : List Str := ["bag", "many", "cell", "found"]
theorem sc : FnScope N ps (defScope st) := ⟨rfl, rfl, rfl, by decide +kernel, rfl, by decide +kernel, by decide +kernel⟩
end D__law_draw
namespace D__law_mixed
abbrev st : Stmt := topS 20
abbrev ps : List Str := ["bag", "row"]
abbrev N : List Str := ["bag", "row", "left", "k"]
theorem sc : FnScope N ps (defScope st) := ⟨rfl, rfl, rfl, by decide +kernel, rfl, by decide +kernel, by decide +kernel⟩
end D__law_mixed
namespace D__law_begins
abbrev st : Stmt := topS 21
abbrev ps : List Str := ["signs", "first", "behind", "at"]
abbrev N : List Str := ["signs", "first", "behind", "at", "t"]
theorem sc : FnScope N ps (defScope st) := ⟨rfl, rfl, rfl, by decide +kernel, rfl, by decide +kernel, by decide +kernel⟩
end D__law_begins
namespace D__law_sides
abbrev st : Stmt := topS 22
abbrev ps : List Str := ["first", "behind", "at"]
abbrev N : List Str := ["first", "behind", "at", "left", "right"]
theorem sc : FnScope N ps (defScope st) := ⟨rfl, rfl, rfl, by decide +kernel, rfl, by decide +kernel, by decide +kernel⟩
end D__law_sides
namespace D__law_folds
abbrev st : Stmt := topS 23
abbrev ps : List Str := ["signs", "first", "behind"]
abbrev N : List Str := ["signs", "first", "behind", "at"]
theorem sc : FnScope N ps (defScope st) := ⟨rfl, rfl, rfl, by decide +kernel, rfl, by decide +kernel, by decide +kernel⟩
end D__law_folds
namespace D__law_signs_drawn
abbrev st : Stmt := topS 24
abbrev ps : List Str := ["bag", "most"]
abbrev N : List Str := ["bag", "most", "kind", "many", "found", "mirrored", "k", "sign"]
theorem sc : FnScope N ps (defScope st) := ⟨rfl, rfl, rfl, by decide +kernel, rfl, by decide +kernel, by decide +kernel⟩
end D__law_signs_drawn
namespace D_law
abbrev st : Stmt := topS 25
abbrev ps : List Str := ["script"]
abbrev N : List Str := ["script", "bag", "turn", "signs", "due", "again", "told", "number"]
theorem sc : FnScope N ps (defScope st) := ⟨rfl, rfl, rfl, by decide +kernel, rfl, by decide +kernel, by decide +kernel⟩
end D_law

end Fv

--raise check_pattern beginnings row_for shut shut_holds
namespace Fv
open PySem PySem.Spec PyProof.Rows L2
local macro_rules | `(tactic| walk_at "vd") => `(tactic| simp only [wLcRO, wLcRi, wLcR2, wDcEn, dcItem, wFrzD, wDGetF, wLcK, aInC, aGetC, wForZipS, wWhile, wGlue, wIndexS, wCountS, wSlS, wRevS, aIxS, aRepS, aAddS, bLenS, wStepL, wReverse, wLcSO, wForO, wLcRf, wCallT, wExtend, bSorted, wSl21, wRevT, wDisp, wPairs, wDGetK, insD_inj, OB.ins.injEq, wFldB, wFldR, wSetF, wMake, wMeth0, wFrzI, wFrzB, wLstB, wTupB, wForB, wForRevB, wListZipB, wForEnT, uTurns, wToF, wForR3, wLeast, wTIdx, isL_ob, isT_ob, avB_int, avB_bool, avB_str, avB_none, avB_list, avB_tuple, avB_ins, AV.ob.injEq, PyData.list.injEq, PyData.tuple.injEq, fd6, aEqI, aEqS, aEqB, wJoin, wJoinT, wJoinS, wUnlike, wIfC, bMaxL, bMinL, wToI, wLCount, wLIndex, wForZip, wLcZip, wListZip, wCallL, wFrzV, wDNew, wDPut, wDGet2, wSortIt, wForEnum, wLcEnum, wForRev, wLcRev, wForStr, wLcStr, wTryAs, endAs, wIsXT, bIsX, clsA_ref, clsA_ty, wForL, wForT, wForS, wForR1, wForR2, wLcL, wLcT, wLcS, wLcR1, wVar, wC, wOp, wUn, wFrz, aI0, aI, aU, aEq, aIxL, aIxT, aIx, wNotV, wAndV, wOrV, wChain, wB, wNot, wAnd, wOr, wYes, wIf, aIsN, aTyIs, wNil, wCons, wStar, wTup, wLst, newL_t, newL_f, newT, wTyIn, wIsiT, wCall0, wCall, wCB, bLen, bMax2, bMin2, bAbs, bInt, bTyp, wAppend, wNoPart, wPart, wSlL, wSlT, bStr, aCatT, wRevL, wgName, wgNil, wgCons, wgTup, wgSub, wgTL, wNext, wSeq, wDrop, wRet, wRetN, wIfS, wAsg, wNever, wPar, wRaise, wAug, wBreak, wCont, wTry, wTry0, entry, DEnds.turn, lcItem, wipeA, wNevE, updM_same, OB.lst.injEq, updM_updM, isI_int, isB_bool, isS_str, isI_str, isI_bool, isS_int, isS_bool, isB_int, isB_str, isL_list, isL_tuple, isL_ref, isT_tuple, isT_list, isT_ref, isD_dat, isD_ref, isNo_none, isNo_int, isNo_str, isNo_bool, isNo_list, isNo_tuple, isNo_ref, dats_nil, dats_cons, fr_dat, Option.map_some, fd1, fd2, fd3, fd4, fd5, tyO_dat, tyO_ref, tyD_none, tyD_bool, tyD_int, tyD_str, tyD_list, tyD_tuple, tyD_dict,
  List.all_cons, List.all_nil, List.map_cons, List.map_nil, Bool.and_true, Bool.true_and, xor_f, xor_t, Int.reduceToNat,
  List.getElem?_cons_zero, List.getElem?_cons_succ, List.set_cons_zero, List.set_cons_succ, List.append_nil, List.nil_append, List.cons_append, List.length_cons, List.length_nil, List.cons.injEq, Option.some.injEq, AV.dat.injEq, AV.ref.injEq, AV.ty.injEq, PyData.int.injEq, PyData.str.injEq, PyData.bool.injEq,
  and_true, true_and, and_assoc, exists_eq_left', exists_eq_left, exists_and_left, exists_eq', exists_eq, exists_eq_right, exists_eq_right', decide_eq_true_eq, Bool.not_eq_true', Bool.false_eq_true, if_true, if_false, reduceCtorEq, false_and, and_false, or_false, false_or, exists_false, decide_true, decide_false, Nat.zero_add, ite_true, ite_false, decide_eq_false_iff_not])

/-! patterns: what they are, how far both sides of a bend go -/
/-- what has to lie on a sign -/
def parC (c : Nat) : Option Nat := if c = 104 then some 100 else if c = 100 then some 104 else if c = 45 then some 45 else none
def okC (c : Nat) : Bool := ([(104, 100), (100, 104), (45, 45)] : List (Nat × Nat)).any fun p => p.1 == c
theorem okC_par {c : Nat} (h : okC c = true) : ∃ d, parC c = some d ∧ (c, d) ∈ ([(104, 100), (100, 104), (45, 45)] : List (Nat × Nat)) := by
  unfold okC at h
  simp only [List.any_cons, List.any_nil, Bool.or_false, Bool.or_eq_true, beq_iff_eq] at h
  rcases h with rfl | rfl | rfl
  · exact ⟨100, rfl, by decide⟩
  · exact ⟨104, rfl, by decide⟩
  · exact ⟨45, rfl, by decide⟩
/-- how many hills and dales -/
def bentN (l : List Nat) : Nat := l.length - l.count 45
structure PatL (l : List Nat) : Prop where
  len : l.length ≤ 299
  ok : ∀ c ∈ l, okC c = true
def patB (l : List Nat) : Bool := decide (l.length ≤ 299) && l.all okC
theorem patB_iff {l : List Nat} : patB l = true ↔ PatL l := by
  unfold patB
  rw [Bool.and_eq_true, decide_eq_true_eq, List.all_eq_true]
  exact ⟨fun h => ⟨h.1, h.2⟩, fun h => ⟨h.len, h.ok⟩⟩
theorem tx_dash : Str.ofString "-" = tx [45] := by rw [str_tx]; decide
theorem signs_tx (l : List Nat) : signsD (tx l) = l.map fun c => .str (tx [c]) := by
  unfold signsD tx
  simp
def isStrD : PyData → Bool | .str _ => true | _ => false
def pairsN (l : List Nat) (i : Nat) : List (Nat × Nat) := (l.drop (i + 1)).zip (l.take i).reverse
def meetB (p : Nat × Nat) : Bool := decide (parC p.1 = some p.2)
def reachN (l : List Nat) (i : Nat) : Nat := ((pairsN l i).takeWhile meetB).length
def fR (l : List Nat) (i : Nat) : Option (Int × Int) := if l[i]? = some 45 then none else some ((i : Int), (reachN l i : Int))
def withinL (kvs : Steps) (a b : Int) : List Int := (kvs.map (·.1)).filter fun n => decide (a ≤ n) && decide (n < b - 1)
def begunL (kvs : Steps) (a b : Int) : List Int := (withinL kvs a b).filter fun n => decide ((if b - 2 - n < n - a then b - 2 - n else n - a) ≤ (getI kvs n).getD 0)
theorem tw_len {α : Type} (q : α → Bool) : ∀ (m : Nat) (l : List α), (∀ j, j < m → ∃ p, l[j]? = some p ∧ q p = true) → (∀ p, l[m]? = some p → q p = false) → (l.takeWhile q).length = m
  | 0, [], _, _ => rfl
  | 0, p :: r, _, h => by rw [List.takeWhile_cons, h p rfl]; rfl
  | m + 1, [], h, _ => by
    obtain ⟨p, hp, _⟩ := h 0 (by omega)
    cases hp
  | m + 1, p :: r, h, h2 => by
    obtain ⟨p', hp, hq⟩ := h 0 (by omega)
    obtain rfl := Option.some.inj hp
    rw [List.takeWhile_cons, hq, if_pos rfl, List.length_cons, tw_len q m r (fun j hj => h (j + 1) (by omega)) (fun z hz => h2 z hz)]
theorem fm_filter {α : Type} (p : Int → Bool) (g : α → Int) : ∀ l : List α, l.filterMap (fun x => if p (g x) = true then some (PyData.int (g x)) else none) = ((l.map g).filter p).map PyData.int
  | [] => rfl
  | x :: r => by
    rw [List.filterMap_cons, List.map_cons, fm_filter p g r]
    cases h : p (g x) with
    | true => rw [if_pos rfl, List.filter_cons_of_pos h]; rfl
    | false => rw [if_neg Bool.false_ne_true, List.filter_cons_of_neg (by rw [h]; exact Bool.false_ne_true)]
theorem meet_par {c d : Nat} {e : Nat} (h : parC c = some e) : meetB (c, d) = decide (e = d) := by
  unfold meetB
  rw [show parC (c, d).1 = some e from h]
  by_cases z : e = d
  · rw [decide_eq_true z, decide_eq_true (by rw [z])]
  · rw [decide_eq_false z, decide_eq_false (fun y => z (Option.some.inj y))]
theorem tx1 {c d : Nat} : tx [c] = tx [d] ↔ c = d := ⟨fun h => by have := tx_inj h; simpa using this, fun h => by rw [h]⟩
def fd_is_pattern (x : AV) (μ : MU) (P : PQ) (X : PXq) : Prop := ∃ k d, x = .dat k d ∧ (isStrD d = false → P (bAV false) μ) ∧ ∀ l, d = .str (tx l) → l.length ≤ 100000 ∧ P (bAV (patB l)) μ
def fd_check_pattern (CN CT : Addr) (x : AV) (μ : MU) (P : PQ) (X : PXq) : Prop := ∃ k d, x = .dat k d ∧ (isStrD d = false → X (.ref CN) μ) ∧ ∀ l, d = .str (tx l) → l.length ≤ 100000 ∧ (patB l = false → X (.ref CN) μ) ∧ (patB l = true → (40 < bentN l → X (.ref CT) μ) ∧ (bentN l ≤ 40 → P (.dat true .none) μ))
def fd_whole_of (x : AV) (μ : MU) (P : PQ) (X : PXq) : Prop := ∃ k l, x = .dat k (.str (tx l)) ∧ l.length ≤ 299 ∧ P (.dat true (.tuple [.int 0, .int ((l.length : Int) + 1)])) μ
def fd_reach_at (x n : AV) (μ : MU) (P : PQ) (X : PXq) : Prop := ∃ k l kn, ∃ i : Nat, x = .dat k (.str (tx l)) ∧ n = .dat kn (.int (i : Int)) ∧ i < l.length ∧ PatL l ∧ P (iAV (reachN l i : Nat)) μ
def fd_reaches_of (x : AV) (μ : MU) (P : PQ) (X : PXq) : Prop := ∃ k l, x = .dat k (.str (tx l)) ∧ PatL l ∧ ∀ D od, μ D = none → P (.ref D) (updM μ D (.fdc od (dks (fR l) l.length)))
def fd_bent_in (r s : AV) (μ : MU) (P : PQ) (X : PXq) : Prop := ∃ D od kvs k a b, r = .ref D ∧ μ D = some (.fdc od kvs) ∧ kvs.length ≤ 1000 ∧ s = .dat k (.tuple [.int a, .int b]) ∧ P (.dat true (.list ((withinL kvs a b).map PyData.int))) μ
def fd_begun (r s : AV) (μ : MU) (P : PQ) (X : PXq) : Prop := ∃ D od kvs k a b, r = .ref D ∧ μ D = some (.fdc od kvs) ∧ kvs.length ≤ 1000 ∧ (kvs.map (·.1)).Nodup ∧ s = .dat k (.tuple [.int a, .int b]) ∧ ∀ A, μ A = none → P (.ref A) (updM μ A (.lst (((begunL kvs a b).map PyData.int).map (AV.dat true))))
section
variable {P : Program} {w : World} {K : PySem.W.Frag} {R : RK} {mg : Str → Option Value} {base : Heap}
theorem gd_is_pattern (D : DefAt K mg "is_pattern" D_is_pattern.st D_is_pattern.ps) (T : Bi mg) {t_MOST_SIGNS : Tok} (I_MOST_SIGNS : ConI mg "MOST_SIGNS" 299 t_MOST_SIGNS) {aD_PARTNERS : Addr} (S_PARTNERS : ConD K w mg "PARTNERS" aD_PARTNERS [(104, 100), (100, 104), (45, 45)]) :
    Good P w K mg base 1 "is_pattern" D_is_pattern.ps (spD K R (fd1 fd_is_pattern)) := by
  refine GoodD.of (N := D_is_pattern.N) (f := (fd1 fd_is_pattern)) D D_is_pattern.sc (fun avs μ P X h => by obtain ⟨_, rfl, _⟩ := h; rfl) (fun fa cdv A outer s H E hr => ?_)
  have nd := D_is_pattern.sc.nd
  have hu := hu_of hr
  refine ⟨_, (pss_cons (ps_if (PW.pt (pw_or (pt_cmpR op_notTyB (pe_callTy call_type1 (by rfl) T.n_type (by decide +kernel) (pa_cons (pv 0) pa_nil)) (pe_bltn (v := .ty "str") (u := .type "str") (by rfl) T.n_str (by decide +kernel) (by rfl)) (nomark _)) (pw_or1 (pt_cmpR op_gt (pe_callB call_len_str (by rfl) T.n_len (by decide +kernel) (pa_cons (pv 0) pa_nil)) (pe_glob (v := V.int 299) (by rfl) I_MOST_SIGNS.g ⟨_, rfl⟩) (nomark _))))) (pss_one (ps_ret pe_bl)) pss_nil) (pss_one (ps_ret (pe_callB (cr_all rfl) (by rfl) T.n_all (by decide +kernel) (pa_cons (pe_lc (own := [("sign", 1)]) (g := (gName 1)) (tt := tYes) (by rfl) nd (pi_str (pv 0)) (blkOk_by (own := [("sign", 1)]) (N := D_is_pattern.N) (sc := defScope D_is_pattern.st) (by decide +kernel)) (fun _ _ _ _ _ => (pg_name (i := 1) nd rfl (Or.inl rfl))) (fun _ _ _ _ _ => pts_nil) (fun _ _ _ _ _ => (pe_cmpR (op_inC (by rfl) (by rfl) S_PARTNERS) (pv 1) (pe_glob (v := V.ref aD_PARTNERS) (by rfl) S_PARTNERS.g rfl) (by rfl)))) pa_nil))))), _, (ds_seq (ds_if (d_or (d_tTest (d_op od_notTy (d_cb cd_typ (d_cons d_var d_nil)) d_ty)) (d_tTest (d_op od_I0b (d_cb cd_lenS (d_cons d_var d_nil)) d_int))) (ds_ret d_bl) ds_next) (ds_ret (d_cb cd_all (d_cons (d_lcStr (m := false) d_var dg_name d_yes (d_op od_inC d_var d_cref) (ownT_name (by decide))) d_nil)))), fun avs μ P X h => ?_⟩
  obtain ⟨a_thing, rfl, h⟩ := h
  rw [show startA D_is_pattern.N.length [a_thing] = [some a_thing, none] from rfl]
  obtain ⟨k, d, rfl, q1, q2⟩ := h
  simp (maxSteps := 2000000) only [wLcRO, wLcRi, wLcR2, wDcEn, dcItem, wFrzD, wDGetF, wLcK, aInC, aGetC, wForZipS, wWhile, wGlue, wIndexS, wCountS, wSlS, wRevS, aIxS, aRepS, aAddS, bLenS, wStepL, wReverse, wLcSO, wForO, wLcRf, wCallT, wExtend, bSorted, wSl21, wRevT, wDisp, wPairs, wDGetK, insD_inj, OB.ins.injEq, wFldB, wFldR, wSetF, wMake, wMeth0, wFrzI, wFrzB, wLstB, wTupB, wForB, wForRevB, wListZipB, wForEnT, uTurns, wToF, wForR3, wLeast, wTIdx, isL_ob, isT_ob, avB_int, avB_bool, avB_str, avB_none, avB_list, avB_tuple, avB_ins, AV.ob.injEq, PyData.list.injEq, PyData.tuple.injEq, fd6, aEqI, aEqS, aEqB, wJoin, wJoinT, wJoinS, wUnlike, wIfC, bMaxL, bMinL, wToI, wLCount, wLIndex, wForZip, wLcZip, wListZip, wCallL, wFrzV, wDNew, wDPut, wDGet2, wSortIt, wForEnum, wLcEnum, wForRev, wLcRev, wForStr, wLcStr, wTryAs, endAs, wIsXT, bIsX, clsA_ref, clsA_ty, wForL, wForT, wForS, wForR1, wForR2, wLcL, wLcT, wLcS, wLcR1, wVar, wC, wOp, wUn, wFrz, aI0, aI, aU, aEq, aIxL, aIxT, aIx, wNotV, wAndV, wOrV, wChain, wB, wNot, wAnd, wOr, wYes, wIf, aIsN, aTyIs, wNil, wCons, wStar, wTup, wLst, newL_t, newL_f, newT, wTyIn, wIsiT, wCall0, wCall, wCB, bLen, bMax2, bMin2, bAbs, bInt, bTyp, wAppend, wNoPart, wPart, wSlL, wSlT, bStr, aCatT, wRevL, wgName, wgNil, wgCons, wgTup, wgSub, wgTL, wNext, wSeq, wDrop, wRet, wRetN, wIfS, wAsg, wNever, wPar, wRaise, wAug, wBreak, wCont, wTry, wTry0, entry, DEnds.turn, lcItem, wipeA, wNevE, updM_same, OB.lst.injEq, updM_updM, isI_int, isB_bool, isS_str, isI_str, isI_bool, isS_int, isS_bool, isB_int, isB_str, isL_list, isL_tuple, isL_ref, isT_tuple, isT_list, isT_ref, isD_dat, isD_ref, isNo_none, isNo_int, isNo_str, isNo_bool, isNo_list, isNo_tuple, isNo_ref, dats_nil, dats_cons, fr_dat, Option.map_some, fd1, fd2, fd3, fd4, fd5, tyO_dat, tyO_ref, tyD_none, tyD_bool, tyD_int, tyD_str, tyD_list, tyD_tuple, tyD_dict,
  List.all_cons, List.all_nil, List.map_cons, List.map_nil, Bool.and_true, Bool.true_and, xor_f, xor_t, Int.reduceToNat,
  List.getElem?_cons_zero, List.getElem?_cons_succ, List.set_cons_zero, List.set_cons_succ, List.append_nil, List.nil_append, List.cons_append, List.length_cons, List.length_nil, List.cons.injEq, Option.some.injEq, AV.dat.injEq, AV.ref.injEq, AV.ty.injEq, PyData.int.injEq, PyData.str.injEq, PyData.bool.injEq,
  and_true, true_and, and_assoc, exists_eq_left', exists_eq_left, exists_and_left, exists_eq', exists_eq, exists_eq_right, exists_eq_right', decide_eq_true_eq, Bool.not_eq_true', Bool.false_eq_true, if_true, if_false, reduceCtorEq, false_and, and_false, or_false, false_or, exists_false, decide_true, decide_false, Nat.zero_add, ite_true, ite_false, decide_eq_false_iff_not]
  cases d with
  | str z =>
    obtain ⟨l, rfl⟩ := tx_of z
    obtain ⟨hl, q2⟩ := q2 l rfl
    refine (if_neg (by rw [tyD_str]; decide)).mpr ⟨l, rfl, hl, ?_⟩
    by_cases h : 299 < (l.length : Int)
    · refine (if_pos h).mpr ?_
      rw [show patB l = false by unfold patB; rw [decide_eq_false (by omega)]; rfl] at q2
      exact dropQ.here q2
    · refine (if_neg h).mpr ⟨tx l, rfl, lcAll_map (k := true) l (fun c => .bool (okC c)) (by rw [List.length_map, signs_tx, List.length_map]) (by omega) (fun i x c hx hc => ?_) (newL_tt ?_)⟩
      · rw [List.getElem?_map, signs_tx, List.getElem?_map, hc] at hx
        obtain rfl := Option.some.inj hx
        simp (maxSteps := 2000000) only [wLcRO, wLcRi, wLcR2, wDcEn, dcItem, wFrzD, wDGetF, wLcK, aInC, aGetC, wForZipS, wWhile, wGlue, wIndexS, wCountS, wSlS, wRevS, aIxS, aRepS, aAddS, bLenS, wStepL, wReverse, wLcSO, wForO, wLcRf, wCallT, wExtend, bSorted, wSl21, wRevT, wDisp, wPairs, wDGetK, insD_inj, OB.ins.injEq, wFldB, wFldR, wSetF, wMake, wMeth0, wFrzI, wFrzB, wLstB, wTupB, wForB, wForRevB, wListZipB, wForEnT, uTurns, wToF, wForR3, wLeast, wTIdx, isL_ob, isT_ob, avB_int, avB_bool, avB_str, avB_none, avB_list, avB_tuple, avB_ins, AV.ob.injEq, PyData.list.injEq, PyData.tuple.injEq, fd6, aEqI, aEqS, aEqB, wJoin, wJoinT, wJoinS, wUnlike, wIfC, bMaxL, bMinL, wToI, wLCount, wLIndex, wForZip, wLcZip, wListZip, wCallL, wFrzV, wDNew, wDPut, wDGet2, wSortIt, wForEnum, wLcEnum, wForRev, wLcRev, wForStr, wLcStr, wTryAs, endAs, wIsXT, bIsX, clsA_ref, clsA_ty, wForL, wForT, wForS, wForR1, wForR2, wLcL, wLcT, wLcS, wLcR1, wVar, wC, wOp, wUn, wFrz, aI0, aI, aU, aEq, aIxL, aIxT, aIx, wNotV, wAndV, wOrV, wChain, wB, wNot, wAnd, wOr, wYes, wIf, aIsN, aTyIs, wNil, wCons, wStar, wTup, wLst, newL_t, newL_f, newT, wTyIn, wIsiT, wCall0, wCall, wCB, bLen, bMax2, bMin2, bAbs, bInt, bTyp, wAppend, wNoPart, wPart, wSlL, wSlT, bStr, aCatT, wRevL, wgName, wgNil, wgCons, wgTup, wgSub, wgTL, wNext, wSeq, wDrop, wRet, wRetN, wIfS, wAsg, wNever, wPar, wRaise, wAug, wBreak, wCont, wTry, wTry0, entry, DEnds.turn, lcItem, wipeA, wNevE, updM_same, OB.lst.injEq, updM_updM, isI_int, isB_bool, isS_str, isI_str, isI_bool, isS_int, isS_bool, isB_int, isB_str, isL_list, isL_tuple, isL_ref, isT_tuple, isT_list, isT_ref, isD_dat, isD_ref, isNo_none, isNo_int, isNo_str, isNo_bool, isNo_list, isNo_tuple, isNo_ref, dats_nil, dats_cons, fr_dat, Option.map_some, fd1, fd2, fd3, fd4, fd5, tyO_dat, tyO_ref, tyD_none, tyD_bool, tyD_int, tyD_str, tyD_list, tyD_tuple, tyD_dict,
  List.all_cons, List.all_nil, List.map_cons, List.map_nil, Bool.and_true, Bool.true_and, xor_f, xor_t, Int.reduceToNat,
  List.getElem?_cons_zero, List.getElem?_cons_succ, List.set_cons_zero, List.set_cons_succ, List.append_nil, List.nil_append, List.cons_append, List.length_cons, List.length_nil, List.cons.injEq, Option.some.injEq, AV.dat.injEq, AV.ref.injEq, AV.ty.injEq, PyData.int.injEq, PyData.str.injEq, PyData.bool.injEq,
  and_true, true_and, and_assoc, exists_eq_left', exists_eq_left, exists_and_left, exists_eq', exists_eq, exists_eq_right, exists_eq_right', decide_eq_true_eq, Bool.not_eq_true', Bool.false_eq_true, if_true, if_false, reduceCtorEq, false_and, and_false, or_false, false_or, exists_false, decide_true, decide_false, Nat.zero_add, ite_true, ite_false, decide_eq_false_iff_not]
        exact ⟨c, rfl, rfl⟩
      · refine ⟨_, true, l.map okC, rfl, by rw [List.map_map]; rfl, ?_⟩
        have e : (l.map okC).all id = patB l := by
          unfold patB
          rw [decide_eq_true (by omega), Bool.true_and, List.all_map]; rfl
        rw [e]
        exact dropQ.here q2
  | _ => exact (if_pos (by simp only [tyD_none, tyD_bool, tyD_int, tyD_list, tyD_tuple, tyD_dict]; decide)).mpr (dropQ.here (q1 rfl))
theorem gd_whole_of (D : DefAt K mg "whole_of" D_whole_of.st D_whole_of.ps) (T : Bi mg) :
    Good P w K mg base 1 "whole_of" D_whole_of.ps (spD K R (fd1 fd_whole_of)) := by
  refine GoodD.of (N := D_whole_of.N) (f := (fd1 fd_whole_of)) D D_whole_of.sc (fun avs μ P X h => by obtain ⟨_, rfl, _⟩ := h; rfl) (fun fa cdv A outer s H E hr => ?_)
  have nd := D_whole_of.sc.nd
  have hu := hu_of hr
  refine ⟨_, (pss_one (ps_ret (pe_tup (pa_cons pe_int (pa_cons (pe_op op_add (pe_callB call_len_str (by rfl) T.n_len (by decide +kernel) (pa_cons (pv 0) pa_nil)) pe_int) pa_nil))))), _, (ds_ret (d_tup (d_cons d_int (d_cons (d_op od_I0i (d_cb cd_lenS (d_cons d_var d_nil)) d_int) d_nil)))), fun avs μ P X h => ?_⟩
  obtain ⟨a_pattern, rfl, h⟩ := h
  rw [show startA D_whole_of.N.length [a_pattern] = [some a_pattern] from rfl]
  obtain ⟨k, l, rfl, hl, q⟩ := h
  simp (maxSteps := 2000000) only [wLcRO, wLcRi, wLcR2, wDcEn, dcItem, wFrzD, wDGetF, wLcK, aInC, aGetC, wForZipS, wWhile, wGlue, wIndexS, wCountS, wSlS, wRevS, aIxS, aRepS, aAddS, bLenS, wStepL, wReverse, wLcSO, wForO, wLcRf, wCallT, wExtend, bSorted, wSl21, wRevT, wDisp, wPairs, wDGetK, insD_inj, OB.ins.injEq, wFldB, wFldR, wSetF, wMake, wMeth0, wFrzI, wFrzB, wLstB, wTupB, wForB, wForRevB, wListZipB, wForEnT, uTurns, wToF, wForR3, wLeast, wTIdx, isL_ob, isT_ob, avB_int, avB_bool, avB_str, avB_none, avB_list, avB_tuple, avB_ins, AV.ob.injEq, PyData.list.injEq, PyData.tuple.injEq, fd6, aEqI, aEqS, aEqB, wJoin, wJoinT, wJoinS, wUnlike, wIfC, bMaxL, bMinL, wToI, wLCount, wLIndex, wForZip, wLcZip, wListZip, wCallL, wFrzV, wDNew, wDPut, wDGet2, wSortIt, wForEnum, wLcEnum, wForRev, wLcRev, wForStr, wLcStr, wTryAs, endAs, wIsXT, bIsX, clsA_ref, clsA_ty, wForL, wForT, wForS, wForR1, wForR2, wLcL, wLcT, wLcS, wLcR1, wVar, wC, wOp, wUn, wFrz, aI0, aI, aU, aEq, aIxL, aIxT, aIx, wNotV, wAndV, wOrV, wChain, wB, wNot, wAnd, wOr, wYes, wIf, aIsN, aTyIs, wNil, wCons, wStar, wTup, wLst, newL_t, newL_f, newT, wTyIn, wIsiT, wCall0, wCall, wCB, bLen, bMax2, bMin2, bAbs, bInt, bTyp, wAppend, wNoPart, wPart, wSlL, wSlT, bStr, aCatT, wRevL, wgName, wgNil, wgCons, wgTup, wgSub, wgTL, wNext, wSeq, wDrop, wRet, wRetN, wIfS, wAsg, wNever, wPar, wRaise, wAug, wBreak, wCont, wTry, wTry0, entry, DEnds.turn, lcItem, wipeA, wNevE, updM_same, OB.lst.injEq, updM_updM, isI_int, isB_bool, isS_str, isI_str, isI_bool, isS_int, isS_bool, isB_int, isB_str, isL_list, isL_tuple, isL_ref, isT_tuple, isT_list, isT_ref, isD_dat, isD_ref, isNo_none, isNo_int, isNo_str, isNo_bool, isNo_list, isNo_tuple, isNo_ref, dats_nil, dats_cons, fr_dat, Option.map_some, fd1, fd2, fd3, fd4, fd5, tyO_dat, tyO_ref, tyD_none, tyD_bool, tyD_int, tyD_str, tyD_list, tyD_tuple, tyD_dict,
  List.all_cons, List.all_nil, List.map_cons, List.map_nil, Bool.and_true, Bool.true_and, xor_f, xor_t, Int.reduceToNat,
  List.getElem?_cons_zero, List.getElem?_cons_succ, List.set_cons_zero, List.set_cons_succ, List.append_nil, List.nil_append, List.cons_append, List.length_cons, List.length_nil, List.cons.injEq, Option.some.injEq, AV.dat.injEq, AV.ref.injEq, AV.ty.injEq, PyData.int.injEq, PyData.str.injEq, PyData.bool.injEq,
  and_true, true_and, and_assoc, exists_eq_left', exists_eq_left, exists_and_left, exists_eq', exists_eq, exists_eq_right, exists_eq_right', decide_eq_true_eq, Bool.not_eq_true', Bool.false_eq_true, if_true, if_false, reduceCtorEq, false_and, and_false, or_false, false_or, exists_false, decide_true, decide_false, Nat.zero_add, ite_true, ite_false, decide_eq_false_iff_not]
  exact ⟨l, rfl, by omega, by decide, dropQ.here q⟩
theorem gd_check_pattern (D : DefAt K mg "check_pattern" D_check_pattern.st D_check_pattern.ps) (T : Bi mg) {t_MOST_BENDS : Tok} (I_MOST_BENDS : ConI mg "MOST_BENDS" 40 t_MOST_BENDS) {C_NoPattern : Addr} (E_NoPattern : ExC K mg "NoPattern" C_NoPattern) {C_TooMany : Addr} (E_TooMany : ExC K mg "TooMany" C_TooMany)
    (h_is_pattern : Good P w K mg base 1 "is_pattern" D_is_pattern.ps (spD K R (fd1 fd_is_pattern))) :
    GoodX P w K mg base 2 "check_pattern" D_check_pattern.ps (spD K R (fd1 (fd_check_pattern C_NoPattern C_TooMany))) := by
  refine GoodXD.of (N := D_check_pattern.N) (f := (fd1 (fd_check_pattern C_NoPattern C_TooMany))) D D_check_pattern.sc (fun avs μ P X h => by obtain ⟨_, rfl, _⟩ := h; rfl) (fun fa cdv A outer s H E hr => ?_)
  obtain ⟨f_is_pattern, fx_is_pattern, m_is_pattern, k_is_pattern, b_is_pattern, G_is_pattern⟩ := h_is_pattern
  have nd := D_check_pattern.sc.nd
  have hu := hu_of hr
  have tk := takes_of (X := cxOf (L2.CX P w) P w K mg base D_check_pattern.N "check_pattern" (defScope D_check_pattern.st) fa cdv A outer s H E) rfl rfl rfl rfl
  refine ⟨_, (pss_cons (ps_if (pt_not (pt_val (pe_call G_is_pattern (hr.mono (by decide)) (by rfl) m_is_pattern k_is_pattern b_is_pattern .nil pass0 (pa_cons (pv 0) pa_nil)))) (pss_one (ps_raise rfl tk (pmk_own PySem.F.excBase_ValueError E_NoPattern.x E_NoPattern.g E_NoPattern.k (raises_own E_NoPattern.b E_NoPattern.t) rfl))) pss_nil) (pss_one (ps_if (pt_cmpR op_gt (pe_op op_sub (pe_callB call_len_str (by rfl) T.n_len (by decide +kernel) (pa_cons (pv 0) pa_nil)) (pe_m1 PySem.F.slot_str_count PySem.F.type_str_count mt_count (pv 0) pe_str)) (pe_glob (v := V.int 40) (by rfl) I_MOST_BENDS.g ⟨_, rfl⟩) (nomark _)) (pss_one (ps_raise rfl tk (pmk_own PySem.F.excBase_ValueError E_TooMany.x E_TooMany.g E_TooMany.k (raises_own E_TooMany.b E_TooMany.t) rfl))) pss_nil))), _, (ds_seq (ds_if (d_not (d_tB (d_call0 (d_cons d_var d_nil)))) ds_raise ds_next) (ds_if (d_tTest (d_op od_I0b (d_op od_I0i (d_cb cd_lenS (d_cons d_var d_nil)) (d_countS d_var d_str)) d_int)) ds_raise ds_next)), fun avs μ P X h => ?_⟩
  obtain ⟨a_pattern, rfl, h⟩ := h
  rw [show startA D_check_pattern.N.length [a_pattern] = [some a_pattern] from rfl]
  obtain ⟨k, d, rfl, q1, q2⟩ := h
  simp (maxSteps := 2000000) only [wLcRO, wLcRi, wLcR2, wDcEn, dcItem, wFrzD, wDGetF, wLcK, aInC, aGetC, wForZipS, wWhile, wGlue, wIndexS, wCountS, wSlS, wRevS, aIxS, aRepS, aAddS, bLenS, wStepL, wReverse, wLcSO, wForO, wLcRf, wCallT, wExtend, bSorted, wSl21, wRevT, wDisp, wPairs, wDGetK, insD_inj, OB.ins.injEq, wFldB, wFldR, wSetF, wMake, wMeth0, wFrzI, wFrzB, wLstB, wTupB, wForB, wForRevB, wListZipB, wForEnT, uTurns, wToF, wForR3, wLeast, wTIdx, isL_ob, isT_ob, avB_int, avB_bool, avB_str, avB_none, avB_list, avB_tuple, avB_ins, AV.ob.injEq, PyData.list.injEq, PyData.tuple.injEq, fd6, aEqI, aEqS, aEqB, wJoin, wJoinT, wJoinS, wUnlike, wIfC, bMaxL, bMinL, wToI, wLCount, wLIndex, wForZip, wLcZip, wListZip, wCallL, wFrzV, wDNew, wDPut, wDGet2, wSortIt, wForEnum, wLcEnum, wForRev, wLcRev, wForStr, wLcStr, wTryAs, endAs, wIsXT, bIsX, clsA_ref, clsA_ty, wForL, wForT, wForS, wForR1, wForR2, wLcL, wLcT, wLcS, wLcR1, wVar, wC, wOp, wUn, wFrz, aI0, aI, aU, aEq, aIxL, aIxT, aIx, wNotV, wAndV, wOrV, wChain, wB, wNot, wAnd, wOr, wYes, wIf, aIsN, aTyIs, wNil, wCons, wStar, wTup, wLst, newL_t, newL_f, newT, wTyIn, wIsiT, wCall0, wCall, wCB, bLen, bMax2, bMin2, bAbs, bInt, bTyp, wAppend, wNoPart, wPart, wSlL, wSlT, bStr, aCatT, wRevL, wgName, wgNil, wgCons, wgTup, wgSub, wgTL, wNext, wSeq, wDrop, wRet, wRetN, wIfS, wAsg, wNever, wPar, wRaise, wAug, wBreak, wCont, wTry, wTry0, entry, DEnds.turn, lcItem, wipeA, wNevE, updM_same, OB.lst.injEq, updM_updM, isI_int, isB_bool, isS_str, isI_str, isI_bool, isS_int, isS_bool, isB_int, isB_str, isL_list, isL_tuple, isL_ref, isT_tuple, isT_list, isT_ref, isD_dat, isD_ref, isNo_none, isNo_int, isNo_str, isNo_bool, isNo_list, isNo_tuple, isNo_ref, dats_nil, dats_cons, fr_dat, Option.map_some, fd1, fd2, fd3, fd4, fd5, tyO_dat, tyO_ref, tyD_none, tyD_bool, tyD_int, tyD_str, tyD_list, tyD_tuple, tyD_dict,
  List.all_cons, List.all_nil, List.map_cons, List.map_nil, Bool.and_true, Bool.true_and, xor_f, xor_t, Int.reduceToNat,
  List.getElem?_cons_zero, List.getElem?_cons_succ, List.set_cons_zero, List.set_cons_succ, List.append_nil, List.nil_append, List.cons_append, List.length_cons, List.length_nil, List.cons.injEq, Option.some.injEq, AV.dat.injEq, AV.ref.injEq, AV.ty.injEq, PyData.int.injEq, PyData.str.injEq, PyData.bool.injEq,
  and_true, true_and, and_assoc, exists_eq_left', exists_eq_left, exists_and_left, exists_eq', exists_eq, exists_eq_right, exists_eq_right', decide_eq_true_eq, Bool.not_eq_true', Bool.false_eq_true, if_true, if_false, reduceCtorEq, false_and, and_false, or_false, false_or, exists_false, decide_true, decide_false, Nat.zero_add, ite_true, ite_false, decide_eq_false_iff_not, fd_is_pattern]
  refine ⟨q1, fun l e => ?_⟩
  obtain ⟨h1, h2, h3⟩ := q2 l e
  subst e
  refine ⟨h1, ?_⟩
  cases hp : patB l with
  | false => exact (if_pos rfl).mpr (h2 hp)
  | true =>
    obtain ⟨h4, h5⟩ := h3 hp
    have hc : l.count 45 ≤ l.length := List.count_le_length
    refine (if_neg (by decide)).mpr ⟨l, rfl, h1, l, rfl, 45, tx_dash, ?_⟩
    unfold bentN at h4 h5
    by_cases h : (40 : Int) < (l.length : Int) - (l.count 45 : Nat)
    · exact (if_pos h).mpr (h4 (by omega))
    · exact (if_neg h).mpr (dropQ.here (h5 (by omega)))
theorem gd_reach_at (D : DefAt K mg "reach_at" D_reach_at.st D_reach_at.ps) (T : Bi mg) {aD_PARTNERS : Addr} (S_PARTNERS : ConD K w mg "PARTNERS" aD_PARTNERS [(104, 100), (100, 104), (45, 45)]) :
    Good P w K mg base 1 "reach_at" D_reach_at.ps (spD K R (fd2 fd_reach_at)) := by
  refine GoodD.of (N := D_reach_at.N) (f := (fd2 fd_reach_at)) D D_reach_at.sc (fun avs μ P X h => by obtain ⟨_, _, rfl, _⟩ := h; rfl) (fun fa cdv A outer s H E hr => ?_)
  have nd := D_reach_at.sc.nd
  have hu := hu_of hr
  refine ⟨_, (pss_cons (ps_set (i := 2) nd rfl (Or.inl rfl) pe_int) (pss_cons (ps_for PassesOwn.never (by rfl) (pi_zipS (by rfl) T.n_zip (pa_cons (pe_slice sl_str (pv 0) (po_some (pe_op op_add (pv 1) pe_int)) po_none) (pa_cons (pe_revS (pe_slice sl_str (pv 0) po_none (po_some (pv 1)))) pa_nil))) (pg_tup (by rfl) (pgs_cons (pg_name (i := 3) nd rfl (Or.inl rfl)) (pgs_cons (pg_name (i := 4) nd rfl (Or.inl rfl)) pgs_nil))) (pss_cons (ps_if (pt_cmpR op_ne (pe_getC (by rfl) (by rfl) S_PARTNERS (pe_glob (v := V.ref aD_PARTNERS) (by rfl) S_PARTNERS.g rfl) (pv 3) (fun _ _ => rfl)) (pv 4) (nomark _)) (pss_one ps_break) pss_nil) (pss_one (ps_aug (i := 2) nd rfl (Or.inl rfl) pe_int ip_add)))) (pss_one (ps_ret (pv 2))))), _, (ds_seq (ds_asg d_int dg_name) (ds_seq (ds_forZipS (d_cons (d_slS d_var (d_part (d_op od_I0i d_var d_int)) d_noPart) (d_cons (d_revS (d_slS d_var d_noPart (d_part d_var))) d_nil)) (dg_tup (dgs_cons dg_name (dgs_cons dg_name dgs_nil))) (ds_seq (ds_if (d_tTest (d_op od_neS (d_op od_getC d_cref d_var) d_var)) ds_break ds_next) (ds_aug d_int od_ip))) (ds_ret d_var))), fun avs μ P X h => ?_⟩
  obtain ⟨a_pattern, a_number, rfl, h⟩ := h
  rw [show startA D_reach_at.N.length [a_pattern, a_number] = [some a_pattern, some a_number, none, none, none] from rfl]
  obtain ⟨k, l, kn, i, rfl, rfl, hi, pat, q⟩ := h
  simp (maxSteps := 2000000) only [wLcRO, wLcRi, wLcR2, wDcEn, dcItem, wFrzD, wDGetF, wLcK, aInC, aGetC, wForZipS, wWhile, wGlue, wIndexS, wCountS, wSlS, wRevS, aIxS, aRepS, aAddS, bLenS, wStepL, wReverse, wLcSO, wForO, wLcRf, wCallT, wExtend, bSorted, wSl21, wRevT, wDisp, wPairs, wDGetK, insD_inj, OB.ins.injEq, wFldB, wFldR, wSetF, wMake, wMeth0, wFrzI, wFrzB, wLstB, wTupB, wForB, wForRevB, wListZipB, wForEnT, uTurns, wToF, wForR3, wLeast, wTIdx, isL_ob, isT_ob, avB_int, avB_bool, avB_str, avB_none, avB_list, avB_tuple, avB_ins, AV.ob.injEq, PyData.list.injEq, PyData.tuple.injEq, fd6, aEqI, aEqS, aEqB, wJoin, wJoinT, wJoinS, wUnlike, wIfC, bMaxL, bMinL, wToI, wLCount, wLIndex, wForZip, wLcZip, wListZip, wCallL, wFrzV, wDNew, wDPut, wDGet2, wSortIt, wForEnum, wLcEnum, wForRev, wLcRev, wForStr, wLcStr, wTryAs, endAs, wIsXT, bIsX, clsA_ref, clsA_ty, wForL, wForT, wForS, wForR1, wForR2, wLcL, wLcT, wLcS, wLcR1, wVar, wC, wOp, wUn, wFrz, aI0, aI, aU, aEq, aIxL, aIxT, aIx, wNotV, wAndV, wOrV, wChain, wB, wNot, wAnd, wOr, wYes, wIf, aIsN, aTyIs, wNil, wCons, wStar, wTup, wLst, newL_t, newL_f, newT, wTyIn, wIsiT, wCall0, wCall, wCB, bLen, bMax2, bMin2, bAbs, bInt, bTyp, wAppend, wNoPart, wPart, wSlL, wSlT, bStr, aCatT, wRevL, wgName, wgNil, wgCons, wgTup, wgSub, wgTL, wNext, wSeq, wDrop, wRet, wRetN, wIfS, wAsg, wNever, wPar, wRaise, wAug, wBreak, wCont, wTry, wTry0, entry, DEnds.turn, lcItem, wipeA, wNevE, updM_same, OB.lst.injEq, updM_updM, isI_int, isB_bool, isS_str, isI_str, isI_bool, isS_int, isS_bool, isB_int, isB_str, isL_list, isL_tuple, isL_ref, isT_tuple, isT_list, isT_ref, isD_dat, isD_ref, isNo_none, isNo_int, isNo_str, isNo_bool, isNo_list, isNo_tuple, isNo_ref, dats_nil, dats_cons, fr_dat, Option.map_some, fd1, fd2, fd3, fd4, fd5, tyO_dat, tyO_ref, tyD_none, tyD_bool, tyD_int, tyD_str, tyD_list, tyD_tuple, tyD_dict,
  List.all_cons, List.all_nil, List.map_cons, List.map_nil, Bool.and_true, Bool.true_and, xor_f, xor_t, Int.reduceToNat,
  List.getElem?_cons_zero, List.getElem?_cons_succ, List.set_cons_zero, List.set_cons_succ, List.append_nil, List.nil_append, List.cons_append, List.length_cons, List.length_nil, List.cons.injEq, Option.some.injEq, AV.dat.injEq, AV.ref.injEq, AV.ty.injEq, PyData.int.injEq, PyData.str.injEq, PyData.bool.injEq,
  and_true, true_and, and_assoc, exists_eq_left', exists_eq_left, exists_and_left, exists_eq', exists_eq, exists_eq_right, exists_eq_right', decide_eq_true_eq, Bool.not_eq_true', Bool.false_eq_true, if_true, if_false, reduceCtorEq, false_and, and_false, or_false, false_or, exists_false, decide_true, decide_false, Nat.zero_add, ite_true, ite_false, decide_eq_false_iff_not]
  have e1 : cutN l none (some (i : Int)) = l.take i := cutN_to l i
  have e2 : cutN l (some ((i : Int) + 1)) none = l.drop (i + 1) := cutN_from l (i + 1)
  have hl := pat.len
  refine ⟨l, rfl, by omega, l, rfl, by omega, l.take i, by rw [e1], by rw [List.length_take]; omega, l.drop (i + 1), by rw [e2], _, rfl, ?_⟩
  have hpl : (zipS (l.drop (i + 1)) (l.take i).reverse).length = (pairsN l i).length := by unfold zipS pairsN; rw [List.length_map]
  refine ⟨fun m l' μ' => ∃ (y3 y4 : Option AV), l' = [some (.dat k (.str (tx l))), some (.dat kn (.int (i : Int))), some (iAV (m : Nat)), y3, y4] ∧ μ' = μ ∧ ∀ j, j < m → ∃ p, (pairsN l i)[j]? = some p ∧ meetB p = true, ⟨_, _, rfl, rfl, fun j hj => by omega⟩, ?_, ?_⟩
  · rintro m x l' μ' hx ⟨y3, y4, rfl, rfl, hall⟩
    rw [List.getElem?_map] at hx
    unfold zipS at hx
    rw [List.getElem?_map] at hx
    obtain ⟨y, hy, rfl⟩ := Option.map_eq_some_iff.mp hx
    obtain ⟨⟨c, d⟩, hp, rfl⟩ := Option.map_eq_some_iff.mp hy
    simp (maxSteps := 2000000) only [wLcRO, wLcRi, wLcR2, wDcEn, dcItem, wFrzD, wDGetF, wLcK, aInC, aGetC, wForZipS, wWhile, wGlue, wIndexS, wCountS, wSlS, wRevS, aIxS, aRepS, aAddS, bLenS, wStepL, wReverse, wLcSO, wForO, wLcRf, wCallT, wExtend, bSorted, wSl21, wRevT, wDisp, wPairs, wDGetK, insD_inj, OB.ins.injEq, wFldB, wFldR, wSetF, wMake, wMeth0, wFrzI, wFrzB, wLstB, wTupB, wForB, wForRevB, wListZipB, wForEnT, uTurns, wToF, wForR3, wLeast, wTIdx, isL_ob, isT_ob, avB_int, avB_bool, avB_str, avB_none, avB_list, avB_tuple, avB_ins, AV.ob.injEq, PyData.list.injEq, PyData.tuple.injEq, fd6, aEqI, aEqS, aEqB, wJoin, wJoinT, wJoinS, wUnlike, wIfC, bMaxL, bMinL, wToI, wLCount, wLIndex, wForZip, wLcZip, wListZip, wCallL, wFrzV, wDNew, wDPut, wDGet2, wSortIt, wForEnum, wLcEnum, wForRev, wLcRev, wForStr, wLcStr, wTryAs, endAs, wIsXT, bIsX, clsA_ref, clsA_ty, wForL, wForT, wForS, wForR1, wForR2, wLcL, wLcT, wLcS, wLcR1, wVar, wC, wOp, wUn, wFrz, aI0, aI, aU, aEq, aIxL, aIxT, aIx, wNotV, wAndV, wOrV, wChain, wB, wNot, wAnd, wOr, wYes, wIf, aIsN, aTyIs, wNil, wCons, wStar, wTup, wLst, newL_t, newL_f, newT, wTyIn, wIsiT, wCall0, wCall, wCB, bLen, bMax2, bMin2, bAbs, bInt, bTyp, wAppend, wNoPart, wPart, wSlL, wSlT, bStr, aCatT, wRevL, wgName, wgNil, wgCons, wgTup, wgSub, wgTL, wNext, wSeq, wDrop, wRet, wRetN, wIfS, wAsg, wNever, wPar, wRaise, wAug, wBreak, wCont, wTry, wTry0, entry, DEnds.turn, lcItem, wipeA, wNevE, updM_same, OB.lst.injEq, updM_updM, isI_int, isB_bool, isS_str, isI_str, isI_bool, isS_int, isS_bool, isB_int, isB_str, isL_list, isL_tuple, isL_ref, isT_tuple, isT_list, isT_ref, isD_dat, isD_ref, isNo_none, isNo_int, isNo_str, isNo_bool, isNo_list, isNo_tuple, isNo_ref, dats_nil, dats_cons, fr_dat, Option.map_some, fd1, fd2, fd3, fd4, fd5, tyO_dat, tyO_ref, tyD_none, tyD_bool, tyD_int, tyD_str, tyD_list, tyD_tuple, tyD_dict,
  List.all_cons, List.all_nil, List.map_cons, List.map_nil, Bool.and_true, Bool.true_and, xor_f, xor_t, Int.reduceToNat,
  List.getElem?_cons_zero, List.getElem?_cons_succ, List.set_cons_zero, List.set_cons_succ, List.append_nil, List.nil_append, List.cons_append, List.length_cons, List.length_nil, List.cons.injEq, Option.some.injEq, AV.dat.injEq, AV.ref.injEq, AV.ty.injEq, PyData.int.injEq, PyData.str.injEq, PyData.bool.injEq,
  and_true, true_and, and_assoc, exists_eq_left', exists_eq_left, exists_and_left, exists_eq', exists_eq, exists_eq_right, exists_eq_right', decide_eq_true_eq, Bool.not_eq_true', Bool.false_eq_true, if_true, if_false, reduceCtorEq, false_and, and_false, or_false, false_or, exists_false, decide_true, decide_false, Nat.zero_add, ite_true, ite_false, decide_eq_false_iff_not]
    have hcl : okC c = true := pat.ok c (List.mem_of_mem_drop (List.of_mem_zip (List.mem_of_getElem? hp)).1)
    obtain ⟨e, he, hmem⟩ := okC_par hcl
    refine ⟨rfl, (c, e), hmem, rfl, ?_⟩
    have hm : meetB (c, d) = decide (e = d) := meet_par he
    by_cases hed : e = d
    · refine (if_neg (fun z => z (by rw [hed]))).mpr ⟨by omega, fun j hj => ?_⟩
      by_cases hjm : j < m
      · exact hall j hjm
      · obtain rfl : j = m := by omega
        exact ⟨(c, d), hp, by rw [hm, decide_eq_true hed]⟩
    · refine (if_pos (fun z => hed (tx1.mp z))).mpr ?_
      have hr : reachN l i = m := tw_len meetB m (pairsN l i) hall (fun p hp2 => by
        rw [show (pairsN l i)[m]? = some (c, d) from hp] at hp2
        obtain rfl := Option.some.inj hp2
        rw [hm, decide_eq_false hed])
      rw [hr] at q
      exact dropQ.here q
  · rintro l' μ' ⟨y3, y4, rfl, rfl, hall⟩
    rw [List.length_map, hpl] at hall ⊢
    simp (maxSteps := 2000000) only [wLcRO, wLcRi, wLcR2, wDcEn, dcItem, wFrzD, wDGetF, wLcK, aInC, aGetC, wForZipS, wWhile, wGlue, wIndexS, wCountS, wSlS, wRevS, aIxS, aRepS, aAddS, bLenS, wStepL, wReverse, wLcSO, wForO, wLcRf, wCallT, wExtend, bSorted, wSl21, wRevT, wDisp, wPairs, wDGetK, insD_inj, OB.ins.injEq, wFldB, wFldR, wSetF, wMake, wMeth0, wFrzI, wFrzB, wLstB, wTupB, wForB, wForRevB, wListZipB, wForEnT, uTurns, wToF, wForR3, wLeast, wTIdx, isL_ob, isT_ob, avB_int, avB_bool, avB_str, avB_none, avB_list, avB_tuple, avB_ins, AV.ob.injEq, PyData.list.injEq, PyData.tuple.injEq, fd6, aEqI, aEqS, aEqB, wJoin, wJoinT, wJoinS, wUnlike, wIfC, bMaxL, bMinL, wToI, wLCount, wLIndex, wForZip, wLcZip, wListZip, wCallL, wFrzV, wDNew, wDPut, wDGet2, wSortIt, wForEnum, wLcEnum, wForRev, wLcRev, wForStr, wLcStr, wTryAs, endAs, wIsXT, bIsX, clsA_ref, clsA_ty, wForL, wForT, wForS, wForR1, wForR2, wLcL, wLcT, wLcS, wLcR1, wVar, wC, wOp, wUn, wFrz, aI0, aI, aU, aEq, aIxL, aIxT, aIx, wNotV, wAndV, wOrV, wChain, wB, wNot, wAnd, wOr, wYes, wIf, aIsN, aTyIs, wNil, wCons, wStar, wTup, wLst, newL_t, newL_f, newT, wTyIn, wIsiT, wCall0, wCall, wCB, bLen, bMax2, bMin2, bAbs, bInt, bTyp, wAppend, wNoPart, wPart, wSlL, wSlT, bStr, aCatT, wRevL, wgName, wgNil, wgCons, wgTup, wgSub, wgTL, wNext, wSeq, wDrop, wRet, wRetN, wIfS, wAsg, wNever, wPar, wRaise, wAug, wBreak, wCont, wTry, wTry0, entry, DEnds.turn, lcItem, wipeA, wNevE, updM_same, OB.lst.injEq, updM_updM, isI_int, isB_bool, isS_str, isI_str, isI_bool, isS_int, isS_bool, isB_int, isB_str, isL_list, isL_tuple, isL_ref, isT_tuple, isT_list, isT_ref, isD_dat, isD_ref, isNo_none, isNo_int, isNo_str, isNo_bool, isNo_list, isNo_tuple, isNo_ref, dats_nil, dats_cons, fr_dat, Option.map_some, fd1, fd2, fd3, fd4, fd5, tyO_dat, tyO_ref, tyD_none, tyD_bool, tyD_int, tyD_str, tyD_list, tyD_tuple, tyD_dict,
  List.all_cons, List.all_nil, List.map_cons, List.map_nil, Bool.and_true, Bool.true_and, xor_f, xor_t, Int.reduceToNat,
  List.getElem?_cons_zero, List.getElem?_cons_succ, List.set_cons_zero, List.set_cons_succ, List.append_nil, List.nil_append, List.cons_append, List.length_cons, List.length_nil, List.cons.injEq, Option.some.injEq, AV.dat.injEq, AV.ref.injEq, AV.ty.injEq, PyData.int.injEq, PyData.str.injEq, PyData.bool.injEq,
  and_true, true_and, and_assoc, exists_eq_left', exists_eq_left, exists_and_left, exists_eq', exists_eq, exists_eq_right, exists_eq_right', decide_eq_true_eq, Bool.not_eq_true', Bool.false_eq_true, if_true, if_false, reduceCtorEq, false_and, and_false, or_false, false_or, exists_false, decide_true, decide_false, Nat.zero_add, ite_true, ite_false, decide_eq_false_iff_not]
    have hr : reachN l i = (pairsN l i).length := tw_len meetB _ (pairsN l i) hall (fun p hp2 => by rw [List.getElem?_eq_none (Nat.le_refl _)] at hp2; cases hp2)
    rw [hr] at q
    exact dropQ.here q
theorem gd_reaches_of (D : DefAt K mg "reaches_of" D_reaches_of.st D_reaches_of.ps) (T : Bi mg)
    (h_reach_at : Good P w K mg base 1 "reach_at" D_reach_at.ps (spD K R (fd2 fd_reach_at))) :
    Good P w K mg base 2 "reaches_of" D_reaches_of.ps (spD K R (fd1 fd_reaches_of)) := by
  refine GoodD.of (N := D_reaches_of.N) (f := (fd1 fd_reaches_of)) D D_reaches_of.sc (fun avs μ P X h => by obtain ⟨_, rfl, _⟩ := h; rfl) (fun fa cdv A outer s H E hr => ?_)
  obtain ⟨f_reach_at, fx_reach_at, m_reach_at, k_reach_at, b_reach_at, G_reach_at⟩ := h_reach_at
  have nd := D_reaches_of.sc.nd
  have hu := hu_of hr
  refine ⟨_, (pss_one (ps_ret (pe_frzD (pe_dc (own := [("number", 1), ("sign", 2)]) (g := (gTup K 2 (gCons (gName 1) (gCons (gName 2) gNil)))) (by rfl) nd (pi_enS (by rfl) T.n_enumerate (pa_cons (pv 0) pa_nil)) (blkOk_by (own := [("number", 1), ("sign", 2)]) (N := D_reaches_of.N) (sc := defScope D_reaches_of.st) (by decide +kernel)) (fun _ _ _ _ _ => (pg_tup (by rfl) (pgs_cons (pg_name (i := 1) nd rfl (Or.inl rfl)) (pgs_cons (pg_name (i := 2) nd rfl (Or.inl rfl)) pgs_nil)))) (fun _ _ _ _ _ => (pts_one (pt_cmpR op_ne (pv 2) pe_str (nomark _)))) (fun _ _ _ _ _ => (pv 1)) (fun _ _ _ _ _ => (pe_call G_reach_at (hr.mono (by decide)) (by rfl) m_reach_at k_reach_at b_reach_at .nil pass0 (pa_cons (pv 0) (pa_cons (pv 1) pa_nil)))))))), _, (ds_ret (d_frzD (d_dcEn (d_cons d_var d_nil) (dg_tup (dgs_cons dg_name (dgs_cons dg_name dgs_nil))) (d_tTest (d_op od_neS d_var d_str)) d_var (d_call0 (d_cons d_var (d_cons d_var d_nil))) (ownT_tup (ownTs_name (by decide) (ownTs_name (by decide) ownTs_nil)))))), fun avs μ P X h => ?_⟩
  obtain ⟨a_pattern, rfl, h⟩ := h
  rw [show startA D_reaches_of.N.length [a_pattern] = [some a_pattern, none, none] from rfl]
  obtain ⟨k, l, rfl, pat, q⟩ := h
  simp (maxSteps := 2000000) only [wLcRO, wLcRi, wLcR2, wDcEn, dcItem, wFrzD, wDGetF, wLcK, aInC, aGetC, wForZipS, wWhile, wGlue, wIndexS, wCountS, wSlS, wRevS, aIxS, aRepS, aAddS, bLenS, wStepL, wReverse, wLcSO, wForO, wLcRf, wCallT, wExtend, bSorted, wSl21, wRevT, wDisp, wPairs, wDGetK, insD_inj, OB.ins.injEq, wFldB, wFldR, wSetF, wMake, wMeth0, wFrzI, wFrzB, wLstB, wTupB, wForB, wForRevB, wListZipB, wForEnT, uTurns, wToF, wForR3, wLeast, wTIdx, isL_ob, isT_ob, avB_int, avB_bool, avB_str, avB_none, avB_list, avB_tuple, avB_ins, AV.ob.injEq, PyData.list.injEq, PyData.tuple.injEq, fd6, aEqI, aEqS, aEqB, wJoin, wJoinT, wJoinS, wUnlike, wIfC, bMaxL, bMinL, wToI, wLCount, wLIndex, wForZip, wLcZip, wListZip, wCallL, wFrzV, wDNew, wDPut, wDGet2, wSortIt, wForEnum, wLcEnum, wForRev, wLcRev, wForStr, wLcStr, wTryAs, endAs, wIsXT, bIsX, clsA_ref, clsA_ty, wForL, wForT, wForS, wForR1, wForR2, wLcL, wLcT, wLcS, wLcR1, wVar, wC, wOp, wUn, wFrz, aI0, aI, aU, aEq, aIxL, aIxT, aIx, wNotV, wAndV, wOrV, wChain, wB, wNot, wAnd, wOr, wYes, wIf, aIsN, aTyIs, wNil, wCons, wStar, wTup, wLst, newL_t, newL_f, newT, wTyIn, wIsiT, wCall0, wCall, wCB, bLen, bMax2, bMin2, bAbs, bInt, bTyp, wAppend, wNoPart, wPart, wSlL, wSlT, bStr, aCatT, wRevL, wgName, wgNil, wgCons, wgTup, wgSub, wgTL, wNext, wSeq, wDrop, wRet, wRetN, wIfS, wAsg, wNever, wPar, wRaise, wAug, wBreak, wCont, wTry, wTry0, entry, DEnds.turn, lcItem, wipeA, wNevE, updM_same, OB.lst.injEq, updM_updM, isI_int, isB_bool, isS_str, isI_str, isI_bool, isS_int, isS_bool, isB_int, isB_str, isL_list, isL_tuple, isL_ref, isT_tuple, isT_list, isT_ref, isD_dat, isD_ref, isNo_none, isNo_int, isNo_str, isNo_bool, isNo_list, isNo_tuple, isNo_ref, dats_nil, dats_cons, fr_dat, Option.map_some, fd1, fd2, fd3, fd4, fd5, tyO_dat, tyO_ref, tyD_none, tyD_bool, tyD_int, tyD_str, tyD_list, tyD_tuple, tyD_dict,
  List.all_cons, List.all_nil, List.map_cons, List.map_nil, Bool.and_true, Bool.true_and, xor_f, xor_t, Int.reduceToNat,
  List.getElem?_cons_zero, List.getElem?_cons_succ, List.set_cons_zero, List.set_cons_succ, List.append_nil, List.nil_append, List.cons_append, List.length_cons, List.length_nil, List.cons.injEq, Option.some.injEq, AV.dat.injEq, AV.ref.injEq, AV.ty.injEq, PyData.int.injEq, PyData.str.injEq, PyData.bool.injEq,
  and_true, true_and, and_assoc, exists_eq_left', exists_eq_left, exists_and_left, exists_eq', exists_eq, exists_eq_right, exists_eq_right', decide_eq_true_eq, Bool.not_eq_true', Bool.false_eq_true, if_true, if_false, reduceCtorEq, false_and, and_false, or_false, false_or, exists_false, decide_true, decide_false, Nat.zero_add, ite_true, ite_false, decide_eq_false_iff_not, fd_reach_at]
  have hl := pat.len
  refine ⟨l, rfl, by omega, fR l, fun i x hx => ?_, fun i j p q hij hp hq => ?_, fun D hD => ⟨_, rfl, fun od => dropQ.here (q D od hD)⟩⟩
  · unfold enS at hx
    rw [List.getElem?_map, List.getElem?_map] at hx
    obtain ⟨y, hy, rfl⟩ := Option.map_eq_some_iff.mp hx
    obtain ⟨j, hj, rfl⟩ := Option.map_eq_some_iff.mp hy
    have hil : i < l.length := by have := (List.getElem?_eq_some_iff.mp hj).1; rwa [List.length_range] at this
    rw [List.getElem?_range hil] at hj
    obtain rfl := Option.some.inj hj
    simp (maxSteps := 2000000) only [wLcRO, wLcRi, wLcR2, wDcEn, dcItem, wFrzD, wDGetF, wLcK, aInC, aGetC, wForZipS, wWhile, wGlue, wIndexS, wCountS, wSlS, wRevS, aIxS, aRepS, aAddS, bLenS, wStepL, wReverse, wLcSO, wForO, wLcRf, wCallT, wExtend, bSorted, wSl21, wRevT, wDisp, wPairs, wDGetK, insD_inj, OB.ins.injEq, wFldB, wFldR, wSetF, wMake, wMeth0, wFrzI, wFrzB, wLstB, wTupB, wForB, wForRevB, wListZipB, wForEnT, uTurns, wToF, wForR3, wLeast, wTIdx, isL_ob, isT_ob, avB_int, avB_bool, avB_str, avB_none, avB_list, avB_tuple, avB_ins, AV.ob.injEq, PyData.list.injEq, PyData.tuple.injEq, fd6, aEqI, aEqS, aEqB, wJoin, wJoinT, wJoinS, wUnlike, wIfC, bMaxL, bMinL, wToI, wLCount, wLIndex, wForZip, wLcZip, wListZip, wCallL, wFrzV, wDNew, wDPut, wDGet2, wSortIt, wForEnum, wLcEnum, wForRev, wLcRev, wForStr, wLcStr, wTryAs, endAs, wIsXT, bIsX, clsA_ref, clsA_ty, wForL, wForT, wForS, wForR1, wForR2, wLcL, wLcT, wLcS, wLcR1, wVar, wC, wOp, wUn, wFrz, aI0, aI, aU, aEq, aIxL, aIxT, aIx, wNotV, wAndV, wOrV, wChain, wB, wNot, wAnd, wOr, wYes, wIf, aIsN, aTyIs, wNil, wCons, wStar, wTup, wLst, newL_t, newL_f, newT, wTyIn, wIsiT, wCall0, wCall, wCB, bLen, bMax2, bMin2, bAbs, bInt, bTyp, wAppend, wNoPart, wPart, wSlL, wSlT, bStr, aCatT, wRevL, wgName, wgNil, wgCons, wgTup, wgSub, wgTL, wNext, wSeq, wDrop, wRet, wRetN, wIfS, wAsg, wNever, wPar, wRaise, wAug, wBreak, wCont, wTry, wTry0, entry, DEnds.turn, lcItem, wipeA, wNevE, updM_same, OB.lst.injEq, updM_updM, isI_int, isB_bool, isS_str, isI_str, isI_bool, isS_int, isS_bool, isB_int, isB_str, isL_list, isL_tuple, isL_ref, isT_tuple, isT_list, isT_ref, isD_dat, isD_ref, isNo_none, isNo_int, isNo_str, isNo_bool, isNo_list, isNo_tuple, isNo_ref, dats_nil, dats_cons, fr_dat, Option.map_some, fd1, fd2, fd3, fd4, fd5, tyO_dat, tyO_ref, tyD_none, tyD_bool, tyD_int, tyD_str, tyD_list, tyD_tuple, tyD_dict,
  List.all_cons, List.all_nil, List.map_cons, List.map_nil, Bool.and_true, Bool.true_and, xor_f, xor_t, Int.reduceToNat,
  List.getElem?_cons_zero, List.getElem?_cons_succ, List.set_cons_zero, List.set_cons_succ, List.append_nil, List.nil_append, List.cons_append, List.length_cons, List.length_nil, List.cons.injEq, Option.some.injEq, AV.dat.injEq, AV.ref.injEq, AV.ty.injEq, PyData.int.injEq, PyData.str.injEq, PyData.bool.injEq,
  and_true, true_and, and_assoc, exists_eq_left', exists_eq_left, exists_and_left, exists_eq', exists_eq, exists_eq_right, exists_eq_right', decide_eq_true_eq, Bool.not_eq_true', Bool.false_eq_true, if_true, if_false, reduceCtorEq, false_and, and_false, or_false, false_or, exists_false, decide_true, decide_false, Nat.zero_add, ite_true, ite_false, decide_eq_false_iff_not, fd_reach_at]
    have hc : l[i]? = some (l.getD i 0) := by rw [List.getD_eq_getElem?_getD, List.getElem?_eq_getElem hil]; rfl
    unfold fR
    rw [hc, tx_dash]
    by_cases h : l.getD i 0 = 45
    · refine (if_neg (fun z => z (by rw [h]))).mpr ?_
      rw [if_pos (by rw [h])]
    · refine (if_pos (fun z => h (tx1.mp z))).mpr ⟨l, rfl, i, rfl, hil, pat, _, _, by rw [if_neg (fun z => h (Option.some.inj z))], rfl, rfl⟩
  · unfold fR at hp hq
    split at hp
    · cases hp
    · split at hq
      · cases hq
      · rw [← Option.some.inj hp, ← Option.some.inj hq]
        show (i : Int) ≠ (j : Int)
        omega
theorem gd_bent_in (D : DefAt K mg "bent_in" D_bent_in.st D_bent_in.ps) (T : Bi mg) :
    Good P w K mg base 1 "bent_in" D_bent_in.ps (spD K R (fd2 fd_bent_in)) := by
  refine GoodD.of (N := D_bent_in.N) (f := (fd2 fd_bent_in)) D D_bent_in.sc (fun avs μ P X h => by obtain ⟨_, _, rfl, _⟩ := h; rfl) (fun fa cdv A outer s H E hr => ?_)
  have nd := D_bent_in.sc.nd
  have hu := hu_of hr
  refine ⟨_, (pss_cons (ps_asg (pv 1) (pg_tup (by rfl) (pgs_cons (pg_name (i := 2) nd rfl (Or.inr rfl)) (pgs_cons (pg_name (i := 3) nd rfl (Or.inr rfl)) pgs_nil)))) (pss_one (ps_ret (pe_lc (own := [("number", 4)]) (g := (gName 4)) (by rfl) nd (pi_keys (pv 0)) (blkOk_by (own := [("number", 4)]) (N := D_bent_in.N) (sc := defScope D_bent_in.st) (by decide +kernel)) (fun _ _ _ _ _ => (pg_name (i := 4) nd rfl (Or.inl rfl))) (fun _ _ _ _ _ => (pts_one (pt_chain op_le op_lt (pv 2) (pv 4) (pe_op op_sub (pv 3) pe_int)))) (fun _ _ _ _ _ => (pv 4)))))), _, (ds_seq (ds_asg d_var (dg_tup (dgs_cons dg_name (dgs_cons dg_name dgs_nil)))) (ds_ret (d_lcK (m := false)  dg_name (d_tTest (d_chain od_I0b od_I0b d_var d_var (d_op od_I0i d_var d_int))) d_var (ownT_name (by decide))))), fun avs μ P X h => ?_⟩
  obtain ⟨a_reaches, a_stretch, rfl, h⟩ := h
  rw [show startA D_bent_in.N.length [a_reaches, a_stretch] = [some a_reaches, some a_stretch, none, none, none] from rfl]
  obtain ⟨D, od, kvs, k, a, b, rfl, hm, hl, rfl, q⟩ := h
  simp (maxSteps := 2000000) only [wLcRO, wLcRi, wLcR2, wDcEn, dcItem, wFrzD, wDGetF, wLcK, aInC, aGetC, wForZipS, wWhile, wGlue, wIndexS, wCountS, wSlS, wRevS, aIxS, aRepS, aAddS, bLenS, wStepL, wReverse, wLcSO, wForO, wLcRf, wCallT, wExtend, bSorted, wSl21, wRevT, wDisp, wPairs, wDGetK, insD_inj, OB.ins.injEq, wFldB, wFldR, wSetF, wMake, wMeth0, wFrzI, wFrzB, wLstB, wTupB, wForB, wForRevB, wListZipB, wForEnT, uTurns, wToF, wForR3, wLeast, wTIdx, isL_ob, isT_ob, avB_int, avB_bool, avB_str, avB_none, avB_list, avB_tuple, avB_ins, AV.ob.injEq, PyData.list.injEq, PyData.tuple.injEq, fd6, aEqI, aEqS, aEqB, wJoin, wJoinT, wJoinS, wUnlike, wIfC, bMaxL, bMinL, wToI, wLCount, wLIndex, wForZip, wLcZip, wListZip, wCallL, wFrzV, wDNew, wDPut, wDGet2, wSortIt, wForEnum, wLcEnum, wForRev, wLcRev, wForStr, wLcStr, wTryAs, endAs, wIsXT, bIsX, clsA_ref, clsA_ty, wForL, wForT, wForS, wForR1, wForR2, wLcL, wLcT, wLcS, wLcR1, wVar, wC, wOp, wUn, wFrz, aI0, aI, aU, aEq, aIxL, aIxT, aIx, wNotV, wAndV, wOrV, wChain, wB, wNot, wAnd, wOr, wYes, wIf, aIsN, aTyIs, wNil, wCons, wStar, wTup, wLst, newL_t, newL_f, newT, wTyIn, wIsiT, wCall0, wCall, wCB, bLen, bMax2, bMin2, bAbs, bInt, bTyp, wAppend, wNoPart, wPart, wSlL, wSlT, bStr, aCatT, wRevL, wgName, wgNil, wgCons, wgTup, wgSub, wgTL, wNext, wSeq, wDrop, wRet, wRetN, wIfS, wAsg, wNever, wPar, wRaise, wAug, wBreak, wCont, wTry, wTry0, entry, DEnds.turn, lcItem, wipeA, wNevE, updM_same, OB.lst.injEq, updM_updM, isI_int, isB_bool, isS_str, isI_str, isI_bool, isS_int, isS_bool, isB_int, isB_str, isL_list, isL_tuple, isL_ref, isT_tuple, isT_list, isT_ref, isD_dat, isD_ref, isNo_none, isNo_int, isNo_str, isNo_bool, isNo_list, isNo_tuple, isNo_ref, dats_nil, dats_cons, fr_dat, Option.map_some, fd1, fd2, fd3, fd4, fd5, tyO_dat, tyO_ref, tyD_none, tyD_bool, tyD_int, tyD_str, tyD_list, tyD_tuple, tyD_dict,
  List.all_cons, List.all_nil, List.map_cons, List.map_nil, Bool.and_true, Bool.true_and, xor_f, xor_t, Int.reduceToNat,
  List.getElem?_cons_zero, List.getElem?_cons_succ, List.set_cons_zero, List.set_cons_succ, List.append_nil, List.nil_append, List.cons_append, List.length_cons, List.length_nil, List.cons.injEq, Option.some.injEq, AV.dat.injEq, AV.ref.injEq, AV.ty.injEq, PyData.int.injEq, PyData.str.injEq, PyData.bool.injEq,
  and_true, true_and, and_assoc, exists_eq_left', exists_eq_left, exists_and_left, exists_eq', exists_eq, exists_eq_right, exists_eq_right', decide_eq_true_eq, Bool.not_eq_true', Bool.false_eq_true, if_true, if_false, reduceCtorEq, false_and, and_false, or_false, false_or, exists_false, decide_true, decide_false, Nat.zero_add, ite_true, ite_false, decide_eq_false_iff_not]
  refine ⟨rfl, od, kvs, hm, lcAll_fm (k := true) kvs (fun p => if a ≤ p.1 ∧ p.1 < b - 1 then some (.int p.1) else none) (by rw [List.length_map]) (by omega) (fun i x p hx hp => ?_) (newL_tt ?_)⟩
  · rw [List.getElem?_map, hp] at hx
    obtain rfl := Option.some.inj hx
    simp (maxSteps := 2000000) only [wLcRO, wLcRi, wLcR2, wDcEn, dcItem, wFrzD, wDGetF, wLcK, aInC, aGetC, wForZipS, wWhile, wGlue, wIndexS, wCountS, wSlS, wRevS, aIxS, aRepS, aAddS, bLenS, wStepL, wReverse, wLcSO, wForO, wLcRf, wCallT, wExtend, bSorted, wSl21, wRevT, wDisp, wPairs, wDGetK, insD_inj, OB.ins.injEq, wFldB, wFldR, wSetF, wMake, wMeth0, wFrzI, wFrzB, wLstB, wTupB, wForB, wForRevB, wListZipB, wForEnT, uTurns, wToF, wForR3, wLeast, wTIdx, isL_ob, isT_ob, avB_int, avB_bool, avB_str, avB_none, avB_list, avB_tuple, avB_ins, AV.ob.injEq, PyData.list.injEq, PyData.tuple.injEq, fd6, aEqI, aEqS, aEqB, wJoin, wJoinT, wJoinS, wUnlike, wIfC, bMaxL, bMinL, wToI, wLCount, wLIndex, wForZip, wLcZip, wListZip, wCallL, wFrzV, wDNew, wDPut, wDGet2, wSortIt, wForEnum, wLcEnum, wForRev, wLcRev, wForStr, wLcStr, wTryAs, endAs, wIsXT, bIsX, clsA_ref, clsA_ty, wForL, wForT, wForS, wForR1, wForR2, wLcL, wLcT, wLcS, wLcR1, wVar, wC, wOp, wUn, wFrz, aI0, aI, aU, aEq, aIxL, aIxT, aIx, wNotV, wAndV, wOrV, wChain, wB, wNot, wAnd, wOr, wYes, wIf, aIsN, aTyIs, wNil, wCons, wStar, wTup, wLst, newL_t, newL_f, newT, wTyIn, wIsiT, wCall0, wCall, wCB, bLen, bMax2, bMin2, bAbs, bInt, bTyp, wAppend, wNoPart, wPart, wSlL, wSlT, bStr, aCatT, wRevL, wgName, wgNil, wgCons, wgTup, wgSub, wgTL, wNext, wSeq, wDrop, wRet, wRetN, wIfS, wAsg, wNever, wPar, wRaise, wAug, wBreak, wCont, wTry, wTry0, entry, DEnds.turn, lcItem, wipeA, wNevE, updM_same, OB.lst.injEq, updM_updM, isI_int, isB_bool, isS_str, isI_str, isI_bool, isS_int, isS_bool, isB_int, isB_str, isL_list, isL_tuple, isL_ref, isT_tuple, isT_list, isT_ref, isD_dat, isD_ref, isNo_none, isNo_int, isNo_str, isNo_bool, isNo_list, isNo_tuple, isNo_ref, dats_nil, dats_cons, fr_dat, Option.map_some, fd1, fd2, fd3, fd4, fd5, tyO_dat, tyO_ref, tyD_none, tyD_bool, tyD_int, tyD_str, tyD_list, tyD_tuple, tyD_dict,
  List.all_cons, List.all_nil, List.map_cons, List.map_nil, Bool.and_true, Bool.true_and, xor_f, xor_t, Int.reduceToNat,
  List.getElem?_cons_zero, List.getElem?_cons_succ, List.set_cons_zero, List.set_cons_succ, List.append_nil, List.nil_append, List.cons_append, List.length_cons, List.length_nil, List.cons.injEq, Option.some.injEq, AV.dat.injEq, AV.ref.injEq, AV.ty.injEq, PyData.int.injEq, PyData.str.injEq, PyData.bool.injEq,
  and_true, true_and, and_assoc, exists_eq_left', exists_eq_left, exists_and_left, exists_eq', exists_eq, exists_eq_right, exists_eq_right', decide_eq_true_eq, Bool.not_eq_true', Bool.false_eq_true, if_true, if_false, reduceCtorEq, false_and, and_false, or_false, false_or, exists_false, decide_true, decide_false, Nat.zero_add, ite_true, ite_false, decide_eq_false_iff_not]
    by_cases h1 : a ≤ p.1
    · refine (if_pos h1).mpr ?_
      by_cases h2 : p.1 < b - 1
      · refine (if_pos h2).mpr ?_
        rw [if_pos ⟨h1, h2⟩]; rfl
      · refine (if_neg h2).mpr ?_
        rw [if_neg (fun z => h2 z.2)]; rfl
    · refine (if_neg h1).mpr ?_
      rw [if_neg (fun z => h1 z.1)]; rfl
  · have e : (List.filterMap (fun p : Int × Int => if a ≤ p.1 ∧ p.1 < b - 1 then some (PyData.int p.1) else none) kvs) = (withinL kvs a b).map PyData.int := by
      unfold withinL
      rw [← fm_filter]
      congr 1
      funext p
      by_cases h : a ≤ p.1 ∧ p.1 < b - 1
      · rw [if_pos h, if_pos (by rw [decide_eq_true h.1, decide_eq_true h.2]; rfl)]
      · rw [if_neg h, if_neg (by intro z; simp only [Bool.and_eq_true, decide_eq_true_eq] at z; exact h z)]
    rw [e]
    exact dropQ.here q
theorem gd_begun (D : DefAt K mg "begun" D_begun.st D_begun.ps) (T : Bi mg)
    (h_bent_in : Good P w K mg base 1 "bent_in" D_bent_in.ps (spD K R (fd2 fd_bent_in))) :
    Good P w K mg base 2 "begun" D_begun.ps (spD K R (fd2 fd_begun)) := by
  refine GoodD.of (N := D_begun.N) (f := (fd2 fd_begun)) D D_begun.sc (fun avs μ P X h => by obtain ⟨_, _, rfl, _⟩ := h; rfl) (fun fa cdv A outer s H E hr => ?_)
  obtain ⟨f_bent_in, fx_bent_in, m_bent_in, k_bent_in, b_bent_in, G_bent_in⟩ := h_bent_in
  have nd := D_begun.sc.nd
  have hu := hu_of hr
  refine ⟨_, (pss_cons (ps_asg (pv 1) (pg_tup (by rfl) (pgs_cons (pg_name (i := 2) nd rfl (Or.inr rfl)) (pgs_cons (pg_name (i := 3) nd rfl (Or.inr rfl)) pgs_nil)))) (pss_one (ps_ret (pe_lc (own := [("number", 4)]) (g := (gName 4)) (by rfl) nd (pi_list (pe_call G_bent_in (hr.mono (by decide)) (by rfl) m_bent_in k_bent_in b_bent_in .nil pass0 (pa_cons (pv 0) (pa_cons (pv 1) pa_nil)))) (blkOk_by (own := [("number", 4)]) (N := D_begun.N) (sc := defScope D_begun.st) (by decide +kernel)) (fun _ _ _ _ _ => (pg_name (i := 4) nd rfl (Or.inl rfl))) (fun _ _ _ _ _ => (pts_one (pt_cmpR op_le (pe_callB (call_min2 rfl) (by rfl) T.n_min (by decide +kernel) (pa_cons (pe_op op_sub (pv 4) (pv 2)) (pa_cons (pe_op op_sub (pe_op op_sub (pv 3) pe_int) (pv 4)) pa_nil))) (pe_dget hu (pv 0) (pv 4) (fun _ _ => rfl)) (nomark _)))) (fun _ _ _ _ _ => (pv 4)))))), _, (ds_seq (ds_asg d_var (dg_tup (dgs_cons dg_name (dgs_cons dg_name dgs_nil)))) (ds_ret (d_lcL (m := true) (d_call0 (d_cons d_var (d_cons d_var d_nil))) dg_name (d_tTest (d_op od_I0b (d_cb cd_min2 (d_cons (d_op od_I0i d_var d_var) (d_cons (d_op od_I0i (d_op od_I0i d_var d_int) d_var) d_nil))) (d_dgetF d_var d_var))) d_var (ownT_name (by decide))))), fun avs μ P X h => ?_⟩
  obtain ⟨a_reaches, a_stretch, rfl, h⟩ := h
  rw [show startA D_begun.N.length [a_reaches, a_stretch] = [some a_reaches, some a_stretch, none, none, none] from rfl]
  obtain ⟨D, od, kvs, k, a, b, rfl, hm, hl, nd, rfl, q⟩ := h
  simp (maxSteps := 2000000) only [wLcRO, wLcRi, wLcR2, wDcEn, dcItem, wFrzD, wDGetF, wLcK, aInC, aGetC, wForZipS, wWhile, wGlue, wIndexS, wCountS, wSlS, wRevS, aIxS, aRepS, aAddS, bLenS, wStepL, wReverse, wLcSO, wForO, wLcRf, wCallT, wExtend, bSorted, wSl21, wRevT, wDisp, wPairs, wDGetK, insD_inj, OB.ins.injEq, wFldB, wFldR, wSetF, wMake, wMeth0, wFrzI, wFrzB, wLstB, wTupB, wForB, wForRevB, wListZipB, wForEnT, uTurns, wToF, wForR3, wLeast, wTIdx, isL_ob, isT_ob, avB_int, avB_bool, avB_str, avB_none, avB_list, avB_tuple, avB_ins, AV.ob.injEq, PyData.list.injEq, PyData.tuple.injEq, fd6, aEqI, aEqS, aEqB, wJoin, wJoinT, wJoinS, wUnlike, wIfC, bMaxL, bMinL, wToI, wLCount, wLIndex, wForZip, wLcZip, wListZip, wCallL, wFrzV, wDNew, wDPut, wDGet2, wSortIt, wForEnum, wLcEnum, wForRev, wLcRev, wForStr, wLcStr, wTryAs, endAs, wIsXT, bIsX, clsA_ref, clsA_ty, wForL, wForT, wForS, wForR1, wForR2, wLcL, wLcT, wLcS, wLcR1, wVar, wC, wOp, wUn, wFrz, aI0, aI, aU, aEq, aIxL, aIxT, aIx, wNotV, wAndV, wOrV, wChain, wB, wNot, wAnd, wOr, wYes, wIf, aIsN, aTyIs, wNil, wCons, wStar, wTup, wLst, newL_t, newL_f, newT, wTyIn, wIsiT, wCall0, wCall, wCB, bLen, bMax2, bMin2, bAbs, bInt, bTyp, wAppend, wNoPart, wPart, wSlL, wSlT, bStr, aCatT, wRevL, wgName, wgNil, wgCons, wgTup, wgSub, wgTL, wNext, wSeq, wDrop, wRet, wRetN, wIfS, wAsg, wNever, wPar, wRaise, wAug, wBreak, wCont, wTry, wTry0, entry, DEnds.turn, lcItem, wipeA, wNevE, updM_same, OB.lst.injEq, updM_updM, isI_int, isB_bool, isS_str, isI_str, isI_bool, isS_int, isS_bool, isB_int, isB_str, isL_list, isL_tuple, isL_ref, isT_tuple, isT_list, isT_ref, isD_dat, isD_ref, isNo_none, isNo_int, isNo_str, isNo_bool, isNo_list, isNo_tuple, isNo_ref, dats_nil, dats_cons, fr_dat, Option.map_some, fd1, fd2, fd3, fd4, fd5, tyO_dat, tyO_ref, tyD_none, tyD_bool, tyD_int, tyD_str, tyD_list, tyD_tuple, tyD_dict,
  List.all_cons, List.all_nil, List.map_cons, List.map_nil, Bool.and_true, Bool.true_and, xor_f, xor_t, Int.reduceToNat,
  List.getElem?_cons_zero, List.getElem?_cons_succ, List.set_cons_zero, List.set_cons_succ, List.append_nil, List.nil_append, List.cons_append, List.length_cons, List.length_nil, List.cons.injEq, Option.some.injEq, AV.dat.injEq, AV.ref.injEq, AV.ty.injEq, PyData.int.injEq, PyData.str.injEq, PyData.bool.injEq,
  and_true, true_and, and_assoc, exists_eq_left', exists_eq_left, exists_and_left, exists_eq', exists_eq, exists_eq_right, exists_eq_right', decide_eq_true_eq, Bool.not_eq_true', Bool.false_eq_true, if_true, if_false, reduceCtorEq, false_and, and_false, or_false, false_or, exists_false, decide_true, decide_false, Nat.zero_add, ite_true, ite_false, decide_eq_false_iff_not, fd_bent_in]
  have hwl : (withinL kvs a b).length ≤ kvs.length := by
    unfold withinL
    have := List.length_filter_le (fun n => decide (a ≤ n) && decide (n < b - 1)) (kvs.map (·.1))
    rwa [List.length_map] at this
  refine ⟨rfl, od, kvs, hm, hl, _, overL_list, lcAll_fm (k := true) (withinL kvs a b) (fun n => if (if b - 2 - n < n - a then b - 2 - n else n - a) ≤ (getI kvs n).getD 0 then some (.int n) else none) (by rw [List.length_map, List.length_map]) (by omega) (fun i x n hx hn => ?_) ?_⟩
  · rw [List.getElem?_map, List.getElem?_map, hn] at hx
    obtain rfl := Option.some.inj hx
    simp (maxSteps := 2000000) only [wLcRO, wLcRi, wLcR2, wDcEn, dcItem, wFrzD, wDGetF, wLcK, aInC, aGetC, wForZipS, wWhile, wGlue, wIndexS, wCountS, wSlS, wRevS, aIxS, aRepS, aAddS, bLenS, wStepL, wReverse, wLcSO, wForO, wLcRf, wCallT, wExtend, bSorted, wSl21, wRevT, wDisp, wPairs, wDGetK, insD_inj, OB.ins.injEq, wFldB, wFldR, wSetF, wMake, wMeth0, wFrzI, wFrzB, wLstB, wTupB, wForB, wForRevB, wListZipB, wForEnT, uTurns, wToF, wForR3, wLeast, wTIdx, isL_ob, isT_ob, avB_int, avB_bool, avB_str, avB_none, avB_list, avB_tuple, avB_ins, AV.ob.injEq, PyData.list.injEq, PyData.tuple.injEq, fd6, aEqI, aEqS, aEqB, wJoin, wJoinT, wJoinS, wUnlike, wIfC, bMaxL, bMinL, wToI, wLCount, wLIndex, wForZip, wLcZip, wListZip, wCallL, wFrzV, wDNew, wDPut, wDGet2, wSortIt, wForEnum, wLcEnum, wForRev, wLcRev, wForStr, wLcStr, wTryAs, endAs, wIsXT, bIsX, clsA_ref, clsA_ty, wForL, wForT, wForS, wForR1, wForR2, wLcL, wLcT, wLcS, wLcR1, wVar, wC, wOp, wUn, wFrz, aI0, aI, aU, aEq, aIxL, aIxT, aIx, wNotV, wAndV, wOrV, wChain, wB, wNot, wAnd, wOr, wYes, wIf, aIsN, aTyIs, wNil, wCons, wStar, wTup, wLst, newL_t, newL_f, newT, wTyIn, wIsiT, wCall0, wCall, wCB, bLen, bMax2, bMin2, bAbs, bInt, bTyp, wAppend, wNoPart, wPart, wSlL, wSlT, bStr, aCatT, wRevL, wgName, wgNil, wgCons, wgTup, wgSub, wgTL, wNext, wSeq, wDrop, wRet, wRetN, wIfS, wAsg, wNever, wPar, wRaise, wAug, wBreak, wCont, wTry, wTry0, entry, DEnds.turn, lcItem, wipeA, wNevE, updM_same, OB.lst.injEq, updM_updM, isI_int, isB_bool, isS_str, isI_str, isI_bool, isS_int, isS_bool, isB_int, isB_str, isL_list, isL_tuple, isL_ref, isT_tuple, isT_list, isT_ref, isD_dat, isD_ref, isNo_none, isNo_int, isNo_str, isNo_bool, isNo_list, isNo_tuple, isNo_ref, dats_nil, dats_cons, fr_dat, Option.map_some, fd1, fd2, fd3, fd4, fd5, tyO_dat, tyO_ref, tyD_none, tyD_bool, tyD_int, tyD_str, tyD_list, tyD_tuple, tyD_dict,
  List.all_cons, List.all_nil, List.map_cons, List.map_nil, Bool.and_true, Bool.true_and, xor_f, xor_t, Int.reduceToNat,
  List.getElem?_cons_zero, List.getElem?_cons_succ, List.set_cons_zero, List.set_cons_succ, List.append_nil, List.nil_append, List.cons_append, List.length_cons, List.length_nil, List.cons.injEq, Option.some.injEq, AV.dat.injEq, AV.ref.injEq, AV.ty.injEq, PyData.int.injEq, PyData.str.injEq, PyData.bool.injEq,
  and_true, true_and, and_assoc, exists_eq_left', exists_eq_left, exists_and_left, exists_eq', exists_eq, exists_eq_right, exists_eq_right', decide_eq_true_eq, Bool.not_eq_true', Bool.false_eq_true, if_true, if_false, reduceCtorEq, false_and, and_false, or_false, false_or, exists_false, decide_true, decide_false, Nat.zero_add, ite_true, ite_false, decide_eq_false_iff_not, fd_bent_in]
    have hmem : n ∈ kvs.map (·.1) := (List.mem_filter.mp (List.mem_of_getElem? hn)).1
    obtain ⟨v, hv⟩ : ∃ v, getI kvs n = some v := by
      cases h : getI kvs n with
      | some v => exact ⟨v, rfl⟩
      | none => exact absurd hmem (getI_none _ _ h)
    refine ⟨od, kvs, hm, v, hv, ?_⟩
    rw [hv]
    show (if (if b - 2 - n < n - a then b - 2 - n else n - a) ≤ v then _ else _)
    by_cases h : (if b - 2 - n < n - a then b - 2 - n else n - a) ≤ v
    · refine (if_pos h).mpr ?_
      rw [if_pos (show _ ≤ (some v).getD 0 from h)]; rfl
    · refine (if_neg h).mpr ?_
      rw [if_neg (show ¬ _ ≤ (some v).getD 0 from h)]; rfl
  · rw [newL_t]
    intro A hA
    have e : ((withinL kvs a b).filterMap fun n => if (if b - 2 - n < n - a then b - 2 - n else n - a) ≤ (getI kvs n).getD 0 then some (PyData.int n) else none) = (begunL kvs a b).map PyData.int := by
      unfold begunL
      have := fm_filter (fun n => decide ((if b - 2 - n < n - a then b - 2 - n else n - a) ≤ (getI kvs n).getD 0)) (fun n => n) (withinL kvs a b)
      rw [show (withinL kvs a b).map (fun n => n) = withinL kvs a b from List.map_id' _] at this
      rw [← this]
      congr 1
      funext n
      by_cases h : (if b - 2 - n < n - a then b - 2 - n else n - a) ≤ (getI kvs n).getD 0
      · rw [if_pos h, if_pos (decide_eq_true h)]
      · rw [if_neg h, if_neg (by rw [decide_eq_false h]; exact Bool.false_ne_true)]
    rw [e]
    exact dropQ.here (q A hA)
end
end Fv

--raise check_pattern beginnings row_for shut shut_holds
namespace Fv
open PySem PySem.Spec PyProof.Rows L2
local macro_rules | `(tactic| walk_at "vd") => `(tactic| simp only [wLcRO, wLcRi, wLcR2, wDcEn, dcItem, wFrzD, wDGetF, wLcK, aInC, aGetC, wForZipS, wWhile, wGlue, wIndexS, wCountS, wSlS, wRevS, aIxS, aRepS, aAddS, bLenS, wStepL, wReverse, wLcSO, wForO, wLcRf, wCallT, wExtend, bSorted, wSl21, wRevT, wDisp, wPairs, wDGetK, insD_inj, OB.ins.injEq, wFldB, wFldR, wSetF, wMake, wMeth0, wFrzI, wFrzB, wLstB, wTupB, wForB, wForRevB, wListZipB, wForEnT, uTurns, wToF, wForR3, wLeast, wTIdx, isL_ob, isT_ob, avB_int, avB_bool, avB_str, avB_none, avB_list, avB_tuple, avB_ins, AV.ob.injEq, PyData.list.injEq, PyData.tuple.injEq, fd6, aEqI, aEqS, aEqB, wJoin, wJoinT, wJoinS, wUnlike, wIfC, bMaxL, bMinL, wToI, wLCount, wLIndex, wForZip, wLcZip, wListZip, wCallL, wFrzV, wDNew, wDPut, wDGet2, wSortIt, wForEnum, wLcEnum, wForRev, wLcRev, wForStr, wLcStr, wTryAs, endAs, wIsXT, bIsX, clsA_ref, clsA_ty, wForL, wForT, wForS, wForR1, wForR2, wLcL, wLcT, wLcS, wLcR1, wVar, wC, wOp, wUn, wFrz, aI0, aI, aU, aEq, aIxL, aIxT, aIx, wNotV, wAndV, wOrV, wChain, wB, wNot, wAnd, wOr, wYes, wIf, aIsN, aTyIs, wNil, wCons, wStar, wTup, wLst, newL_t, newL_f, newT, wTyIn, wIsiT, wCall0, wCall, wCB, bLen, bMax2, bMin2, bAbs, bInt, bTyp, wAppend, wNoPart, wPart, wSlL, wSlT, bStr, aCatT, wRevL, wgName, wgNil, wgCons, wgTup, wgSub, wgTL, wNext, wSeq, wDrop, wRet, wRetN, wIfS, wAsg, wNever, wPar, wRaise, wAug, wBreak, wCont, wTry, wTry0, entry, DEnds.turn, lcItem, wipeA, wNevE, updM_same, OB.lst.injEq, updM_updM, isI_int, isB_bool, isS_str, isI_str, isI_bool, isS_int, isS_bool, isB_int, isB_str, isL_list, isL_tuple, isL_ref, isT_tuple, isT_list, isT_ref, isD_dat, isD_ref, isNo_none, isNo_int, isNo_str, isNo_bool, isNo_list, isNo_tuple, isNo_ref, dats_nil, dats_cons, fr_dat, Option.map_some, fd1, fd2, fd3, fd4, fd5, tyO_dat, tyO_ref, tyD_none, tyD_bool, tyD_int, tyD_str, tyD_list, tyD_tuple, tyD_dict,
  List.all_cons, List.all_nil, List.map_cons, List.map_nil, Bool.and_true, Bool.true_and, xor_f, xor_t, Int.reduceToNat,
  List.getElem?_cons_zero, List.getElem?_cons_succ, List.set_cons_zero, List.set_cons_succ, List.append_nil, List.nil_append, List.cons_append, List.length_cons, List.length_nil, List.cons.injEq, Option.some.injEq, AV.dat.injEq, AV.ref.injEq, AV.ty.injEq, PyData.int.injEq, PyData.str.injEq, PyData.bool.injEq,
  and_true, true_and, and_assoc, exists_eq_left', exists_eq_left, exists_and_left, exists_eq', exists_eq, exists_eq_right, exists_eq_right', decide_eq_true_eq, Bool.not_eq_true', Bool.false_eq_true, if_true, if_false, reduceCtorEq, false_and, and_false, or_false, false_or, exists_false, decide_true, decide_false, Nat.zero_add, ite_true, ite_false, decide_eq_false_iff_not])

/-! the bag that is drawn from, in the laws of patterns -/
/-- no objects of a hand's -/
def noK : RK := ⟨fun _ _ => False, fun _ h => h⟩
def bagO (kb : Bool) (ts : List Int) (c1 c2 c3 t : Int) : OB := .lst [.dat kb (.list (ts.map PyData.int)), iAV c1, iAV c2, iAV c3, iAV t]
/-- a bag, of which so many draws were made at most -/
def Bg (o : OB) (N : Int) : Prop := ∃ kb ts c1 c2 c3 t, o = bagO kb ts c1 c2 c3 t ∧ ts.length ≤ 63 ∧ 0 ≤ c1 ∧ c1 ≤ (ts.length : Int) ∧ 0 ≤ c2 ∧ 0 ≤ c3 ∧ c3 ≤ N ∧ 0 ≤ t ∧ t < 2305843009213693951
theorem updM_id {μ : MU} {r : Addr} {o : OB} (h : μ r = some o) : updM μ r o = μ := by
  funext b
  by_cases z : b = r
  · rw [z, updM_same, h]
  · rw [updM_ne z]
def fd__law_stir (x y : AV) (μ : MU) (P : PQ) (X : PXq) : Prop := ∃ n p, x = iAV n ∧ y = iAV p ∧ 0 ≤ n ∧ n < 2305843009213693951 ∧ 0 ≤ p ∧ p ≤ 10 ^ 9 ∧ ∀ v, 0 ≤ v → P (iAV v) μ
def fd__law_draw (b m : AV) (μ : MU) (P : PQ) (X : PXq) : Prop := ∃ r o N k n, b = .ref r ∧ μ r = some o ∧ Bg o N ∧ N + 1 ≤ 10 ^ 9 ∧ m = .dat k (.int n) ∧ 1 ≤ n ∧ n ≤ 10 ^ 9 ∧ ∀ v o', 0 ≤ v → v < n → Bg o' (N + 1) → P (iAV v) (updM μ r o')
def fd__law_bag (x : AV) (μ : MU) (P : PQ) (X : PXq) : Prop := ∃ (k : Bool) (ns : List Int), x = .dat k (.list (ns.map PyData.int)) ∧ ns.length ≤ 63 ∧ ∀ r o, μ r = none → Bg o 0 → P (.ref r) (updM μ r o)
section
variable {P : Program} {w : World} {K : PySem.W.Frag} {R : RK} {mg : Str → Option Value} {base : Heap}
theorem gd__law_stir (D : DefAt K mg "_law_stir" D__law_stir.st D__law_stir.ps) (T : Bi mg) :
    Good P w K mg base 1 "_law_stir" D__law_stir.ps (spD K R (fd2 fd__law_stir)) := by
  refine GoodD.of (N := D__law_stir.N) (f := (fd2 fd__law_stir)) D D__law_stir.sc (fun avs μ P X h => by obtain ⟨_, _, rfl, _⟩ := h; rfl) (fun fa cdv A outer s H E hr => ?_)
  have nd := D__law_stir.sc.nd
  have hu := hu_of hr
  refine ⟨_, (pss_cons (ps_set (i := 2) nd rfl (Or.inl rfl) (pe_op op_mod (pe_op op_add (pe_op op_add (pe_op op_mulW (pv 0) pe_int) (pe_op op_mulW (pv 1) pe_int)) pe_int) pe_int)) (pss_cons (ps_set (i := 3) nd rfl (Or.inl rfl) (pe_op op_mod (pe_op op_mulW (pv 2) (pv 2)) pe_int)) (pss_one (ps_ret (pe_op op_fdivW (pe_op op_mod (pe_op op_add (pe_op op_add (pe_op op_mulW (pv 3) pe_int) (pe_op op_mulW (pe_op op_mulW (pv 1) (pv 1)) pe_int)) (pe_op op_fdivW (pv 2) pe_int)) pe_int) pe_int))))), _, (ds_seq (ds_asg (d_op od_Ii (d_op od_I0i (d_op od_I0i (d_op od_Ii d_var d_int) (d_op od_Ii d_var d_int)) d_int) d_int) dg_name) (ds_seq (ds_asg (d_op od_Ii (d_op od_Ii d_var d_var) d_int) dg_name) (ds_ret (d_op od_Ii (d_op od_Ii (d_op od_I0i (d_op od_I0i (d_op od_Ii d_var d_int) (d_op od_Ii (d_op od_Ii d_var d_var) d_int)) (d_op od_Ii d_var d_int)) d_int) d_int)))), fun avs μ P X h => ?_⟩
  obtain ⟨a_number, a_place, rfl, h⟩ := h
  rw [show startA D__law_stir.N.length [a_number, a_place] = [some a_number, some a_place, none, none] from rfl]
  obtain ⟨n, p, rfl, rfl, n0, n1, p0, p1, q⟩ := h
  simp (maxSteps := 2000000) only [wLcRO, wLcRi, wLcR2, wDcEn, dcItem, wFrzD, wDGetF, wLcK, aInC, aGetC, wForZipS, wWhile, wGlue, wIndexS, wCountS, wSlS, wRevS, aIxS, aRepS, aAddS, bLenS, wStepL, wReverse, wLcSO, wForO, wLcRf, wCallT, wExtend, bSorted, wSl21, wRevT, wDisp, wPairs, wDGetK, insD_inj, OB.ins.injEq, wFldB, wFldR, wSetF, wMake, wMeth0, wFrzI, wFrzB, wLstB, wTupB, wForB, wForRevB, wListZipB, wForEnT, uTurns, wToF, wForR3, wLeast, wTIdx, isL_ob, isT_ob, avB_int, avB_bool, avB_str, avB_none, avB_list, avB_tuple, avB_ins, AV.ob.injEq, PyData.list.injEq, PyData.tuple.injEq, fd6, aEqI, aEqS, aEqB, wJoin, wJoinT, wJoinS, wUnlike, wIfC, bMaxL, bMinL, wToI, wLCount, wLIndex, wForZip, wLcZip, wListZip, wCallL, wFrzV, wDNew, wDPut, wDGet2, wSortIt, wForEnum, wLcEnum, wForRev, wLcRev, wForStr, wLcStr, wTryAs, endAs, wIsXT, bIsX, clsA_ref, clsA_ty, wForL, wForT, wForS, wForR1, wForR2, wLcL, wLcT, wLcS, wLcR1, wVar, wC, wOp, wUn, wFrz, aI0, aI, aU, aEq, aIxL, aIxT, aIx, wNotV, wAndV, wOrV, wChain, wB, wNot, wAnd, wOr, wYes, wIf, aIsN, aTyIs, wNil, wCons, wStar, wTup, wLst, newL_t, newL_f, newT, wTyIn, wIsiT, wCall0, wCall, wCB, bLen, bMax2, bMin2, bAbs, bInt, bTyp, wAppend, wNoPart, wPart, wSlL, wSlT, bStr, aCatT, wRevL, wgName, wgNil, wgCons, wgTup, wgSub, wgTL, wNext, wSeq, wDrop, wRet, wRetN, wIfS, wAsg, wNever, wPar, wRaise, wAug, wBreak, wCont, wTry, wTry0, entry, DEnds.turn, lcItem, wipeA, wNevE, updM_same, OB.lst.injEq, updM_updM, isI_int, isB_bool, isS_str, isI_str, isI_bool, isS_int, isS_bool, isB_int, isB_str, isL_list, isL_tuple, isL_ref, isT_tuple, isT_list, isT_ref, isD_dat, isD_ref, isNo_none, isNo_int, isNo_str, isNo_bool, isNo_list, isNo_tuple, isNo_ref, dats_nil, dats_cons, fr_dat, Option.map_some, fd1, fd2, fd3, fd4, fd5, tyO_dat, tyO_ref, tyD_none, tyD_bool, tyD_int, tyD_str, tyD_list, tyD_tuple, tyD_dict,
  List.all_cons, List.all_nil, List.map_cons, List.map_nil, Bool.and_true, Bool.true_and, xor_f, xor_t, Int.reduceToNat,
  List.getElem?_cons_zero, List.getElem?_cons_succ, List.set_cons_zero, List.set_cons_succ, List.append_nil, List.nil_append, List.cons_append, List.length_cons, List.length_nil, List.cons.injEq, Option.some.injEq, AV.dat.injEq, AV.ref.injEq, AV.ty.injEq, PyData.int.injEq, PyData.str.injEq, PyData.bool.injEq,
  and_true, true_and, and_assoc, exists_eq_left', exists_eq_left, exists_and_left, exists_eq', exists_eq, exists_eq_right, exists_eq_right', decide_eq_true_eq, Bool.not_eq_true', Bool.false_eq_true, if_true, if_false, reduceCtorEq, false_and, and_false, or_false, false_or, exists_false, decide_true, decide_false, Nat.zero_add, ite_true, ite_false, decide_eq_false_iff_not]
  have m1 : 0 ≤ (n * 998244353 + p * 1000000007 + 5) % 2305843009213693951 := Int.emod_nonneg _ (by decide)
  have m2 : (n * 998244353 + p * 1000000007 + 5) % 2305843009213693951 < 2305843009213693951 := Int.emod_lt_of_pos _ (by decide)
  generalize (n * 998244353 + p * 1000000007 + 5) % 2305843009213693951 = one at *
  have m3 : 0 ≤ one * one % 2305843009213693951 := Int.emod_nonneg _ (by decide)
  have m4 : one * one % 2305843009213693951 < 2305843009213693951 := Int.emod_lt_of_pos _ (by decide)
  have p2 : (p * p).natAbs < 2 ^ 62 := by
    rw [Int.natAbs_mul]
    have : p.natAbs ≤ 10 ^ 9 := by omega
    exact Nat.lt_of_le_of_lt (Nat.mul_le_mul this this) (by decide)
  refine ⟨wide_mul (a := 62) (b := 31) (by omega) (by decide) (by decide) (by decide) (by decide), wide_mul (a := 31) (b := 31) (by omega) (by decide) (by decide) (by decide) (by decide), by decide, wide_mul (a := 62) (b := 62) (by omega) (by omega) (by decide) (by decide) (by decide), by decide, wide_mul (a := 62) (b := 33) (by omega) (by decide) (by decide) (by decide) (by decide), wide_mul (a := 31) (b := 31) (by omega) (by omega) (by decide) (by decide) (by decide), wide_mul (a := 62) (b := 17) p2 (by decide) (by decide) (by decide) (by decide), ⟨by decide, by decide⟩, by decide, ⟨by decide, by decide⟩, dropQ.here (q _ (Int.ediv_nonneg (Int.emod_nonneg _ (by decide)) (by decide)))⟩
theorem gd__law_draw (D : DefAt K mg "_law_draw" D__law_draw.st D__law_draw.ps) (T : Bi mg)
    (h__law_stir : Good P w K mg base 1 "_law_stir" D__law_stir.ps (spD K R (fd2 fd__law_stir))) :
    Good P w K mg base 2 "_law_draw" D__law_draw.ps (spD K R (fd2 fd__law_draw)) := by
  refine GoodD.of (N := D__law_draw.N) (f := (fd2 fd__law_draw)) D D__law_draw.sc (fun avs μ P X h => by obtain ⟨_, _, rfl, _⟩ := h; rfl) (fun fa cdv A outer s H E hr => ?_)
  obtain ⟨f__law_stir, fx__law_stir, m__law_stir, k__law_stir, b__law_stir, G__law_stir⟩ := h__law_stir
  have nd := D__law_draw.sc.nd
  have hu := hu_of hr
  refine ⟨_, (pss_cons (ps_if (pt_cmpR op_eq (pv 1) pe_int (nomark _)) (pss_one (ps_ret pe_int)) pss_nil) (pss_cons (ps_asg (pe_op op_add (pe_ix ix_list (pv 0) pe_int (fun _ _ => rfl)) pe_int) (pg_sub (pv 0) pe_int set_list)) (pss_cons (ps_if (PW.pt (pw_and (pt_cmpR op_lt (pe_ix ix_list (pv 0) pe_int (fun _ _ => rfl)) pe_int (nomark _)) (pw_and1 (pt_cmpR op_eq (pe_ix ix_list (pv 0) pe_int (fun _ _ => rfl)) (pe_callB call_len_seq (by rfl) T.n_len (by decide +kernel) (pa_cons (pe_ix ix_list (pv 0) pe_int (fun _ _ => rfl)) pa_nil)) (nomark _))))) (pss_one (ps_ret (pe_op op_mod (pe_call G__law_stir (hr.mono (by decide)) (by rfl) m__law_stir k__law_stir b__law_stir .nil pass0 (pa_cons (pe_ix ix_list (pv 0) pe_int (fun _ _ => rfl)) (pa_cons (pe_ix ix_list (pv 0) pe_int (fun _ _ => rfl)) pa_nil))) (pv 1)))) pss_nil) (pss_cons (ps_if (pt_cmpR op_lt (pe_ix ix_list (pv 0) pe_int (fun _ _ => rfl)) pe_int (nomark _)) (pss_cons (ps_set (i := 2) nd rfl (Or.inl rfl) (pe_ix ix_list (pe_ix ix_list (pv 0) pe_int (fun _ _ => rfl)) (pe_ix ix_list (pv 0) pe_int (fun _ _ => rfl)) (fun _ _ => rfl))) (pss_cons (ps_asg (pe_op op_add (pe_ix ix_list (pv 0) pe_int (fun _ _ => rfl)) pe_int) (pg_sub (pv 0) pe_int set_list)) (pss_cons (ps_if (pt_cmpR op_lt (pv 2) (pe_op op_pow pe_int pe_int) (nomark _)) (pss_one (ps_ret (pe_op op_mod (pe_call G__law_stir (hr.mono (by decide)) (by rfl) m__law_stir k__law_stir b__law_stir .nil pass0 (pa_cons (pe_op op_mod (pv 2) pe_int) (pa_cons (pe_ix ix_list (pv 0) pe_int (fun _ _ => rfl)) pa_nil))) (pv 1)))) pss_nil) (pss_one (ps_asg (pe_op op_sub (pv 2) (pe_op op_pow pe_int pe_int)) (pg_sub (pv 0) pe_int set_list)))))) pss_nil) (pss_cons (ps_set (i := 3) nd rfl (Or.inl rfl) (pe_op op_mod (pe_ix ix_list (pv 0) pe_int (fun _ _ => rfl)) (pv 1))) (pss_cons (ps_asg (pe_op op_fdivW (pe_ix ix_list (pv 0) pe_int (fun _ _ => rfl)) (pv 1)) (pg_sub (pv 0) pe_int set_list)) (pss_one (ps_ret (pv 3))))))))), _, (ds_seq (ds_if (d_tTest (d_op od_eqI d_var d_int)) (ds_ret d_int) ds_next) (ds_seq (ds_asg (d_op od_I0i (d_op od_ixL d_var d_int) d_int) (dg_sub d_var d_int)) (ds_seq (ds_if (d_and (d_tTest (d_op od_I0b (d_op od_ixL d_var d_int) d_int)) (d_tTest (d_op od_eq (d_op od_ixL d_var d_int) (d_cb cd_len (d_cons (d_op od_ixL d_var d_int) d_nil))))) (ds_ret (d_op od_Ii (d_call0 (d_cons (d_op od_ixL d_var d_int) (d_cons (d_op od_ixL d_var d_int) d_nil))) d_var)) ds_next) (ds_seq (ds_if (d_tTest (d_op od_I0b (d_op od_ixL d_var d_int) d_int)) (ds_seq (ds_asg (d_op od_ixL (d_op od_ixL d_var d_int) (d_op od_ixL d_var d_int)) dg_name) (ds_seq (ds_asg (d_op od_I0i (d_op od_ixL d_var d_int) d_int) (dg_sub d_var d_int)) (ds_seq (ds_if (d_tTest (d_op od_I0b d_var (d_op od_Ii d_int d_int))) (ds_ret (d_op od_Ii (d_call0 (d_cons (d_op od_Ii d_var d_int) (d_cons (d_op od_ixL d_var d_int) d_nil))) d_var)) ds_next) (ds_asg (d_op od_I0i d_var (d_op od_Ii d_int d_int)) (dg_sub d_var d_int))))) ds_next) (ds_seq (ds_asg (d_op od_Ii (d_op od_ixL d_var d_int) d_var) dg_name) (ds_seq (ds_asg (d_op od_Ii (d_op od_ixL d_var d_int) d_var) (dg_sub d_var d_int)) (ds_ret d_var))))))), fun avs μ P X h => ?_⟩
  obtain ⟨a_bag, a_many, rfl, h⟩ := h
  rw [show startA D__law_draw.N.length [a_bag, a_many] = [some a_bag, some a_many, none, none] from rfl]
  obtain ⟨r, o, N, k, n, rfl, hr, hb, hN, rfl, n1, n2, q⟩ := h
  obtain ⟨kb, ts, c1, c2, c3, t, rfl, hl, b1, b2, b3, b4, b5, b6, b7⟩ := id hb
  unfold bagO at hr
  simp (maxSteps := 2000000) only [wLcRO, wLcRi, wLcR2, wDcEn, dcItem, wFrzD, wDGetF, wLcK, aInC, aGetC, wForZipS, wWhile, wGlue, wIndexS, wCountS, wSlS, wRevS, aIxS, aRepS, aAddS, bLenS, wStepL, wReverse, wLcSO, wForO, wLcRf, wCallT, wExtend, bSorted, wSl21, wRevT, wDisp, wPairs, wDGetK, insD_inj, OB.ins.injEq, wFldB, wFldR, wSetF, wMake, wMeth0, wFrzI, wFrzB, wLstB, wTupB, wForB, wForRevB, wListZipB, wForEnT, uTurns, wToF, wForR3, wLeast, wTIdx, isL_ob, isT_ob, avB_int, avB_bool, avB_str, avB_none, avB_list, avB_tuple, avB_ins, AV.ob.injEq, PyData.list.injEq, PyData.tuple.injEq, fd6, aEqI, aEqS, aEqB, wJoin, wJoinT, wJoinS, wUnlike, wIfC, bMaxL, bMinL, wToI, wLCount, wLIndex, wForZip, wLcZip, wListZip, wCallL, wFrzV, wDNew, wDPut, wDGet2, wSortIt, wForEnum, wLcEnum, wForRev, wLcRev, wForStr, wLcStr, wTryAs, endAs, wIsXT, bIsX, clsA_ref, clsA_ty, wForL, wForT, wForS, wForR1, wForR2, wLcL, wLcT, wLcS, wLcR1, wVar, wC, wOp, wUn, wFrz, aI0, aI, aU, aEq, aIxL, aIxT, aIx, wNotV, wAndV, wOrV, wChain, wB, wNot, wAnd, wOr, wYes, wIf, aIsN, aTyIs, wNil, wCons, wStar, wTup, wLst, newL_t, newL_f, newT, wTyIn, wIsiT, wCall0, wCall, wCB, bLen, bMax2, bMin2, bAbs, bInt, bTyp, wAppend, wNoPart, wPart, wSlL, wSlT, bStr, aCatT, wRevL, wgName, wgNil, wgCons, wgTup, wgSub, wgTL, wNext, wSeq, wDrop, wRet, wRetN, wIfS, wAsg, wNever, wPar, wRaise, wAug, wBreak, wCont, wTry, wTry0, entry, DEnds.turn, lcItem, wipeA, wNevE, updM_same, OB.lst.injEq, updM_updM, isI_int, isB_bool, isS_str, isI_str, isI_bool, isS_int, isS_bool, isB_int, isB_str, isL_list, isL_tuple, isL_ref, isT_tuple, isT_list, isT_ref, isD_dat, isD_ref, isNo_none, isNo_int, isNo_str, isNo_bool, isNo_list, isNo_tuple, isNo_ref, dats_nil, dats_cons, fr_dat, Option.map_some, fd1, fd2, fd3, fd4, fd5, tyO_dat, tyO_ref, tyD_none, tyD_bool, tyD_int, tyD_str, tyD_list, tyD_tuple, tyD_dict,
  List.all_cons, List.all_nil, List.map_cons, List.map_nil, Bool.and_true, Bool.true_and, xor_f, xor_t, Int.reduceToNat,
  List.getElem?_cons_zero, List.getElem?_cons_succ, List.set_cons_zero, List.set_cons_succ, List.append_nil, List.nil_append, List.cons_append, List.length_cons, List.length_nil, List.cons.injEq, Option.some.injEq, AV.dat.injEq, AV.ref.injEq, AV.ty.injEq, PyData.int.injEq, PyData.str.injEq, PyData.bool.injEq,
  and_true, true_and, and_assoc, exists_eq_left', exists_eq_left, exists_and_left, exists_eq', exists_eq, exists_eq_right, exists_eq_right', decide_eq_true_eq, Bool.not_eq_true', Bool.false_eq_true, if_true, if_false, reduceCtorEq, false_and, and_false, or_false, false_or, exists_false, decide_true, decide_false, Nat.zero_add, ite_true, ite_false, decide_eq_false_iff_not, fd__law_stir]
  simp only [hr, Option.some.injEq, OB.lst.injEq, exists_eq_left', List.set_cons_succ, List.set_cons_zero, List.length_cons, List.length_nil]
  have hdiv : ∀ x : Int, CDivW x n := fun x => ⟨by omega, by
    have : n.natAbs.log2 < 64 := (Nat.log2_lt (by omega)).mpr (by omega)
    omega⟩
  by_cases h1 : n = 1
  · refine (if_pos h1).mpr (dropQ.here ?_)
    have := q 0 (bagO kb ts c1 c2 c3 t) (by omega) (by omega) ⟨kb, ts, c1, c2, c3, t, rfl, hl, b1, b2, b3, b4, by omega, b6, b7⟩
    rwa [updM_id (show μ r = some (bagO kb ts c1 c2 c3 t) from hr)] at this
  refine (if_neg h1).mpr ⟨_, rfl, c3, rfl, _, rfl, _, rfl, c2, rfl, ?_⟩
  have fin : ∀ v ts' c1' c2', 0 ≤ v → ts'.length ≤ 63 → 0 ≤ c1' → c1' ≤ (ts'.length : Int) → 0 ≤ c2' → dropQ P (iAV (v % n)) (updM μ r (bagO kb ts' c1' c2' (c3 + 1) t)) := fun v ts' c1' c2' v0 k1 k2 k3 k4 => dropQ.here (q _ _ (Int.emod_nonneg _ (by omega)) (Int.emod_lt_of_pos _ (by omega)) ⟨kb, ts', c1', c2', c3 + 1, t, rfl, k1, k2, k3, k4, by omega, by omega, b6, b7⟩)
  by_cases h2 : c2 < 2
  · refine (if_pos h2).mpr ⟨_, rfl, _, rfl, _, .inl rfl, c1, rfl, ?_⟩
    by_cases h3 : c1 = (((ts.map PyData.int).map (AV.dat kb)).length : Int)
    · exact (if_pos h3).mpr ⟨_, rfl, _, rfl, _, rfl, _, rfl, b6, b7, by omega, by omega, fun v v0 => ⟨by omega, fin v ts c1 c2 v0 hl b1 b2 b3⟩⟩
    · rw [List.length_map, List.length_map] at h3
      obtain ⟨j, rfl⟩ : ∃ j : Nat, c1 = (j : Int) := ⟨c1.toNat, by omega⟩
      have hj : j < ts.length := by omega
      have hat : atI ((ts.map PyData.int).map (AV.dat kb)) (j : Int) = some (.dat kb (.int ts[j])) := atI_nat (by rw [List.getElem?_map, List.getElem?_map, List.getElem?_eq_getElem hj]; rfl)
      have c18 : CPow 10 18 := by unfold CPow; decide
      refine (if_neg (by rw [List.length_map, List.length_map]; omega)).mpr ⟨_, rfl, c2, rfl, (if_pos h2).mpr ⟨_, rfl, _, rfl, (j : Int), rfl, _, rfl, _, hat, _, rfl, (j : Int), rfl, _, rfl, c18, _, rfl, ?_⟩⟩
      by_cases h4 : ts[j] < 10 ^ 18
      · refine (if_pos h4).mpr ⟨_, rfl, by decide, _, rfl, _, rfl, Int.emod_nonneg _ (by decide), Int.emod_lt_of_pos _ (by decide), by omega, by omega, fun v v0 => ⟨by omega, fin v ts ((j : Int) + 1) c2 v0 hl (by omega) (by omega) b3⟩⟩
      · refine (if_neg h4).mpr ⟨c18, _, rfl, _, rfl, _, rfl, _, rfl, by omega, _, rfl, _, rfl, hdiv _, _, rfl, ?_⟩
        exact dropQ.here (q _ _ (Int.emod_nonneg _ (by omega)) (Int.emod_lt_of_pos _ (by omega)) ⟨kb, ts, (j : Int) + 1, (ts[j] - 10 ^ 18) / n, c3 + 1, t, rfl, hl, by omega, by omega, Int.ediv_nonneg (by omega) (by omega), by omega, by omega, b6, b7⟩)
  · refine (if_neg h2).mpr ⟨_, rfl, c2, rfl, (if_neg h2).mpr ⟨_, rfl, c2, rfl, by omega, _, rfl, c2, rfl, hdiv c2, _, rfl, ?_⟩⟩
    exact dropQ.here (q _ _ (Int.emod_nonneg _ (by omega)) (Int.emod_lt_of_pos _ (by omega)) ⟨kb, ts, c1, c2 / n, c3 + 1, t, rfl, hl, b1, b2, Int.ediv_nonneg b3 (by omega), by omega, by omega, b6, b7⟩)
theorem gd__law_bag (D : DefAt K mg "_law_bag" D__law_bag.st D__law_bag.ps) (T : Bi mg) :
    Good P w K mg base 1 "_law_bag" D__law_bag.ps (spD K R (fd1 fd__law_bag)) := by
  refine GoodD.of (N := D__law_bag.N) (f := (fd1 fd__law_bag)) D D__law_bag.sc (fun avs μ P X h => by obtain ⟨_, rfl, _⟩ := h; rfl) (fun fa cdv A outer s H E hr => ?_)
  have nd := D__law_bag.sc.nd
  have hu := hu_of hr
  refine ⟨_, (pss_cons (ps_set (i := 1) nd rfl (Or.inl rfl) pe_int) (pss_cons (ps_for PassesOwn.never (by rfl) (pi_list (pv 0)) (pg_name (i := 2) nd rfl (Or.inl rfl)) (pss_one (ps_set (i := 1) nd rfl (Or.inl rfl) (pe_op op_mod (pe_op op_add (pe_op op_add (pe_op op_mulW (pv 1) pe_int) (pe_op op_mod (pv 2) pe_int)) pe_int) pe_int)))) (pss_one (ps_ret (pe_lst (pa_cons (pe_callTy call_list_of (by rfl) T.n_list (by decide +kernel) (pa_cons (pv 0) pa_nil)) (pa_cons pe_int (pa_cons pe_int (pa_cons pe_int (pa_cons (pv 1) pa_nil)))))))))), _, (ds_seq (ds_asg d_int dg_name) (ds_seq (ds_forL d_var dg_name (ds_asg (d_op od_Ii (d_op od_I0i (d_op od_I0i (d_op od_Ii d_var d_int) (d_op od_Ii d_var d_int)) d_int) d_int) dg_name)) (ds_ret (d_lst (m := true) (d_cons (d_cb (cd_list (m := false)) (d_cons d_var d_nil)) (d_cons d_int (d_cons d_int (d_cons d_int (d_cons d_var d_nil))))))))), fun avs μ P X h => ?_⟩
  obtain ⟨a_script, rfl, h⟩ := h
  rw [show startA D__law_bag.N.length [a_script] = [some a_script, none, none] from rfl]
  obtain ⟨k, ns, rfl, hl, q⟩ := h
  simp (maxSteps := 2000000) only [wLcRO, wLcRi, wLcR2, wDcEn, dcItem, wFrzD, wDGetF, wLcK, aInC, aGetC, wForZipS, wWhile, wGlue, wIndexS, wCountS, wSlS, wRevS, aIxS, aRepS, aAddS, bLenS, wStepL, wReverse, wLcSO, wForO, wLcRf, wCallT, wExtend, bSorted, wSl21, wRevT, wDisp, wPairs, wDGetK, insD_inj, OB.ins.injEq, wFldB, wFldR, wSetF, wMake, wMeth0, wFrzI, wFrzB, wLstB, wTupB, wForB, wForRevB, wListZipB, wForEnT, uTurns, wToF, wForR3, wLeast, wTIdx, isL_ob, isT_ob, avB_int, avB_bool, avB_str, avB_none, avB_list, avB_tuple, avB_ins, AV.ob.injEq, PyData.list.injEq, PyData.tuple.injEq, fd6, aEqI, aEqS, aEqB, wJoin, wJoinT, wJoinS, wUnlike, wIfC, bMaxL, bMinL, wToI, wLCount, wLIndex, wForZip, wLcZip, wListZip, wCallL, wFrzV, wDNew, wDPut, wDGet2, wSortIt, wForEnum, wLcEnum, wForRev, wLcRev, wForStr, wLcStr, wTryAs, endAs, wIsXT, bIsX, clsA_ref, clsA_ty, wForL, wForT, wForS, wForR1, wForR2, wLcL, wLcT, wLcS, wLcR1, wVar, wC, wOp, wUn, wFrz, aI0, aI, aU, aEq, aIxL, aIxT, aIx, wNotV, wAndV, wOrV, wChain, wB, wNot, wAnd, wOr, wYes, wIf, aIsN, aTyIs, wNil, wCons, wStar, wTup, wLst, newL_t, newL_f, newT, wTyIn, wIsiT, wCall0, wCall, wCB, bLen, bMax2, bMin2, bAbs, bInt, bTyp, wAppend, wNoPart, wPart, wSlL, wSlT, bStr, aCatT, wRevL, wgName, wgNil, wgCons, wgTup, wgSub, wgTL, wNext, wSeq, wDrop, wRet, wRetN, wIfS, wAsg, wNever, wPar, wRaise, wAug, wBreak, wCont, wTry, wTry0, entry, DEnds.turn, lcItem, wipeA, wNevE, updM_same, OB.lst.injEq, updM_updM, isI_int, isB_bool, isS_str, isI_str, isI_bool, isS_int, isS_bool, isB_int, isB_str, isL_list, isL_tuple, isL_ref, isT_tuple, isT_list, isT_ref, isD_dat, isD_ref, isNo_none, isNo_int, isNo_str, isNo_bool, isNo_list, isNo_tuple, isNo_ref, dats_nil, dats_cons, fr_dat, Option.map_some, fd1, fd2, fd3, fd4, fd5, tyO_dat, tyO_ref, tyD_none, tyD_bool, tyD_int, tyD_str, tyD_list, tyD_tuple, tyD_dict,
  List.all_cons, List.all_nil, List.map_cons, List.map_nil, Bool.and_true, Bool.true_and, xor_f, xor_t, Int.reduceToNat,
  List.getElem?_cons_zero, List.getElem?_cons_succ, List.set_cons_zero, List.set_cons_succ, List.append_nil, List.nil_append, List.cons_append, List.length_cons, List.length_nil, List.cons.injEq, Option.some.injEq, AV.dat.injEq, AV.ref.injEq, AV.ty.injEq, PyData.int.injEq, PyData.str.injEq, PyData.bool.injEq,
  and_true, true_and, and_assoc, exists_eq_left', exists_eq_left, exists_and_left, exists_eq', exists_eq, exists_eq_right, exists_eq_right', decide_eq_true_eq, Bool.not_eq_true', Bool.false_eq_true, if_true, if_false, reduceCtorEq, false_and, and_false, or_false, false_or, exists_false, decide_true, decide_false, Nat.zero_add, ite_true, ite_false, decide_eq_false_iff_not]
  refine ⟨_, overL_list, fun i l' μ' => ∃ (t : Int) (y : Option AV), l' = [some (.dat k (.list (ns.map PyData.int))), some (iAV t), y] ∧ μ' = μ ∧ 0 ≤ t ∧ t < 2305843009213693951, ⟨1, none, rfl, rfl, by decide, by decide⟩, ?_, ?_⟩
  · rintro i x l' μ' hx ⟨t, y, rfl, rfl, t0, t1⟩
    rw [List.getElem?_map, List.getElem?_map] at hx
    obtain ⟨d, hd, rfl⟩ := Option.map_eq_some_iff.mp hx
    obtain ⟨m, hm, rfl⟩ := Option.map_eq_some_iff.mp hd
    simp (maxSteps := 2000000) only [wLcRO, wLcRi, wLcR2, wDcEn, dcItem, wFrzD, wDGetF, wLcK, aInC, aGetC, wForZipS, wWhile, wGlue, wIndexS, wCountS, wSlS, wRevS, aIxS, aRepS, aAddS, bLenS, wStepL, wReverse, wLcSO, wForO, wLcRf, wCallT, wExtend, bSorted, wSl21, wRevT, wDisp, wPairs, wDGetK, insD_inj, OB.ins.injEq, wFldB, wFldR, wSetF, wMake, wMeth0, wFrzI, wFrzB, wLstB, wTupB, wForB, wForRevB, wListZipB, wForEnT, uTurns, wToF, wForR3, wLeast, wTIdx, isL_ob, isT_ob, avB_int, avB_bool, avB_str, avB_none, avB_list, avB_tuple, avB_ins, AV.ob.injEq, PyData.list.injEq, PyData.tuple.injEq, fd6, aEqI, aEqS, aEqB, wJoin, wJoinT, wJoinS, wUnlike, wIfC, bMaxL, bMinL, wToI, wLCount, wLIndex, wForZip, wLcZip, wListZip, wCallL, wFrzV, wDNew, wDPut, wDGet2, wSortIt, wForEnum, wLcEnum, wForRev, wLcRev, wForStr, wLcStr, wTryAs, endAs, wIsXT, bIsX, clsA_ref, clsA_ty, wForL, wForT, wForS, wForR1, wForR2, wLcL, wLcT, wLcS, wLcR1, wVar, wC, wOp, wUn, wFrz, aI0, aI, aU, aEq, aIxL, aIxT, aIx, wNotV, wAndV, wOrV, wChain, wB, wNot, wAnd, wOr, wYes, wIf, aIsN, aTyIs, wNil, wCons, wStar, wTup, wLst, newL_t, newL_f, newT, wTyIn, wIsiT, wCall0, wCall, wCB, bLen, bMax2, bMin2, bAbs, bInt, bTyp, wAppend, wNoPart, wPart, wSlL, wSlT, bStr, aCatT, wRevL, wgName, wgNil, wgCons, wgTup, wgSub, wgTL, wNext, wSeq, wDrop, wRet, wRetN, wIfS, wAsg, wNever, wPar, wRaise, wAug, wBreak, wCont, wTry, wTry0, entry, DEnds.turn, lcItem, wipeA, wNevE, updM_same, OB.lst.injEq, updM_updM, isI_int, isB_bool, isS_str, isI_str, isI_bool, isS_int, isS_bool, isB_int, isB_str, isL_list, isL_tuple, isL_ref, isT_tuple, isT_list, isT_ref, isD_dat, isD_ref, isNo_none, isNo_int, isNo_str, isNo_bool, isNo_list, isNo_tuple, isNo_ref, dats_nil, dats_cons, fr_dat, Option.map_some, fd1, fd2, fd3, fd4, fd5, tyO_dat, tyO_ref, tyD_none, tyD_bool, tyD_int, tyD_str, tyD_list, tyD_tuple, tyD_dict,
  List.all_cons, List.all_nil, List.map_cons, List.map_nil, Bool.and_true, Bool.true_and, xor_f, xor_t, Int.reduceToNat,
  List.getElem?_cons_zero, List.getElem?_cons_succ, List.set_cons_zero, List.set_cons_succ, List.append_nil, List.nil_append, List.cons_append, List.length_cons, List.length_nil, List.cons.injEq, Option.some.injEq, AV.dat.injEq, AV.ref.injEq, AV.ty.injEq, PyData.int.injEq, PyData.str.injEq, PyData.bool.injEq,
  and_true, true_and, and_assoc, exists_eq_left', exists_eq_left, exists_and_left, exists_eq', exists_eq, exists_eq_right, exists_eq_right', decide_eq_true_eq, Bool.not_eq_true', Bool.false_eq_true, if_true, if_false, reduceCtorEq, false_and, and_false, or_false, false_or, exists_false, decide_true, decide_false, Nat.zero_add, ite_true, ite_false, decide_eq_false_iff_not]
    exact ⟨wide_mul (a := 62) (b := 20) (by omega) (by decide) (by decide) (by decide) (by decide), by decide, by decide, Int.emod_nonneg _ (by decide), Int.emod_lt_of_pos _ (by decide)⟩
  · rintro l' μ' ⟨t, y, rfl, rfl, t0, t1⟩
    simp (maxSteps := 2000000) only [wLcRO, wLcRi, wLcR2, wDcEn, dcItem, wFrzD, wDGetF, wLcK, aInC, aGetC, wForZipS, wWhile, wGlue, wIndexS, wCountS, wSlS, wRevS, aIxS, aRepS, aAddS, bLenS, wStepL, wReverse, wLcSO, wForO, wLcRf, wCallT, wExtend, bSorted, wSl21, wRevT, wDisp, wPairs, wDGetK, insD_inj, OB.ins.injEq, wFldB, wFldR, wSetF, wMake, wMeth0, wFrzI, wFrzB, wLstB, wTupB, wForB, wForRevB, wListZipB, wForEnT, uTurns, wToF, wForR3, wLeast, wTIdx, isL_ob, isT_ob, avB_int, avB_bool, avB_str, avB_none, avB_list, avB_tuple, avB_ins, AV.ob.injEq, PyData.list.injEq, PyData.tuple.injEq, fd6, aEqI, aEqS, aEqB, wJoin, wJoinT, wJoinS, wUnlike, wIfC, bMaxL, bMinL, wToI, wLCount, wLIndex, wForZip, wLcZip, wListZip, wCallL, wFrzV, wDNew, wDPut, wDGet2, wSortIt, wForEnum, wLcEnum, wForRev, wLcRev, wForStr, wLcStr, wTryAs, endAs, wIsXT, bIsX, clsA_ref, clsA_ty, wForL, wForT, wForS, wForR1, wForR2, wLcL, wLcT, wLcS, wLcR1, wVar, wC, wOp, wUn, wFrz, aI0, aI, aU, aEq, aIxL, aIxT, aIx, wNotV, wAndV, wOrV, wChain, wB, wNot, wAnd, wOr, wYes, wIf, aIsN, aTyIs, wNil, wCons, wStar, wTup, wLst, newL_t, newL_f, newT, wTyIn, wIsiT, wCall0, wCall, wCB, bLen, bMax2, bMin2, bAbs, bInt, bTyp, wAppend, wNoPart, wPart, wSlL, wSlT, bStr, aCatT, wRevL, wgName, wgNil, wgCons, wgTup, wgSub, wgTL, wNext, wSeq, wDrop, wRet, wRetN, wIfS, wAsg, wNever, wPar, wRaise, wAug, wBreak, wCont, wTry, wTry0, entry, DEnds.turn, lcItem, wipeA, wNevE, updM_same, OB.lst.injEq, updM_updM, isI_int, isB_bool, isS_str, isI_str, isI_bool, isS_int, isS_bool, isB_int, isB_str, isL_list, isL_tuple, isL_ref, isT_tuple, isT_list, isT_ref, isD_dat, isD_ref, isNo_none, isNo_int, isNo_str, isNo_bool, isNo_list, isNo_tuple, isNo_ref, dats_nil, dats_cons, fr_dat, Option.map_some, fd1, fd2, fd3, fd4, fd5, tyO_dat, tyO_ref, tyD_none, tyD_bool, tyD_int, tyD_str, tyD_list, tyD_tuple, tyD_dict,
  List.all_cons, List.all_nil, List.map_cons, List.map_nil, Bool.and_true, Bool.true_and, xor_f, xor_t, Int.reduceToNat,
  List.getElem?_cons_zero, List.getElem?_cons_succ, List.set_cons_zero, List.set_cons_succ, List.append_nil, List.nil_append, List.cons_append, List.length_cons, List.length_nil, List.cons.injEq, Option.some.injEq, AV.dat.injEq, AV.ref.injEq, AV.ty.injEq, PyData.int.injEq, PyData.str.injEq, PyData.bool.injEq,
  and_true, true_and, and_assoc, exists_eq_left', exists_eq_left, exists_and_left, exists_eq', exists_eq, exists_eq_right, exists_eq_right', decide_eq_true_eq, Bool.not_eq_true', Bool.false_eq_true, if_true, if_false, reduceCtorEq, false_and, and_false, or_false, false_or, exists_false, decide_true, decide_false, Nat.zero_add, ite_true, ite_false, decide_eq_false_iff_not]
    refine ⟨_, _, rfl, .inl rfl, ?_⟩
    rw [newL_f]
    exact ⟨_, dats_map _, by decide, fun a ha => dropQ.here (q a _ ha ⟨_, ns, 0, 0, 0, t, rfl, hl, by decide, by omega, by decide, by decide, by decide, t0, t1⟩)⟩
end
end Fv

--raise check_pattern beginnings row_for shut shut_holds
namespace Fv
open PySem PySem.Spec PyProof.Rows L2
set_option pp.deepTerms true
set_option pp.maxSteps 100000
local macro_rules | `(tactic| walk_at "vd") => `(tactic| simp only [wLcRO, wLcRi, wLcR2, wDcEn, dcItem, wFrzD, wDGetF, wLcK, aInC, aGetC, wForZipS, wWhile, wGlue, wIndexS, wCountS, wSlS, wRevS, aIxS, aRepS, aAddS, bLenS, wStepL, wReverse, wLcSO, wForO, wLcRf, wCallT, wExtend, bSorted, wSl21, wRevT, wDisp, wPairs, wDGetK, insD_inj, OB.ins.injEq, wFldB, wFldR, wSetF, wMake, wMeth0, wFrzI, wFrzB, wLstB, wTupB, wForB, wForRevB, wListZipB, wForEnT, uTurns, wToF, wForR3, wLeast, wTIdx, isL_ob, isT_ob, avB_int, avB_bool, avB_str, avB_none, avB_list, avB_tuple, avB_ins, AV.ob.injEq, PyData.list.injEq, PyData.tuple.injEq, fd6, aEqI, aEqS, aEqB, wJoin, wJoinT, wJoinS, wUnlike, wIfC, bMaxL, bMinL, wToI, wLCount, wLIndex, wForZip, wLcZip, wListZip, wCallL, wFrzV, wDNew, wDPut, wDGet2, wSortIt, wForEnum, wLcEnum, wForRev, wLcRev, wForStr, wLcStr, wTryAs, endAs, wIsXT, bIsX, clsA_ref, clsA_ty, wForL, wForT, wForS, wForR1, wForR2, wLcL, wLcT, wLcS, wLcR1, wVar, wC, wOp, wUn, wFrz, aI0, aI, aU, aEq, aIxL, aIxT, aIx, wNotV, wAndV, wOrV, wChain, wB, wNot, wAnd, wOr, wYes, wIf, aIsN, aTyIs, wNil, wCons, wStar, wTup, wLst, newL_t, newL_f, newT, wTyIn, wIsiT, wCall0, wCall, wCB, bLen, bMax2, bMin2, bAbs, bInt, bTyp, wAppend, wNoPart, wPart, wSlL, wSlT, bStr, aCatT, wRevL, wgName, wgNil, wgCons, wgTup, wgSub, wgTL, wNext, wSeq, wDrop, wRet, wRetN, wIfS, wAsg, wNever, wPar, wRaise, wAug, wBreak, wCont, wTry, wTry0, entry, DEnds.turn, lcItem, wipeA, wNevE, updM_same, OB.lst.injEq, updM_updM, isI_int, isB_bool, isS_str, isI_str, isI_bool, isS_int, isS_bool, isB_int, isB_str, isL_list, isL_tuple, isL_ref, isT_tuple, isT_list, isT_ref, isD_dat, isD_ref, isNo_none, isNo_int, isNo_str, isNo_bool, isNo_list, isNo_tuple, isNo_ref, dats_nil, dats_cons, fr_dat, Option.map_some, fd1, fd2, fd3, fd4, fd5, tyO_dat, tyO_ref, tyD_none, tyD_bool, tyD_int, tyD_str, tyD_list, tyD_tuple, tyD_dict,
  List.all_cons, List.all_nil, List.map_cons, List.map_nil, Bool.and_true, Bool.true_and, xor_f, xor_t, Int.reduceToNat,
  List.getElem?_cons_zero, List.getElem?_cons_succ, List.set_cons_zero, List.set_cons_succ, List.append_nil, List.nil_append, List.cons_append, List.length_cons, List.length_nil, List.cons.injEq, Option.some.injEq, AV.dat.injEq, AV.ref.injEq, AV.ty.injEq, PyData.int.injEq, PyData.str.injEq, PyData.bool.injEq,
  and_true, true_and, and_assoc, exists_eq_left', exists_eq_left, exists_and_left, exists_eq', exists_eq, exists_eq_right, exists_eq_right', decide_eq_true_eq, Bool.not_eq_true', Bool.false_eq_true, if_true, if_false, reduceCtorEq, false_and, and_false, or_false, false_or, exists_false, decide_true, decide_false, Nat.zero_add, ite_true, ite_false, decide_eq_false_iff_not])

/-! signs that are drawn; where a fold begins, sign by sign -/
/-- signs as they are drawn -/
structure SgL (l : List Nat) : Prop where
  ok : ∀ c ∈ l, okC c = true
def fd__law_signs_drawn (b m : AV) (μ : MU) (P : PQ) (X : PXq) : Prop := ∃ r o N n, b = .ref r ∧ μ r = some o ∧ Bg o N ∧ N + 2000 ≤ 10 ^ 9 ∧ m = iAV n ∧ 1 ≤ n ∧ n ≤ 299 ∧ ∀ l o', PatL l → bentN l ≤ 40 → Bg o' (N + 2000) → P (.dat true (.str (tx l))) (updM μ r o')
theorem tx_e : Str.ofString "" = tx [] := by rw [str_tx]; decide
theorem tx_hd : Str.ofString "hd" = tx [104, 100] := by rw [str_tx]; decide
theorem tx_dh3 : Str.ofString "dh-" = tx [100, 104, 45] := by rw [str_tx]; decide
theorem tx_hd12 : Str.ofString "hd----------" = tx [104, 100, 45, 45, 45, 45, 45, 45, 45, 45, 45, 45] := by rw [str_tx]; decide
def strA (cs : List Nat) : List AV := (cs.map fun c => tx [c]).map fun z => AV.dat true (.str z)
theorem Bg.mono {o : OB} {N M : Int} (h : Bg o N) (hl : N ≤ M) : Bg o M := by
  obtain ⟨kb, ts, c1, c2, c3, t, e, a1, a2, a3, a4, a5, a6, a7⟩ := h
  exact ⟨kb, ts, c1, c2, c3, t, e, a1, a2, a3, a4, a5, by omega, a7⟩
/-- the other way about -/
def dhC (c : Nat) : Nat := if c = 104 then 100 else if c = 100 then 104 else 45
theorem okC_cases {c : Nat} (h : okC c = true) : c = 104 ∨ c = 100 ∨ c = 45 := by
  unfold okC at h
  simp only [List.any_cons, List.any_nil, Bool.or_false, Bool.or_eq_true, beq_iff_eq] at h
  rcases h with h | h | h
  · exact .inl h.symm
  · exact .inr (.inl h.symm)
  · exact .inr (.inr h.symm)
theorem dhC_ok (c : Nat) : okC (dhC c) = true := by
  unfold dhC
  split
  · rfl
  · split <;> rfl
theorem idx_hd {c : Nat} (h : okC c = true) : ∃ i : Nat, Builtin.Str.occurrences (tx [104, 100, 45]) (tx [c]) 0 (tx [104, 100, 45]).length 1 = i :: [] ∧ atI [100, 104, 45] (i : Int) = some (dhC c) := by
  rcases okC_cases h with rfl | rfl | rfl
  · exact ⟨0, by decide +kernel, rfl⟩
  · exact ⟨1, by decide +kernel, rfl⟩
  · exact ⟨2, by decide +kernel, rfl⟩
theorem dashes_ok {k : Nat} : (List.replicate k [45]).flatten.length = k ∧ ∀ c ∈ (List.replicate k [45]).flatten, okC c = true := by
  refine ⟨by rw [rep_len]; simp, fun c hc => ?_⟩
  simp only [List.mem_flatten, List.mem_replicate] at hc
  obtain ⟨l, ⟨_, rfl⟩, h⟩ := hc
  rw [List.mem_singleton] at h
  rw [h]; rfl
theorem ok_app {a b : List Nat} (h1 : ∀ c ∈ a, okC c = true) (h2 : ∀ c ∈ b, okC c = true) : ∀ c ∈ a ++ b, okC c = true := fun c hc => (List.mem_append.mp hc).elim (h1 c) (h2 c)
theorem cutN_mem {a : List Nat} {lo hi : Option Int} : ∀ c ∈ cutN a lo hi, c ∈ a := fun c hc => List.mem_of_mem_drop (List.mem_of_mem_take hc)
theorem draw_signs {S : Str} {sg : List Nat} {k n : Nat} {r : Addr} {o : OB} {M : Int} {μ : MU} {Q : PQ} {x1 x2 x3 x4 x5 x6 x7 : Option AV} (hS : S = tx sg) (hk : sg.length = k) (k1 : 1 ≤ k) (k2 : k ≤ 100) (ok : ∀ c ∈ sg, okC c = true) (hB : Bg o M) (hM : M + 400 ≤ 10 ^ 9) (hn : n ≤ 400)
    (fin : ∀ cs o', cs.length = n → (∀ c ∈ cs, okC c = true) → Bg o' (M + n) → ∀ a, updM μ r o' a = none → Q (.ref a) (updM (updM μ r o') a (.lst (strA cs)))) :
    lcOwn (wgName 6) wYes (wOp aIxS (wC (.dat true (.str S))) (wCall0 (fd2 fd__law_draw) (wCons (wVar 0) (wCons (wC (iAV (k : Int))) wNil)))) [6] [some (.ref r), x1, x2, x3, x4, x5, x6, x7] (updM μ r o) ((List.range n).map fun (k : Nat) => iAV (k : Int)) Q := by
  refine ⟨by rw [List.length_map, List.length_range]; omega, fun i acc μ' => ∃ cs o', acc = strA cs ∧ cs.length = i ∧ (∀ c ∈ cs, okC c = true) ∧ Bg o' (M + i) ∧ μ' = updM μ r o', ⟨[], o, rfl, rfl, (fun c hc => by cases hc), hB.mono (by omega), rfl⟩, ?_, ?_⟩
  · rintro i x acc μ' hx ⟨cs, o', rfl, hl, hok, hB', rfl⟩
    have hi : i < n := by
      have := (List.getElem?_eq_some_iff.mp hx).1
      rwa [List.length_map, List.length_range] at this
    simp (maxSteps := 2000000) only [wLcRO, wLcRi, wLcR2, wDcEn, dcItem, wFrzD, wDGetF, wLcK, aInC, aGetC, wForZipS, wWhile, wGlue, wIndexS, wCountS, wSlS, wRevS, aIxS, aRepS, aAddS, bLenS, wStepL, wReverse, wLcSO, wForO, wLcRf, wCallT, wExtend, bSorted, wSl21, wRevT, wDisp, wPairs, wDGetK, insD_inj, OB.ins.injEq, wFldB, wFldR, wSetF, wMake, wMeth0, wFrzI, wFrzB, wLstB, wTupB, wForB, wForRevB, wListZipB, wForEnT, uTurns, wToF, wForR3, wLeast, wTIdx, isL_ob, isT_ob, avB_int, avB_bool, avB_str, avB_none, avB_list, avB_tuple, avB_ins, AV.ob.injEq, PyData.list.injEq, PyData.tuple.injEq, fd6, aEqI, aEqS, aEqB, wJoin, wJoinT, wJoinS, wUnlike, wIfC, bMaxL, bMinL, wToI, wLCount, wLIndex, wForZip, wLcZip, wListZip, wCallL, wFrzV, wDNew, wDPut, wDGet2, wSortIt, wForEnum, wLcEnum, wForRev, wLcRev, wForStr, wLcStr, wTryAs, endAs, wIsXT, bIsX, clsA_ref, clsA_ty, wForL, wForT, wForS, wForR1, wForR2, wLcL, wLcT, wLcS, wLcR1, wVar, wC, wOp, wUn, wFrz, aI0, aI, aU, aEq, aIxL, aIxT, aIx, wNotV, wAndV, wOrV, wChain, wB, wNot, wAnd, wOr, wYes, wIf, aIsN, aTyIs, wNil, wCons, wStar, wTup, wLst, newL_t, newL_f, newT, wTyIn, wIsiT, wCall0, wCall, wCB, bLen, bMax2, bMin2, bAbs, bInt, bTyp, wAppend, wNoPart, wPart, wSlL, wSlT, bStr, aCatT, wRevL, wgName, wgNil, wgCons, wgTup, wgSub, wgTL, wNext, wSeq, wDrop, wRet, wRetN, wIfS, wAsg, wNever, wPar, wRaise, wAug, wBreak, wCont, wTry, wTry0, entry, DEnds.turn, lcItem, wipeA, wNevE, updM_same, OB.lst.injEq, updM_updM, isI_int, isB_bool, isS_str, isI_str, isI_bool, isS_int, isS_bool, isB_int, isB_str, isL_list, isL_tuple, isL_ref, isT_tuple, isT_list, isT_ref, isD_dat, isD_ref, isNo_none, isNo_int, isNo_str, isNo_bool, isNo_list, isNo_tuple, isNo_ref, dats_nil, dats_cons, fr_dat, Option.map_some, fd1, fd2, fd3, fd4, fd5, tyO_dat, tyO_ref, tyD_none, tyD_bool, tyD_int, tyD_str, tyD_list, tyD_tuple, tyD_dict,
  List.all_cons, List.all_nil, List.map_cons, List.map_nil, Bool.and_true, Bool.true_and, xor_f, xor_t, Int.reduceToNat,
  List.getElem?_cons_zero, List.getElem?_cons_succ, List.set_cons_zero, List.set_cons_succ, List.append_nil, List.nil_append, List.cons_append, List.length_cons, List.length_nil, List.cons.injEq, Option.some.injEq, AV.dat.injEq, AV.ref.injEq, AV.ty.injEq, PyData.int.injEq, PyData.str.injEq, PyData.bool.injEq,
  and_true, true_and, and_assoc, exists_eq_left', exists_eq_left, exists_and_left, exists_eq', exists_eq, exists_eq_right, exists_eq_right', decide_eq_true_eq, Bool.not_eq_true', Bool.false_eq_true, if_true, if_false, reduceCtorEq, false_and, and_false, or_false, false_or, exists_false, decide_true, decide_false, Nat.zero_add, ite_true, ite_false, decide_eq_false_iff_not, fd__law_draw]
    refine ⟨M + i, hB', by omega, by omega, by omega, fun v o2 v0 v1 hB2 => ⟨sg, hS, by omega, ?_⟩⟩
    obtain ⟨j, rfl⟩ : ∃ j : Nat, v = (j : Int) := ⟨v.toNat, by omega⟩
    have hj : j < sg.length := by omega
    refine ⟨sg[j], atI_nat (List.getElem?_eq_getElem hj), cs ++ [sg[j]], by unfold strA; simp, by simp [hl], fun c hc => ?_, o2, hB2.mono (by omega), rfl⟩
    rcases List.mem_append.mp hc with h | h
    · exact hok c h
    · rw [List.mem_singleton] at h
      rw [h]; exact ok _ (List.getElem_mem hj)
  · rintro acc μ' ⟨cs, o', rfl, hl, hok, hB', rfl⟩ a ha
    rw [List.length_map, List.length_range] at hl hB'
    exact fin cs o' hl hok hB' a ha
section
variable {P : Program} {w : World} {K : PySem.W.Frag} {R : RK} {mg : Str → Option Value} {base : Heap}
theorem gd__law_signs_drawn (D : DefAt K mg "_law_signs_drawn" D__law_signs_drawn.st D__law_signs_drawn.ps) (T : Bi mg)
    (h__law_draw : Good P w K mg base 2 "_law_draw" D__law_draw.ps (spD K R (fd2 fd__law_draw))) :
    Good P w K mg base 3 "_law_signs_drawn" D__law_signs_drawn.ps (spD K R (fd2 fd__law_signs_drawn)) := by
  refine GoodD.of (N := D__law_signs_drawn.N) (f := (fd2 fd__law_signs_drawn)) D D__law_signs_drawn.sc (fun avs μ P X h => by obtain ⟨_, _, rfl, _⟩ := h; rfl) (fun fa cdv A outer s H E hr => ?_)
  obtain ⟨f__law_draw, fx__law_draw, m__law_draw, k__law_draw, b__law_draw, G__law_draw⟩ := h__law_draw
  have nd := D__law_signs_drawn.sc.nd
  have hu := hu_of hr
  refine ⟨_, (pss_cons (ps_set (i := 2) nd rfl (Or.inl rfl) (pe_call G__law_draw (hr.mono (by decide)) (by rfl) m__law_draw k__law_draw b__law_draw .nil pass0 (pa_cons (pv 0) (pa_cons pe_int pa_nil)))) (pss_cons (ps_set (i := 3) nd rfl (Or.inl rfl) (pe_call G__law_draw (hr.mono (by decide)) (by rfl) m__law_draw k__law_draw b__law_draw .nil pass0 (pa_cons (pv 0) (pa_cons (pe_op op_add (pv 1) pe_int) pa_nil)))) (pss_cons (ps_if (pt_cmpR op_eq (pv 2) pe_int (nomark _)) (pss_one (ps_set (i := 4) nd rfl (Or.inl rfl) (pe_join pe_str (pe_lc (own := [("k", 6)]) (g := (gName 6)) (tt := tYes) (by rfl) nd (pi_range1 (by rfl) T.n_range (pa_cons (pe_callB (call_min2 rfl) (by rfl) T.n_min (by decide +kernel) (pa_cons (pv 3) (pa_cons pe_int pa_nil))) pa_nil)) (blkOk_by (own := [("k", 6)]) (N := D__law_signs_drawn.N) (sc := defScope D__law_signs_drawn.st) (by decide +kernel)) (fun _ _ _ _ _ => (pg_name (i := 6) nd rfl (Or.inl rfl))) (fun _ _ _ _ _ => pts_nil) (fun _ _ _ _ _ => (pe_ix ix_str pe_str (pe_call G__law_draw (hr.mono (by decide)) (by rfl) m__law_draw k__law_draw b__law_draw .nil pass0 (pa_cons (pv 0) (pa_cons pe_int pa_nil))) (fun _ _ => rfl))))))) (pss_one (ps_if (pt_cmpR op_eq (pv 2) pe_int (nomark _)) (pss_one (ps_set (i := 4) nd rfl (Or.inl rfl) (pe_join pe_str (pe_lc (own := [("k", 6)]) (g := (gName 6)) (tt := tYes) (by rfl) nd (pi_range1 (by rfl) T.n_range (pa_cons (pe_callB (call_min2 rfl) (by rfl) T.n_min (by decide +kernel) (pa_cons (pv 3) (pa_cons pe_int pa_nil))) pa_nil)) (blkOk_by (own := [("k", 6)]) (N := D__law_signs_drawn.N) (sc := defScope D__law_signs_drawn.st) (by decide +kernel)) (fun _ _ _ _ _ => (pg_name (i := 6) nd rfl (Or.inl rfl))) (fun _ _ _ _ _ => pts_nil) (fun _ _ _ _ _ => (pe_ix ix_str pe_str (pe_call G__law_draw (hr.mono (by decide)) (by rfl) m__law_draw k__law_draw b__law_draw .nil pass0 (pa_cons (pv 0) (pa_cons pe_int pa_nil))) (fun _ _ => rfl))))))) (pss_one (ps_if (pt_cmpR op_eq (pv 2) pe_int (nomark _)) (pss_one (ps_set (i := 4) nd rfl (Or.inl rfl) (pe_join pe_str (pe_lc (own := [("k", 6)]) (g := (gName 6)) (tt := tYes) (by rfl) nd (pi_range1 (by rfl) T.n_range (pa_cons (pv 3) pa_nil)) (blkOk_by (own := [("k", 6)]) (N := D__law_signs_drawn.N) (sc := defScope D__law_signs_drawn.st) (by decide +kernel)) (fun _ _ _ _ _ => (pg_name (i := 6) nd rfl (Or.inl rfl))) (fun _ _ _ _ _ => pts_nil) (fun _ _ _ _ _ => (pe_ix ix_str pe_str (pe_call G__law_draw (hr.mono (by decide)) (by rfl) m__law_draw k__law_draw b__law_draw .nil pass0 (pa_cons (pv 0) (pa_cons pe_int pa_nil))) (fun _ _ => rfl))))))) (pss_cons (ps_set (i := 4) nd rfl (Or.inl rfl) (pe_op op_repS pe_str (pe_call G__law_draw (hr.mono (by decide)) (by rfl) m__law_draw k__law_draw b__law_draw .nil pass0 (pa_cons (pv 0) (pa_cons pe_int pa_nil))))) (pss_one (ps_while PassesOwn.never (PW.pt (pw_and (pt_cmpR op_lt (pe_op op_mul (pe_callB call_len_str (by rfl) T.n_len (by decide +kernel) (pa_cons (pv 4) pa_nil)) pe_int) (pv 3) (nomark _)) (pw_and1 (pt_cmpR op_gt (pe_op op_add (pe_m1 PySem.F.slot_str_count PySem.F.type_str_count mt_count (pv 4) pe_str) pe_int) (pe_callB call_len_str (by rfl) T.n_len (by decide +kernel) (pa_cons (pv 4) pa_nil)) (nomark _))))) (pss_cons (ps_set (i := 5) nd rfl (Or.inl rfl) (pe_join pe_str (pe_lc (own := [("sign", 7)]) (g := (gName 7)) (tt := tYes) (by rfl) nd (pi_str (pe_revS (pv 4))) (blkOk_by (own := [("sign", 7)]) (N := D__law_signs_drawn.N) (sc := defScope D__law_signs_drawn.st) (by decide +kernel)) (fun _ _ _ _ _ => (pg_name (i := 7) nd rfl (Or.inl rfl))) (fun _ _ _ _ _ => pts_nil) (fun _ _ _ _ _ => (pe_ix ix_str pe_str (pe_m1 PySem.F.slot_str_index PySem.F.type_str_index mt_sindex pe_str (pv 7)) (fun _ _ => rfl)))))) (pss_cons (ps_set (i := 4) nd rfl (Or.inl rfl) (pe_op op_add_str (pe_op op_add_str (pv 4) (pe_ix ix_str pe_str (pe_call G__law_draw (hr.mono (by decide)) (by rfl) m__law_draw k__law_draw b__law_draw .nil pass0 (pa_cons (pv 0) (pa_cons pe_int pa_nil))) (fun _ _ => rfl))) (pe_slice sl_str (pv 5) po_none (po_some (pe_op op_sub (pe_callB call_len_str (by rfl) T.n_len (by decide +kernel) (pa_cons (pv 5) pa_nil)) (pe_op op_mulW (pe_call G__law_draw (hr.mono (by decide)) (by rfl) m__law_draw k__law_draw b__law_draw .nil pass0 (pa_cons (pv 0) (pa_cons pe_int pa_nil))) (pe_call G__law_draw (hr.mono (by decide)) (by rfl) m__law_draw k__law_draw b__law_draw .nil pass0 (pa_cons (pv 0) (pa_cons pe_int pa_nil))))))))) (pss_one (ps_set (i := 4) nd rfl (Or.inl rfl) (pe_ifExp (pt_cmpR op_eq (pv 2) pe_int (nomark _)) (pe_op op_add_str (pe_op op_repS pe_str (pe_call G__law_draw (hr.mono (by decide)) (by rfl) m__law_draw k__law_draw b__law_draw .nil pass0 (pa_cons (pv 0) (pa_cons pe_int pa_nil)))) (pv 4)) (pv 4)))))))))))))) (pss_cons (ps_set (i := 4) nd rfl (Or.inl rfl) (pe_slice sl_str (pv 4) po_none (po_some (pv 1)))) (pss_cons (ps_while PassesOwn.never (pt_cmpR op_gt (pe_op op_sub (pe_callB call_len_str (by rfl) T.n_len (by decide +kernel) (pa_cons (pv 4) pa_nil)) (pe_m1 PySem.F.slot_str_count PySem.F.type_str_count mt_count (pv 4) pe_str)) pe_int (nomark _)) (pss_one (ps_set (i := 4) nd rfl (Or.inl rfl) (pe_slice sl_str (pv 4) po_none (po_some (pe_op op_fdivW (pe_callB call_len_str (by rfl) T.n_len (by decide +kernel) (pa_cons (pv 4) pa_nil)) pe_int)))))) (pss_one (ps_ret (pv 4)))))))), _, (ds_seq (ds_asg (d_call0 (d_cons d_var (d_cons d_int d_nil))) dg_name) (ds_seq (ds_asg (d_call0 (d_cons d_var (d_cons (d_op od_I0i d_var d_int) d_nil))) dg_name) (ds_seq (ds_join (ds_if (d_tTest (d_op od_eqI d_var d_int)) (ds_asg (d_glue d_str (d_lcRO (d_cons (d_cb cd_min2 (d_cons d_var (d_cons d_int d_nil))) d_nil) dg_name d_yes (d_op od_ixS d_str (d_call0 (d_cons d_var (d_cons d_int d_nil)))) (ownT_name (by decide)))) dg_name) (ds_if (d_tTest (d_op od_eqI d_var d_int)) (ds_asg (d_glue d_str (d_lcRO (d_cons (d_cb cd_min2 (d_cons d_var (d_cons d_int d_nil))) d_nil) dg_name d_yes (d_op od_ixS d_str (d_call0 (d_cons d_var (d_cons d_int d_nil)))) (ownT_name (by decide)))) dg_name) (ds_if (d_tTest (d_op od_eqI d_var d_int)) (ds_asg (d_glue d_str (d_lcRO (d_cons d_var d_nil) dg_name d_yes (d_op od_ixS d_str (d_call0 (d_cons d_var (d_cons d_int d_nil)))) (ownT_name (by decide)))) dg_name) (ds_seq (ds_asg (d_op od_repS d_str (d_call0 (d_cons d_var (d_cons d_int d_nil)))) dg_name) (ds_while (d_and (d_tTest (d_op od_I0b (d_op od_Ii (d_cb cd_lenS (d_cons d_var d_nil)) d_int) d_var)) (d_tTest (d_op od_I0b (d_op od_I0i (d_countS d_var d_str) d_int) (d_cb cd_lenS (d_cons d_var d_nil))))) (ds_seq (ds_asg (d_glue d_str (d_lcStr (m := false) (d_revS d_var) dg_name d_yes (d_op od_ixS d_str (d_indexS d_str d_var)) (ownT_name (by decide)))) dg_name) (ds_seq (ds_asg (d_op od_addS (d_op od_addS d_var (d_op od_ixS d_str (d_call0 (d_cons d_var (d_cons d_int d_nil))))) (d_slS d_var d_noPart (d_part (d_op od_I0i (d_cb cd_lenS (d_cons d_var d_nil)) (d_op od_Ii (d_call0 (d_cons d_var (d_cons d_int d_nil))) (d_call0 (d_cons d_var (d_cons d_int d_nil)))))))) dg_name) (ds_asg (d_if (d_tTest (d_op od_eqI d_var d_int)) (d_op od_addS (d_op od_repS d_str (d_call0 (d_cons d_var (d_cons d_int d_nil)))) d_var) d_var) dg_name))))))))) (ds_seq (ds_asg (d_slS d_var d_noPart (d_part d_var)) dg_name) (ds_seq (ds_while (d_tTest (d_op od_I0b (d_op od_I0i (d_cb cd_lenS (d_cons d_var d_nil)) (d_countS d_var d_str)) d_int)) (ds_asg (d_slS d_var d_noPart (d_part (d_op od_Ii (d_cb cd_lenS (d_cons d_var d_nil)) d_int))) dg_name)) (ds_ret d_var)))))), fun avs μ P X h => ?_⟩
  obtain ⟨a_bag, a_most, rfl, h⟩ := h
  rw [show startA D__law_signs_drawn.N.length [a_bag, a_most] = [some a_bag, some a_most, none, none, none, none, none, none] from rfl]
  obtain ⟨r, o, N, n, rfl, hr, hB0, hN, rfl, n1, n2, q⟩ := h
  simp (maxSteps := 2000000) only [wLcRO, wLcRi, wLcR2, wDcEn, dcItem, wFrzD, wDGetF, wLcK, aInC, aGetC, wForZipS, wWhile, wGlue, wIndexS, wCountS, wSlS, wRevS, aIxS, aRepS, aAddS, bLenS, wStepL, wReverse, wLcSO, wForO, wLcRf, wCallT, wExtend, bSorted, wSl21, wRevT, wDisp, wPairs, wDGetK, insD_inj, OB.ins.injEq, wFldB, wFldR, wSetF, wMake, wMeth0, wFrzI, wFrzB, wLstB, wTupB, wForB, wForRevB, wListZipB, wForEnT, uTurns, wToF, wForR3, wLeast, wTIdx, isL_ob, isT_ob, avB_int, avB_bool, avB_str, avB_none, avB_list, avB_tuple, avB_ins, AV.ob.injEq, PyData.list.injEq, PyData.tuple.injEq, fd6, aEqI, aEqS, aEqB, wJoin, wJoinT, wJoinS, wUnlike, wIfC, bMaxL, bMinL, wToI, wLCount, wLIndex, wForZip, wLcZip, wListZip, wCallL, wFrzV, wDNew, wDPut, wDGet2, wSortIt, wForEnum, wLcEnum, wForRev, wLcRev, wForStr, wLcStr, wTryAs, endAs, wIsXT, bIsX, clsA_ref, clsA_ty, wForL, wForT, wForS, wForR1, wForR2, wLcL, wLcT, wLcS, wLcR1, wVar, wC, wOp, wUn, wFrz, aI0, aI, aU, aEq, aIxL, aIxT, aIx, wNotV, wAndV, wOrV, wChain, wB, wNot, wAnd, wOr, wYes, wIf, aIsN, aTyIs, wNil, wCons, wStar, wTup, wLst, newL_t, newL_f, newT, wTyIn, wIsiT, wCall0, wCall, wCB, bLen, bMax2, bMin2, bAbs, bInt, bTyp, wAppend, wNoPart, wPart, wSlL, wSlT, bStr, aCatT, wRevL, wgName, wgNil, wgCons, wgTup, wgSub, wgTL, wNext, wSeq, wDrop, wRet, wRetN, wIfS, wAsg, wNever, wPar, wRaise, wAug, wBreak, wCont, wTry, wTry0, entry, DEnds.turn, lcItem, wipeA, wNevE, updM_same, OB.lst.injEq, updM_updM, isI_int, isB_bool, isS_str, isI_str, isI_bool, isS_int, isS_bool, isB_int, isB_str, isL_list, isL_tuple, isL_ref, isT_tuple, isT_list, isT_ref, isD_dat, isD_ref, isNo_none, isNo_int, isNo_str, isNo_bool, isNo_list, isNo_tuple, isNo_ref, dats_nil, dats_cons, fr_dat, Option.map_some, fd1, fd2, fd3, fd4, fd5, tyO_dat, tyO_ref, tyD_none, tyD_bool, tyD_int, tyD_str, tyD_list, tyD_tuple, tyD_dict,
  List.all_cons, List.all_nil, List.map_cons, List.map_nil, Bool.and_true, Bool.true_and, xor_f, xor_t, Int.reduceToNat,
  List.getElem?_cons_zero, List.getElem?_cons_succ, List.set_cons_zero, List.set_cons_succ, List.append_nil, List.nil_append, List.cons_append, List.length_cons, List.length_nil, List.cons.injEq, Option.some.injEq, AV.dat.injEq, AV.ref.injEq, AV.ty.injEq, PyData.int.injEq, PyData.str.injEq, PyData.bool.injEq,
  and_true, true_and, and_assoc, exists_eq_left', exists_eq_left, exists_and_left, exists_eq', exists_eq, exists_eq_right, exists_eq_right', decide_eq_true_eq, Bool.not_eq_true', Bool.false_eq_true, if_true, if_false, reduceCtorEq, false_and, and_false, or_false, false_or, exists_false, decide_true, decide_false, Nat.zero_add, ite_true, ite_false, decide_eq_false_iff_not, fd__law_draw]
  refine ⟨o, hr, N, hB0, by omega, by decide, by decide, fun v o1 v0 v1 hB1 => ⟨N + 1, hB1, by omega, by omega, by omega, fun u o2 u0 u1 hB2 => ?_⟩⟩
  obtain ⟨u', rfl⟩ : ∃ u' : Nat, u = (u' : Int) := ⟨u.toNat, by omega⟩
  obtain ⟨n', rfl⟩ : ∃ n' : Nat, n = (n' : Int) := ⟨n.toNat, by omega⟩
  have leave : ∀ (o' : OB) (a : Addr) (x : OB), updM μ r o' a = none → ∀ b y, updM μ r o' b = some y → updM (updM μ r o') a x b = some y := fun o' a x ha b y hb => by
    rw [updM_ne (fun z => by rw [z, ha] at hb; cases hb)]; exact hb
  refine ⟨fun l' μ' => ∃ (cs : List Nat) (o' : OB) (y5 y6 y7 : Option AV), l' = [some (.ref r), some (iAV (n' : Int)), some (iAV v), some (iAV (u' : Int)), some (.dat true (.str (tx cs))), y5, y6, y7] ∧ (∀ c ∈ cs, okC c = true) ∧ cs.length ≤ 2000 ∧ Bg o' (N + 2000) ∧ ∀ b x, updM μ r o' b = some x → μ' b = some x, ?_, ?_⟩
  · by_cases h0 : v = 0
    · exact (if_pos h0).mpr ⟨tx_e, by split <;> omega, by split <;> omega, draw_signs (k := 3) tx_hd3 rfl (by decide) (by decide) (by decide) hB2 (by omega) (by split <;> omega) fun cs o' hl hok hB a ha => ⟨true, cs, updM_same, by rw [hl]; split <;> omega, cs, o', none, none, none, rfl, hok, by rw [hl]; split <;> omega, hB.mono (by split <;> omega), leave o' a _ ha⟩⟩
    · refine (if_neg h0).mpr ?_
      by_cases h1 : v = 1
      · exact (if_pos h1).mpr ⟨tx_e, by split <;> omega, by split <;> omega, draw_signs (k := 2) tx_hd rfl (by decide) (by decide) (by decide) hB2 (by omega) (by split <;> omega) fun cs o' hl hok hB a ha => ⟨true, cs, updM_same, by rw [hl]; split <;> omega, cs, o', none, none, none, rfl, hok, by rw [hl]; split <;> omega, hB.mono (by split <;> omega), leave o' a _ ha⟩⟩
      · refine (if_neg h1).mpr ?_
        by_cases h2 : v = 2
        · exact (if_pos h2).mpr ⟨tx_e, by omega, by omega, draw_signs (k := 12) tx_hd12 rfl (by decide) (by decide) (by decide) hB2 (by omega) (by omega) fun cs o' hl hok hB a ha => ⟨true, cs, updM_same, by omega, cs, o', none, none, none, rfl, hok, by omega, hB.mono (by omega), leave o' a _ ha⟩⟩
        · refine (if_neg h2).mpr ⟨N + 2, hB2.mono (by omega), by omega, by decide, by decide, fun w3 o3 w0 w1 hB3 => ⟨[45], tx_dash, by omega, by omega, by simp; omega, by decide, ?_⟩⟩
          obtain ⟨dl, dok⟩ := dashes_ok (k := w3.toNat)
          refine ⟨fun m l' μ' => ∃ (cs : List Nat) (o' : OB) (y5 y6 y7 : Option AV), l' = [some (.ref r), some (iAV (n' : Int)), some (iAV v), some (iAV (u' : Int)), some (.dat true (.str (tx cs))), y5, y6, y7] ∧ (∀ c ∈ cs, okC c = true) ∧ cs.length ≤ 310 ∧ m = 2000 - cs.length ∧ Bg o' (N + 3 + 4 * cs.length) ∧ μ' = updM μ r o', ⟨_, _, o3, none, none, none, rfl, dok, by omega, rfl, hB3.mono (by omega), rfl⟩, ?_⟩
          rintro m l' μ' ⟨cs, o', y5, y6, y7, rfl, hok, hl, rfl, hB, rfl⟩
          have exitJ : ∃ (cs' : List Nat) (o2' : OB) (z5 z6 z7 : Option AV), [some (.ref r), some (iAV (n' : Int)), some (iAV v), some (iAV (u' : Int)), some (.dat true (.str (tx cs))), y5, y6, y7] = [some (.ref r), some (iAV (n' : Int)), some (iAV v), some (iAV (u' : Int)), some (.dat true (.str (tx cs'))), z5, z6, z7] ∧ (∀ c ∈ cs', okC c = true) ∧ cs'.length ≤ 2000 ∧ Bg o2' (N + 2000) ∧ ∀ b x, updM μ r o2' b = some x → updM μ r o' b = some x := ⟨cs, o', _, _, _, rfl, hok, by omega, hB.mono (by omega), fun b x h => h⟩
          refine ⟨_, rfl, cs, rfl, by omega, .inr ⟨by decide, by decide⟩, _, rfl, _, rfl, ?_⟩
          by_cases h3 : (cs.length : Int) * 2 < (u' : Int)
          · refine (if_pos h3).mpr ⟨_, rfl, cs, rfl, 45, tx_dash, _, rfl, cs, rfl, by omega, ?_⟩
            by_cases h4 : (cs.length : Int) < (cs.count 45 : Nat) + 21
            · refine (if_pos h4).mpr ⟨tx_e, _, rfl, cs, rfl, by omega, lcAll_map (k := true) cs.reverse (fun c => .str (tx [dhC c])) (by rw [List.length_map, signs_tx, List.length_map]) (by rw [List.length_reverse]; omega) (fun i x c hx hc => ?_) (newL_tt ?_)⟩
              · rw [List.getElem?_map, signs_tx, List.getElem?_map, hc] at hx
                obtain rfl := Option.some.inj hx
                simp (maxSteps := 2000000) only [wLcRO, wLcRi, wLcR2, wDcEn, dcItem, wFrzD, wDGetF, wLcK, aInC, aGetC, wForZipS, wWhile, wGlue, wIndexS, wCountS, wSlS, wRevS, aIxS, aRepS, aAddS, bLenS, wStepL, wReverse, wLcSO, wForO, wLcRf, wCallT, wExtend, bSorted, wSl21, wRevT, wDisp, wPairs, wDGetK, insD_inj, OB.ins.injEq, wFldB, wFldR, wSetF, wMake, wMeth0, wFrzI, wFrzB, wLstB, wTupB, wForB, wForRevB, wListZipB, wForEnT, uTurns, wToF, wForR3, wLeast, wTIdx, isL_ob, isT_ob, avB_int, avB_bool, avB_str, avB_none, avB_list, avB_tuple, avB_ins, AV.ob.injEq, PyData.list.injEq, PyData.tuple.injEq, fd6, aEqI, aEqS, aEqB, wJoin, wJoinT, wJoinS, wUnlike, wIfC, bMaxL, bMinL, wToI, wLCount, wLIndex, wForZip, wLcZip, wListZip, wCallL, wFrzV, wDNew, wDPut, wDGet2, wSortIt, wForEnum, wLcEnum, wForRev, wLcRev, wForStr, wLcStr, wTryAs, endAs, wIsXT, bIsX, clsA_ref, clsA_ty, wForL, wForT, wForS, wForR1, wForR2, wLcL, wLcT, wLcS, wLcR1, wVar, wC, wOp, wUn, wFrz, aI0, aI, aU, aEq, aIxL, aIxT, aIx, wNotV, wAndV, wOrV, wChain, wB, wNot, wAnd, wOr, wYes, wIf, aIsN, aTyIs, wNil, wCons, wStar, wTup, wLst, newL_t, newL_f, newT, wTyIn, wIsiT, wCall0, wCall, wCB, bLen, bMax2, bMin2, bAbs, bInt, bTyp, wAppend, wNoPart, wPart, wSlL, wSlT, bStr, aCatT, wRevL, wgName, wgNil, wgCons, wgTup, wgSub, wgTL, wNext, wSeq, wDrop, wRet, wRetN, wIfS, wAsg, wNever, wPar, wRaise, wAug, wBreak, wCont, wTry, wTry0, entry, DEnds.turn, lcItem, wipeA, wNevE, updM_same, OB.lst.injEq, updM_updM, isI_int, isB_bool, isS_str, isI_str, isI_bool, isS_int, isS_bool, isB_int, isB_str, isL_list, isL_tuple, isL_ref, isT_tuple, isT_list, isT_ref, isD_dat, isD_ref, isNo_none, isNo_int, isNo_str, isNo_bool, isNo_list, isNo_tuple, isNo_ref, dats_nil, dats_cons, fr_dat, Option.map_some, fd1, fd2, fd3, fd4, fd5, tyO_dat, tyO_ref, tyD_none, tyD_bool, tyD_int, tyD_str, tyD_list, tyD_tuple, tyD_dict,
  List.all_cons, List.all_nil, List.map_cons, List.map_nil, Bool.and_true, Bool.true_and, xor_f, xor_t, Int.reduceToNat,
  List.getElem?_cons_zero, List.getElem?_cons_succ, List.set_cons_zero, List.set_cons_succ, List.append_nil, List.nil_append, List.cons_append, List.length_cons, List.length_nil, List.cons.injEq, Option.some.injEq, AV.dat.injEq, AV.ref.injEq, AV.ty.injEq, PyData.int.injEq, PyData.str.injEq, PyData.bool.injEq,
  and_true, true_and, and_assoc, exists_eq_left', exists_eq_left, exists_and_left, exists_eq', exists_eq, exists_eq_right, exists_eq_right', decide_eq_true_eq, Bool.not_eq_true', Bool.false_eq_true, if_true, if_false, reduceCtorEq, false_and, and_false, or_false, false_or, exists_false, decide_true, decide_false, Nat.zero_add, ite_true, ite_false, decide_eq_false_iff_not, fd__law_draw]
                obtain ⟨k, hk, hat⟩ := idx_hd (hok c (List.mem_reverse.mp (List.mem_of_getElem? hc)))
                exact ⟨[104, 100, 45], tx_hd3, [c], rfl, k, [], hk, [100, 104, 45], tx_dh3, by decide, _, hat, rfl⟩
              · have mlen : (cs.reverse.map dhC).length = cs.length := by rw [List.length_map, List.length_reverse]
                have mok : ∀ c ∈ cs.reverse.map dhC, okC c = true := fun c hc => by
                  obtain ⟨d, _, rfl⟩ := List.mem_map.mp hc
                  exact dhC_ok d
                have misl : isL (updM μ r o') (.dat true (.list (cs.reverse.map fun c => .str (tx [dhC c])))) (((cs.reverse.map dhC).map fun c => tx [c]).map fun z => AV.dat true (.str z)) := by
                  show (cs.reverse.map fun c => PyData.str (tx [dhC c])).map (AV.dat true) = _
                  rw [List.map_map, List.map_map, List.map_map]; rfl
                generalize cs.reverse.map dhC = mm at *
                refine ⟨true, mm, misl, by omega, _, rfl, _, rfl, r, rfl, o', updM_same, N + 3 + 4 * cs.length, hB, by omega, by decide, by decide, fun p o4 p0 p1 hB4 => ?_⟩
                obtain ⟨g, hg, hgok⟩ : ∃ g : Nat, atI [104, 100] p = some g ∧ okC g = true := by
                  rcases (show p = 0 ∨ p = 1 by omega) with rfl | rfl
                  · exact ⟨104, rfl, rfl⟩
                  · exact ⟨100, rfl, rfl⟩
                refine ⟨[104, 100], tx_hd, by decide, g, hg, cs, rfl, [g], rfl, by simp; omega, _, rfl, _, rfl, mm, rfl, by omega, _, rfl, r, rfl, o4, updM_same, _, hB4, by omega, by decide, by decide, fun p2 o5 e0 e1 hB5 => ⟨_, rfl, r, rfl, o5, updM_same, _, hB5, by omega, by decide, by decide, fun p3 o6 f0 f1 hB6 => ?_⟩⟩
                have cl := cutN_len mm none (some ((mm.length : Int) - p2 * p3))
                have cok : ∀ c ∈ cutN mm none (some ((mm.length : Int) - p2 * p3)), okC c = true := fun c hc => mok c (cutN_mem c hc)
                have gok : ∀ c ∈ [g], okC c = true := fun c hc => by rw [List.mem_singleton] at hc; rw [hc]; exact hgok
                refine ⟨wide_mul (a := 2) (b := 2) (by omega) (by omega) (by decide) (by decide) (by decide), mm, rfl, by omega, cs ++ [g], rfl, _, rfl, by rw [List.length_append]; simp; omega, _, rfl, v, rfl, ?_⟩
                generalize cutN mm none (some ((mm.length : Int) - p2 * p3)) = ce at *
                have nok : ∀ c ∈ (cs ++ [g]) ++ ce, okC c = true := ok_app (ok_app hok gok) cok
                have nlen : ((cs ++ [g]) ++ ce).length = cs.length + 1 + ce.length := by rw [List.length_append, List.length_append]; rfl
                generalize (cs ++ [g]) ++ ce = nn at *
                by_cases hv : v = 3
                · refine (if_pos hv).mpr ⟨_, rfl, r, rfl, o6, updM_same, _, hB6, by omega, by decide, by decide, fun p4 o7 j0 j1 hB7 => ?_⟩
                  obtain ⟨dl2, dok2⟩ := dashes_ok (k := p4.toNat)
                  refine ⟨[45], tx_dash, by omega, by omega, by simp; omega, by decide, _, rfl, _, rfl, nn, rfl, by omega, 2000 - ((List.replicate p4.toNat [45]).flatten ++ nn).length, by rw [List.length_append]; omega, (List.replicate p4.toNat [45]).flatten ++ nn, o7, _, _, _, rfl, ok_app dok2 nok, by rw [List.length_append]; omega, rfl, hB7.mono (by rw [List.length_append]; omega), by simp only [updM_updM]⟩
                · exact (if_neg hv).mpr ⟨_, rfl, 2000 - nn.length, by omega, nn, o6, _, _, _, rfl, nok, by omega, rfl, hB6.mono (by omega), by simp only [updM_updM]⟩
            · exact (if_neg h4).mpr exitJ
          · exact (if_neg h3).mpr exitJ
  · rintro l' μ' ⟨cs, o', y5, y6, y7, rfl, hok, hl, hB, hsub⟩
    refine ⟨_, rfl, _, rfl, (n' : Int), rfl, cs, rfl, by omega, ?_⟩
    rw [cutN_to]
    refine ⟨fun m l' μ2 => ∃ ds : List Nat, l' = [some (.ref r), some (iAV (n' : Int)), some (iAV v), some (iAV (u' : Int)), some (.dat true (.str (tx ds))), y5, y6, y7] ∧ (∀ c ∈ ds, okC c = true) ∧ ds.length ≤ 299 ∧ m = ds.length ∧ μ2 = μ', ⟨_, cs.take n', rfl, fun c hc => hok c (List.mem_of_mem_take hc), by rw [List.length_take]; omega, rfl, rfl⟩, ?_⟩
    rintro m l' μ2 ⟨ds, rfl, hok2, hl2, rfl, rfl⟩
    refine ⟨_, rfl, ds, rfl, by omega, _, rfl, ds, rfl, 45, tx_dash, ?_⟩
    have hcl : ds.count 45 ≤ ds.length := List.count_le_length
    by_cases h5 : (40 : Int) < (ds.length : Int) - (ds.count 45 : Nat)
    · have e : cutN ds none (some ((ds.length : Int) / 2)) = ds.take (ds.length / 2) := cutN_to ds (ds.length / 2)
      refine (if_pos h5).mpr ⟨_, rfl, _, rfl, ds, rfl, by omega, ⟨by decide, by decide⟩, ds, rfl, by omega, (ds.take (ds.length / 2)).length, by rw [List.length_take]; omega, ds.take (ds.length / 2), by rw [e]; rfl, fun c hc => hok2 c (List.mem_of_mem_take hc), by rw [List.length_take]; omega, rfl, rfl⟩
    · exact (if_neg h5).mpr ⟨_, rfl, dropQ.sub hsub (q ds o' ⟨hl2, hok2⟩ (by unfold bentN; omega) hB)⟩
end
end Fv

set_option pp.deepTerms true
set_option pp.maxSteps 100000
--raise check_pattern beginnings row_for shut shut_holds
namespace Fv
open PySem PySem.Spec PyProof.Rows L2
local macro_rules | `(tactic| walk_at "vd") => `(tactic| simp only [wLcRO, wLcRi, wLcR2, wDcEn, dcItem, wFrzD, wDGetF, wLcK, aInC, aGetC, wForZipS, wWhile, wGlue, wIndexS, wCountS, wSlS, wRevS, aIxS, aRepS, aAddS, bLenS, wStepL, wReverse, wLcSO, wForO, wLcRf, wCallT, wExtend, bSorted, wSl21, wRevT, wDisp, wPairs, wDGetK, insD_inj, OB.ins.injEq, wFldB, wFldR, wSetF, wMake, wMeth0, wFrzI, wFrzB, wLstB, wTupB, wForB, wForRevB, wListZipB, wForEnT, uTurns, wToF, wForR3, wLeast, wTIdx, isL_ob, isT_ob, avB_int, avB_bool, avB_str, avB_none, avB_list, avB_tuple, avB_ins, AV.ob.injEq, PyData.list.injEq, PyData.tuple.injEq, fd6, aEqI, aEqS, aEqB, wJoin, wJoinT, wJoinS, wUnlike, wIfC, bMaxL, bMinL, wToI, wLCount, wLIndex, wForZip, wLcZip, wListZip, wCallL, wFrzV, wDNew, wDPut, wDGet2, wSortIt, wForEnum, wLcEnum, wForRev, wLcRev, wForStr, wLcStr, wTryAs, endAs, wIsXT, bIsX, clsA_ref, clsA_ty, wForL, wForT, wForS, wForR1, wForR2, wLcL, wLcT, wLcS, wLcR1, wVar, wC, wOp, wUn, wFrz, aI0, aI, aU, aEq, aIxL, aIxT, aIx, wNotV, wAndV, wOrV, wChain, wB, wNot, wAnd, wOr, wYes, wIf, aIsN, aTyIs, wNil, wCons, wStar, wTup, wLst, newL_t, newL_f, newT, wTyIn, wIsiT, wCall0, wCall, wCB, bLen, bMax2, bMin2, bAbs, bInt, bTyp, wAppend, wNoPart, wPart, wSlL, wSlT, bStr, aCatT, wRevL, wgName, wgNil, wgCons, wgTup, wgSub, wgTL, wNext, wSeq, wDrop, wRet, wRetN, wIfS, wAsg, wNever, wPar, wRaise, wAug, wBreak, wCont, wTry, wTry0, entry, DEnds.turn, lcItem, wipeA, wNevE, updM_same, OB.lst.injEq, updM_updM, isI_int, isB_bool, isS_str, isI_str, isI_bool, isS_int, isS_bool, isB_int, isB_str, isL_list, isL_tuple, isL_ref, isT_tuple, isT_list, isT_ref, isD_dat, isD_ref, isNo_none, isNo_int, isNo_str, isNo_bool, isNo_list, isNo_tuple, isNo_ref, dats_nil, dats_cons, fr_dat, Option.map_some, fd1, fd2, fd3, fd4, fd5, tyO_dat, tyO_ref, tyD_none, tyD_bool, tyD_int, tyD_str, tyD_list, tyD_tuple, tyD_dict,
  List.all_cons, List.all_nil, List.map_cons, List.map_nil, Bool.and_true, Bool.true_and, xor_f, xor_t, Int.reduceToNat,
  List.getElem?_cons_zero, List.getElem?_cons_succ, List.set_cons_zero, List.set_cons_succ, List.append_nil, List.nil_append, List.cons_append, List.length_cons, List.length_nil, List.cons.injEq, Option.some.injEq, AV.dat.injEq, AV.ref.injEq, AV.ty.injEq, PyData.int.injEq, PyData.str.injEq, PyData.bool.injEq,
  and_true, true_and, and_assoc, exists_eq_left', exists_eq_left, exists_and_left, exists_eq', exists_eq, exists_eq_right, exists_eq_right', decide_eq_true_eq, Bool.not_eq_true', Bool.false_eq_true, if_true, if_false, reduceCtorEq, false_and, and_false, or_false, false_or, exists_false, decide_true, decide_false, Nat.zero_add, ite_true, ite_false, decide_eq_false_iff_not])

/-! where folds begin -/
/-- how far a look goes -/
def begB (l : List Nat) (i : Nat) : Bool := decide (l[i]? ≠ some 45) && decide ((if l.length - 1 - i < i then l.length - 1 - i else i) ≤ reachN l i)
theorem fm_nat (g : Nat → Bool) : ∀ l : List Nat, l.filterMap (fun i => if g i = true then some (PyData.int (i : Int)) else none) = (l.filter g).map fun i : Nat => PyData.int (i : Int)
  | [] => rfl
  | x :: r => by
    rw [List.filterMap_cons, fm_nat g r]
    cases h : g x with
    | true => rw [if_pos rfl, List.filter_cons_of_pos h]; rfl
    | false => rw [if_neg Bool.false_ne_true, List.filter_cons_of_neg (by rw [h]; exact Bool.false_ne_true)]
theorem map_nat (l : List Nat) : (l.map fun i : Nat => (i : Int)).map PyData.int = l.map fun i : Nat => PyData.int (i : Int) := by rw [List.map_map]; rfl
def fd_beginnings (CN CT : Addr) (x : AV) (μ : MU) (P : PQ) (X : PXq) : Prop := ∃ k d, x = .dat k d ∧ (isStrD d = false → X (.ref CN) μ) ∧ ∀ l, d = .str (tx l) → l.length ≤ 100000 ∧ (patB l = false → X (.ref CN) μ) ∧ (patB l = true → (40 < bentN l → X (.ref CT) μ) ∧ (bentN l ≤ 40 → ∀ A, μ A = none → P (.ref A) (updM μ A (.lst (((begunL (dks (fR l) l.length) 0 ((l.length : Int) + 1)).map PyData.int).map (AV.dat true))))))
def fd__law_begins (s f b i : AV) (μ : MU) (P : PQ) (X : PXq) : Prop := ∃ k l, ∃ j : Nat, s = .dat k (.str (tx l)) ∧ f = iAV 0 ∧ b = iAV ((l.length : Int) + 1) ∧ i = iAV (j : Int) ∧ PatL l ∧ j < l.length ∧ P (bAV (begB l j)) μ
def fd__law_folds (s f b : AV) (μ : MU) (P : PQ) (X : PXq) : Prop := ∃ k l, s = .dat k (.str (tx l)) ∧ f = iAV 0 ∧ b = iAV ((l.length : Int) + 1) ∧ PatL l ∧ P (.dat true (.list (((List.range l.length).filter (begB l)).map fun i : Nat => .int (i : Int)))) μ
theorem pairs_at {l : List Nat} {i t : Nat} (h1 : t < i) (h2 : i + 1 + t < l.length) : ∃ c d, l[i + 1 + t]? = some c ∧ l[i - 1 - t]? = some d ∧ (pairsN l i)[t]? = some (c, d) := by
  refine ⟨l[i + 1 + t], l[i - 1 - t], List.getElem?_eq_getElem h2, List.getElem?_eq_getElem (by omega), ?_⟩
  unfold pairsN
  rw [List.getElem?_eq_getElem (by rw [List.length_zip, List.length_drop, List.length_reverse, List.length_take]; omega)]
  rw [List.getElem_zip, List.getElem_drop, List.getElem_reverse, List.getElem_take]
  congr 2
  have : (List.take i l).length - 1 - t = i - 1 - t := by rw [List.length_take]; omega
  simp only [this]
theorem pairs_len (l : List Nat) (i : Nat) : (pairsN l i).length = if l.length - 1 - i < i then l.length - 1 - i else min i l.length := by
  unfold pairsN
  rw [List.length_zip, List.length_drop, List.length_reverse, List.length_take]
  split <;> omega
theorem meet_in {c d : Nat} : ((d = 104 ∧ c = 100) ∨ (d = 100 ∧ c = 104) ∨ (d = 45 ∧ c = 45)) ↔ meetB (c, d) = true := by
  unfold meetB parC
  rw [decide_eq_true_eq]
  show _ ↔ (if c = 104 then some 100 else if c = 100 then some 104 else if c = 45 then some 45 else none) = some d
  by_cases h1 : c = 104
  · subst h1; simp; omega
  · rw [if_neg h1]
    by_cases h2 : c = 100
    · subst h2; simp; omega
    · rw [if_neg h2]
      by_cases h3 : c = 45
      · subst h3; simp; omega
      · rw [if_neg h3]; simp; omega
/-- all that is looked at lies as it must -/
def Met (l : List Nat) (i m : Nat) : Prop := ∀ j, j < m → ∃ p, (pairsN l i)[j]? = some p ∧ meetB p = true
theorem Met.le {l : List Nat} {i m : Nat} (h : Met l i m) : m ≤ reachN l i := by
  have : m ≤ (pairsN l i).length := by
    by_cases z : m ≤ (pairsN l i).length
    · exact z
    · obtain ⟨p, hp, _⟩ := h (pairsN l i).length (by omega)
      rw [List.getElem?_eq_none (Nat.le_refl _)] at hp; cases hp
  unfold reachN
  have hm := this
  clear this
  unfold Met at h
  generalize pairsN l i = ps at h hm ⊢
  induction m generalizing ps with
  | zero => exact Nat.zero_le _
  | succ m ih =>
    obtain ⟨p, hp, hq⟩ := h 0 (by omega)
    cases ps with
    | nil => cases hp
    | cons a r =>
      obtain rfl := Option.some.inj hp
      rw [List.takeWhile_cons, hq, if_pos rfl, List.length_cons]
      have := ih r (fun j hj => h (j + 1) (by omega)) (by simpa using hm)
      omega
theorem beg_t {l : List Nat} {i m : Nat} (hi : i < l.length) (h : Met l i m) (hc : l[i]? ≠ some 45) (hm : (if l.length - 1 - i < i then l.length - 1 - i else i) ≤ m) : begB l i = true := by
  unfold begB
  rw [decide_eq_true hc, decide_eq_true (Nat.le_trans hm h.le)]; rfl
theorem beg_f {l : List Nat} {i m c d : Nat} (h : Met l i m) (hm : m < i) (h2 : i + 1 + m < l.length) (hp : (pairsN l i)[m]? = some (c, d)) (hq : ¬ meetB (c, d) = true) : begB l i = false := by
  have : reachN l i = m := tw_len meetB m (pairsN l i) h (fun p hp2 => by
    rw [hp] at hp2
    obtain rfl := Option.some.inj hp2
    cases z : meetB (c, d) with
    | true => exact absurd z hq
    | false => rfl)
  unfold begB
  rw [this]
  have : ¬ (if l.length - 1 - i < i then l.length - 1 - i else i) ≤ m := by split <;> omega
  rw [decide_eq_false this, Bool.and_false]
theorem dks_keys (l : List Nat) (n : Nat) : (dks (fR l) n).map (·.1) = ((List.range n).filter fun i => decide (l[i]? ≠ some 45)).map fun i : Nat => (i : Int) := by
  unfold dks
  induction List.range n with
  | nil => rfl
  | cons a r ih =>
    rw [List.filterMap_cons]
    by_cases h : l[a]? = some 45
    · rw [show fR l a = none by unfold fR; rw [if_pos h]]
      rw [List.filter_cons_of_neg (by simpa using h)]
      exact ih
    · rw [show fR l a = some ((a : Int), (reachN l a : Int)) by unfold fR; rw [if_neg h]]
      rw [List.filter_cons_of_pos (by simpa using h), List.map_cons, List.map_cons, ← ih]
theorem dks_nodup (l : List Nat) (n : Nat) : ((dks (fR l) n).map (·.1)).Nodup := by
  rw [dks_keys]
  refine List.pairwise_map.mpr ((List.Pairwise.filter _ List.nodup_range).imp fun h e => h (by omega))
theorem dks_get {l : List Nat} {n i : Nat} (h : i < n) (hc : l[i]? ≠ some 45) : getI (dks (fR l) n) (i : Int) = some (reachN l i : Int) := by
  refine getI_mem _ (dks_nodup l n) _ _ ?_
  unfold dks
  exact List.mem_filterMap.mpr ⟨i, List.mem_range.mpr h, by unfold fR; rw [if_neg hc]⟩
theorem begun_all (l : List Nat) : begunL (dks (fR l) l.length) 0 ((l.length : Int) + 1) = ((List.range l.length).filter (begB l)).map fun i : Nat => (i : Int) := by
  unfold begunL withinL
  rw [dks_keys, List.filter_map, List.filter_map, List.filter_filter, List.filter_filter]
  congr 1
  refine List.filter_congr fun i hi => ?_
  rw [List.mem_range] at hi
  unfold begB
  by_cases hc : l[i]? = some 45
  · rw [show decide (l[i]? ≠ some 45) = false from decide_eq_false (fun z => z hc)]; simp
  · have hg := dks_get (n := l.length) hi hc
    rw [show decide (l[i]? ≠ some 45) = true from decide_eq_true hc]
    simp only [Function.comp, hg, Option.getD_some, Bool.and_true, Bool.true_and]
    have e1 : decide ((0 : Int) ≤ (i : Int)) = true := decide_eq_true (by omega)
    have e2 : decide ((i : Int) < (l.length : Int) + 1 - 1) = true := decide_eq_true (by omega)
    rw [e1, e2, Bool.and_true, Bool.and_true]
    refine decide_eq_decide.mpr ?_
    split <;> split <;> omega
theorem tx_d3 : Str.ofString "dh" = tx [100, 104] := by rw [str_tx]; decide
theorem tx_fl2 : Str.ofString "--" = tx [45, 45] := by rw [str_tx]; decide
theorem str_flp (x y : Str) : (x == y) = decide (y = x) := by
  rw [Bool.eq_iff_iff, beq_iff_eq, decide_eq_true_eq]
  exact ⟨fun h => h.symm, fun h => h.symm⟩
theorem in_three (x a b c : Str) : inV (vOf (.str x)) (([.str a, .str b, .str c] : List PyData).map vOf) = (decide (x = a) || (decide (x = b) || decide (x = c))) := by
  show (((a == x) || ((b == x) || ((c == x) || false))) : Bool) = _
  rw [str_flp, str_flp, str_flp, Bool.or_false]
theorem tx2 {a b c d : Nat} : tx [a, b] = tx [c, d] ↔ a = c ∧ b = d := ⟨fun h => by have := tx_inj h; simpa using this, fun h => by rw [h.1, h.2]⟩
section
variable {P : Program} {w : World} {K : PySem.W.Frag} {R : RK} {mg : Str → Option Value} {base : Heap}
theorem gd_beginnings (D : DefAt K mg "beginnings" D_beginnings.st D_beginnings.ps) (T : Bi mg) {C_NoPattern : Addr} {C_TooMany : Addr}
    (h_check_pattern : GoodX P w K mg base 2 "check_pattern" D_check_pattern.ps (spD K R (fd1 (fd_check_pattern C_NoPattern C_TooMany))))
    (h_begun : Good P w K mg base 2 "begun" D_begun.ps (spD K R (fd2 fd_begun)))
    (h_reaches_of : Good P w K mg base 2 "reaches_of" D_reaches_of.ps (spD K R (fd1 fd_reaches_of)))
    (h_whole_of : Good P w K mg base 1 "whole_of" D_whole_of.ps (spD K R (fd1 fd_whole_of))) :
    GoodX P w K mg base 3 "beginnings" D_beginnings.ps (spD K R (fd1 (fd_beginnings C_NoPattern C_TooMany))) := by
  refine GoodXD.of (N := D_beginnings.N) (f := (fd1 (fd_beginnings C_NoPattern C_TooMany))) D D_beginnings.sc (fun avs μ P X h => by obtain ⟨_, rfl, _⟩ := h; rfl) (fun fa cdv A outer s H E hr => ?_)
  obtain ⟨f0_check_pattern, fx0_check_pattern, m0_check_pattern, k0_check_pattern, b0_check_pattern, G0_check_pattern⟩ := h_check_pattern.calm
  obtain ⟨f_check_pattern, fx_check_pattern, m_check_pattern, k_check_pattern, b_check_pattern, G_check_pattern⟩ := h_check_pattern
  obtain ⟨f_begun, fx_begun, m_begun, k_begun, b_begun, G_begun⟩ := h_begun
  obtain ⟨f_reaches_of, fx_reaches_of, m_reaches_of, k_reaches_of, b_reaches_of, G_reaches_of⟩ := h_reaches_of
  obtain ⟨f_whole_of, fx_whole_of, m_whole_of, k_whole_of, b_whole_of, G_whole_of⟩ := h_whole_of
  have nd := D_beginnings.sc.nd
  have hu := hu_of hr
  have tk := takes_of (X := cxOf (L2.CX P w) P w K mg base D_beginnings.N "beginnings" (defScope D_beginnings.st) fa cdv A outer s H E) rfl rfl rfl rfl
  refine ⟨_, (pss_cons (ps_expr (pe_callS G_check_pattern (hr.mono (by decide)) (by rfl) m_check_pattern k_check_pattern b_check_pattern (fun σ => passAt tk σ) (pa_cons (pv 0) pa_nil))) (pss_one (ps_ret (pe_call G_begun (hr.mono (by decide)) (by rfl) m_begun k_begun b_begun .nil pass0 (pa_cons (pe_call G_reaches_of (hr.mono (by decide)) (by rfl) m_reaches_of k_reaches_of b_reaches_of .nil pass0 (pa_cons (pv 0) pa_nil)) (pa_cons (pe_call G_whole_of (hr.mono (by decide)) (by rfl) m_whole_of k_whole_of b_whole_of .nil pass0 (pa_cons (pv 0) pa_nil)) pa_nil)))))), _, (ds_seq (ds_drop (d_callS (d_cons d_var d_nil))) (ds_ret (d_call0 (d_cons (d_call0 (d_cons d_var d_nil)) (d_cons (d_call0 (d_cons d_var d_nil)) d_nil))))), fun avs μ P X h => ?_⟩
  obtain ⟨a_pattern, rfl, h⟩ := h
  rw [show startA D_beginnings.N.length [a_pattern] = [some a_pattern] from rfl]
  obtain ⟨k, d, rfl, q1, q2⟩ := h
  simp (maxSteps := 2000000) only [wLcRO, wLcRi, wLcR2, wDcEn, dcItem, wFrzD, wDGetF, wLcK, aInC, aGetC, wForZipS, wWhile, wGlue, wIndexS, wCountS, wSlS, wRevS, aIxS, aRepS, aAddS, bLenS, wStepL, wReverse, wLcSO, wForO, wLcRf, wCallT, wExtend, bSorted, wSl21, wRevT, wDisp, wPairs, wDGetK, insD_inj, OB.ins.injEq, wFldB, wFldR, wSetF, wMake, wMeth0, wFrzI, wFrzB, wLstB, wTupB, wForB, wForRevB, wListZipB, wForEnT, uTurns, wToF, wForR3, wLeast, wTIdx, isL_ob, isT_ob, avB_int, avB_bool, avB_str, avB_none, avB_list, avB_tuple, avB_ins, AV.ob.injEq, PyData.list.injEq, PyData.tuple.injEq, fd6, aEqI, aEqS, aEqB, wJoin, wJoinT, wJoinS, wUnlike, wIfC, bMaxL, bMinL, wToI, wLCount, wLIndex, wForZip, wLcZip, wListZip, wCallL, wFrzV, wDNew, wDPut, wDGet2, wSortIt, wForEnum, wLcEnum, wForRev, wLcRev, wForStr, wLcStr, wTryAs, endAs, wIsXT, bIsX, clsA_ref, clsA_ty, wForL, wForT, wForS, wForR1, wForR2, wLcL, wLcT, wLcS, wLcR1, wVar, wC, wOp, wUn, wFrz, aI0, aI, aU, aEq, aIxL, aIxT, aIx, wNotV, wAndV, wOrV, wChain, wB, wNot, wAnd, wOr, wYes, wIf, aIsN, aTyIs, wNil, wCons, wStar, wTup, wLst, newL_t, newL_f, newT, wTyIn, wIsiT, wCall0, wCall, wCB, bLen, bMax2, bMin2, bAbs, bInt, bTyp, wAppend, wNoPart, wPart, wSlL, wSlT, bStr, aCatT, wRevL, wgName, wgNil, wgCons, wgTup, wgSub, wgTL, wNext, wSeq, wDrop, wRet, wRetN, wIfS, wAsg, wNever, wPar, wRaise, wAug, wBreak, wCont, wTry, wTry0, entry, DEnds.turn, lcItem, wipeA, wNevE, updM_same, OB.lst.injEq, updM_updM, isI_int, isB_bool, isS_str, isI_str, isI_bool, isS_int, isS_bool, isB_int, isB_str, isL_list, isL_tuple, isL_ref, isT_tuple, isT_list, isT_ref, isD_dat, isD_ref, isNo_none, isNo_int, isNo_str, isNo_bool, isNo_list, isNo_tuple, isNo_ref, dats_nil, dats_cons, fr_dat, Option.map_some, fd1, fd2, fd3, fd4, fd5, tyO_dat, tyO_ref, tyD_none, tyD_bool, tyD_int, tyD_str, tyD_list, tyD_tuple, tyD_dict,
  List.all_cons, List.all_nil, List.map_cons, List.map_nil, Bool.and_true, Bool.true_and, xor_f, xor_t, Int.reduceToNat,
  List.getElem?_cons_zero, List.getElem?_cons_succ, List.set_cons_zero, List.set_cons_succ, List.append_nil, List.nil_append, List.cons_append, List.length_cons, List.length_nil, List.cons.injEq, Option.some.injEq, AV.dat.injEq, AV.ref.injEq, AV.ty.injEq, PyData.int.injEq, PyData.str.injEq, PyData.bool.injEq,
  and_true, true_and, and_assoc, exists_eq_left', exists_eq_left, exists_and_left, exists_eq', exists_eq, exists_eq_right, exists_eq_right', decide_eq_true_eq, Bool.not_eq_true', Bool.false_eq_true, if_true, if_false, reduceCtorEq, false_and, and_false, or_false, false_or, exists_false, decide_true, decide_false, Nat.zero_add, ite_true, ite_false, decide_eq_false_iff_not, fd_check_pattern, fd_begun, fd_reaches_of, fd_whole_of]
  refine ⟨q1, fun l e => ?_⟩
  obtain ⟨h1, h2, h3⟩ := q2 l e
  refine ⟨h1, h2, fun hp => ?_⟩
  obtain ⟨h4, h5⟩ := h3 hp
  refine ⟨h4, fun hb => ⟨l, e, patB_iff.mp hp, fun D od hD => ⟨l, e, (patB_iff.mp hp).len, od, _, rfl, by have := dks_len (fR l) l.length; have := (patB_iff.mp hp).len; omega, dks_nodup l l.length, fun A hA => ?_⟩⟩⟩
  have hDA : D ≠ A := fun z => by rw [z, updM_same] at hA; cases hA
  rw [updM_ne (fun z => hDA z.symm)] at hA
  refine dropQ.sub (fun b x hx => ?_) (h5 hb A hA)
  by_cases z : b = A
  · subst z
    rw [updM_same] at hx ⊢
    exact hx
  · rw [updM_ne z] at hx ⊢
    rw [updM_ne (fun y => by rw [y, hD] at hx; cases hx)]
    exact hx
theorem gd__law_begins (D : DefAt K mg "_law_begins" D__law_begins.st D__law_begins.ps) (T : Bi mg) :
    Good P w K mg base 1 "_law_begins" D__law_begins.ps (spD K R (fd4 fd__law_begins)) := by
  refine GoodD.of (N := D__law_begins.N) (f := (fd4 fd__law_begins)) D D__law_begins.sc (fun avs μ P X h => by obtain ⟨_, _, _, _, rfl, _⟩ := h; rfl) (fun fa cdv A outer s H E hr => ?_)
  have nd := D__law_begins.sc.nd
  have hu := hu_of hr
  refine ⟨_, (pss_cons (ps_if (pt_cmpR op_eq (pe_ix ix_str (pv 0) (pv 3) (fun _ _ => rfl)) pe_str (nomark _)) (pss_one (ps_ret pe_bl)) pss_nil) (pss_cons (ps_for PassesOwn.never (by rfl) (pi_range2 (by rfl) T.n_range (pa_cons pe_int (pa_cons (pe_callB call_len_str (by rfl) T.n_len (by decide +kernel) (pa_cons (pv 0) pa_nil)) pa_nil))) (pg_name (i := 4) nd rfl (Or.inl rfl)) (pss_cons (ps_if (PW.pt (pw_or (pt_cmpR op_lt (pe_op op_sub (pv 3) (pv 4)) (pv 1) (nomark _)) (pw_or1 (pt_cmpR op_gt (pe_op op_add (pv 3) (pv 4)) (pe_op op_sub (pv 2) pe_int) (nomark _))))) (pss_one (ps_ret pe_bl)) pss_nil) (pss_one (ps_if (pt_cmpR op_notIn_seq (pe_op op_add_str (pe_ix ix_str (pv 0) (pe_op op_sub (pv 3) (pv 4)) (fun _ _ => rfl)) (pe_ix ix_str (pv 0) (pe_op op_add (pv 3) (pv 4)) (fun _ _ => rfl))) (pe_lst (pa_cons pe_str (pa_cons pe_str (pa_cons pe_str pa_nil)))) (by rfl)) (pss_one (ps_ret pe_bl)) pss_nil)))) (pss_one (ps_ret pe_bl)))), _, (ds_seq (ds_if (d_tTest (d_op od_eqS (d_op od_ixS d_var d_var) d_str)) (ds_ret d_bl) ds_next) (ds_seq (ds_forR2 (d_cons d_int (d_cons (d_cb cd_lenS (d_cons d_var d_nil)) d_nil)) dg_name (ds_seq (ds_if (d_or (d_tTest (d_op od_I0b (d_op od_I0i d_var d_var) d_var)) (d_tTest (d_op od_I0b (d_op od_I0i d_var d_var) (d_op od_I0i d_var d_int)))) (ds_ret d_bl) ds_next) (ds_if (d_tTest (d_op od_notIn (d_op od_addS (d_op od_ixS d_var (d_op od_I0i d_var d_var)) (d_op od_ixS d_var (d_op od_I0i d_var d_var))) (d_lst (m := false) (d_cons d_str (d_cons d_str (d_cons d_str d_nil)))))) (ds_ret d_bl) ds_next))) (ds_ret d_bl))), fun avs μ P X h => ?_⟩
  obtain ⟨a_signs, a_first, a_behind, a_at, rfl, h⟩ := h
  rw [show startA D__law_begins.N.length [a_signs, a_first, a_behind, a_at] = [some a_signs, some a_first, some a_behind, some a_at, none] from rfl]
  obtain ⟨k, l, j, rfl, rfl, rfl, rfl, pat, hj, q⟩ := h
  simp (maxSteps := 2000000) only [wLcRO, wLcRi, wLcR2, wDcEn, dcItem, wFrzD, wDGetF, wLcK, aInC, aGetC, wForZipS, wWhile, wGlue, wIndexS, wCountS, wSlS, wRevS, aIxS, aRepS, aAddS, bLenS, wStepL, wReverse, wLcSO, wForO, wLcRf, wCallT, wExtend, bSorted, wSl21, wRevT, wDisp, wPairs, wDGetK, insD_inj, OB.ins.injEq, wFldB, wFldR, wSetF, wMake, wMeth0, wFrzI, wFrzB, wLstB, wTupB, wForB, wForRevB, wListZipB, wForEnT, uTurns, wToF, wForR3, wLeast, wTIdx, isL_ob, isT_ob, avB_int, avB_bool, avB_str, avB_none, avB_list, avB_tuple, avB_ins, AV.ob.injEq, PyData.list.injEq, PyData.tuple.injEq, fd6, aEqI, aEqS, aEqB, wJoin, wJoinT, wJoinS, wUnlike, wIfC, bMaxL, bMinL, wToI, wLCount, wLIndex, wForZip, wLcZip, wListZip, wCallL, wFrzV, wDNew, wDPut, wDGet2, wSortIt, wForEnum, wLcEnum, wForRev, wLcRev, wForStr, wLcStr, wTryAs, endAs, wIsXT, bIsX, clsA_ref, clsA_ty, wForL, wForT, wForS, wForR1, wForR2, wLcL, wLcT, wLcS, wLcR1, wVar, wC, wOp, wUn, wFrz, aI0, aI, aU, aEq, aIxL, aIxT, aIx, wNotV, wAndV, wOrV, wChain, wB, wNot, wAnd, wOr, wYes, wIf, aIsN, aTyIs, wNil, wCons, wStar, wTup, wLst, newL_t, newL_f, newT, wTyIn, wIsiT, wCall0, wCall, wCB, bLen, bMax2, bMin2, bAbs, bInt, bTyp, wAppend, wNoPart, wPart, wSlL, wSlT, bStr, aCatT, wRevL, wgName, wgNil, wgCons, wgTup, wgSub, wgTL, wNext, wSeq, wDrop, wRet, wRetN, wIfS, wAsg, wNever, wPar, wRaise, wAug, wBreak, wCont, wTry, wTry0, entry, DEnds.turn, lcItem, wipeA, wNevE, updM_same, OB.lst.injEq, updM_updM, isI_int, isB_bool, isS_str, isI_str, isI_bool, isS_int, isS_bool, isB_int, isB_str, isL_list, isL_tuple, isL_ref, isT_tuple, isT_list, isT_ref, isD_dat, isD_ref, isNo_none, isNo_int, isNo_str, isNo_bool, isNo_list, isNo_tuple, isNo_ref, dats_nil, dats_cons, fr_dat, Option.map_some, fd1, fd2, fd3, fd4, fd5, tyO_dat, tyO_ref, tyD_none, tyD_bool, tyD_int, tyD_str, tyD_list, tyD_tuple, tyD_dict,
  List.all_cons, List.all_nil, List.map_cons, List.map_nil, Bool.and_true, Bool.true_and, xor_f, xor_t, Int.reduceToNat,
  List.getElem?_cons_zero, List.getElem?_cons_succ, List.set_cons_zero, List.set_cons_succ, List.append_nil, List.nil_append, List.cons_append, List.length_cons, List.length_nil, List.cons.injEq, Option.some.injEq, AV.dat.injEq, AV.ref.injEq, AV.ty.injEq, PyData.int.injEq, PyData.str.injEq, PyData.bool.injEq,
  and_true, true_and, and_assoc, exists_eq_left', exists_eq_left, exists_and_left, exists_eq', exists_eq, exists_eq_right, exists_eq_right', decide_eq_true_eq, Bool.not_eq_true', Bool.false_eq_true, if_true, if_false, reduceCtorEq, false_and, and_false, or_false, false_or, exists_false, decide_true, decide_false, Nat.zero_add, ite_true, ite_false, decide_eq_false_iff_not]
  have hl := pat.len
  have hc : l[j]? = some l[j] := List.getElem?_eq_getElem hj
  refine ⟨l, rfl, by omega, l[j], atI_nat hc, ?_⟩
  by_cases h45 : l[j] = 45
  · refine (if_pos (by rw [h45, tx_dash])).mpr ?_
    rw [show begB l j = false by unfold begB; rw [hc, h45]; rfl] at q
    exact dropQ.here q
  · have hne : l[j]? ≠ some 45 := fun z => h45 (by rw [hc] at z; exact Option.some.inj z)
    refine (if_neg (fun z => h45 (by rw [tx_dash] at z; exact tx1.mp z))).mpr ⟨l, rfl, by omega, by decide, by decide, by omega, by omega, fun m l' μ' => ∃ y, l' = [some (.dat k (.str (tx l))), some (iAV 0), some (iAV ((l.length : Int) + 1)), some (iAV (j : Int)), y] ∧ μ' = μ ∧ Met l j m, ⟨none, rfl, rfl, fun t ht => by omega⟩, ?_, ?_⟩
    · rintro m l' μ' hm ⟨y, rfl, rfl, met⟩
      simp (maxSteps := 2000000) only [wLcRO, wLcRi, wLcR2, wDcEn, dcItem, wFrzD, wDGetF, wLcK, aInC, aGetC, wForZipS, wWhile, wGlue, wIndexS, wCountS, wSlS, wRevS, aIxS, aRepS, aAddS, bLenS, wStepL, wReverse, wLcSO, wForO, wLcRf, wCallT, wExtend, bSorted, wSl21, wRevT, wDisp, wPairs, wDGetK, insD_inj, OB.ins.injEq, wFldB, wFldR, wSetF, wMake, wMeth0, wFrzI, wFrzB, wLstB, wTupB, wForB, wForRevB, wListZipB, wForEnT, uTurns, wToF, wForR3, wLeast, wTIdx, isL_ob, isT_ob, avB_int, avB_bool, avB_str, avB_none, avB_list, avB_tuple, avB_ins, AV.ob.injEq, PyData.list.injEq, PyData.tuple.injEq, fd6, aEqI, aEqS, aEqB, wJoin, wJoinT, wJoinS, wUnlike, wIfC, bMaxL, bMinL, wToI, wLCount, wLIndex, wForZip, wLcZip, wListZip, wCallL, wFrzV, wDNew, wDPut, wDGet2, wSortIt, wForEnum, wLcEnum, wForRev, wLcRev, wForStr, wLcStr, wTryAs, endAs, wIsXT, bIsX, clsA_ref, clsA_ty, wForL, wForT, wForS, wForR1, wForR2, wLcL, wLcT, wLcS, wLcR1, wVar, wC, wOp, wUn, wFrz, aI0, aI, aU, aEq, aIxL, aIxT, aIx, wNotV, wAndV, wOrV, wChain, wB, wNot, wAnd, wOr, wYes, wIf, aIsN, aTyIs, wNil, wCons, wStar, wTup, wLst, newL_t, newL_f, newT, wTyIn, wIsiT, wCall0, wCall, wCB, bLen, bMax2, bMin2, bAbs, bInt, bTyp, wAppend, wNoPart, wPart, wSlL, wSlT, bStr, aCatT, wRevL, wgName, wgNil, wgCons, wgTup, wgSub, wgTL, wNext, wSeq, wDrop, wRet, wRetN, wIfS, wAsg, wNever, wPar, wRaise, wAug, wBreak, wCont, wTry, wTry0, entry, DEnds.turn, lcItem, wipeA, wNevE, updM_same, OB.lst.injEq, updM_updM, isI_int, isB_bool, isS_str, isI_str, isI_bool, isS_int, isS_bool, isB_int, isB_str, isL_list, isL_tuple, isL_ref, isT_tuple, isT_list, isT_ref, isD_dat, isD_ref, isNo_none, isNo_int, isNo_str, isNo_bool, isNo_list, isNo_tuple, isNo_ref, dats_nil, dats_cons, fr_dat, Option.map_some, fd1, fd2, fd3, fd4, fd5, tyO_dat, tyO_ref, tyD_none, tyD_bool, tyD_int, tyD_str, tyD_list, tyD_tuple, tyD_dict,
  List.all_cons, List.all_nil, List.map_cons, List.map_nil, Bool.and_true, Bool.true_and, xor_f, xor_t, Int.reduceToNat,
  List.getElem?_cons_zero, List.getElem?_cons_succ, List.set_cons_zero, List.set_cons_succ, List.append_nil, List.nil_append, List.cons_append, List.length_cons, List.length_nil, List.cons.injEq, Option.some.injEq, AV.dat.injEq, AV.ref.injEq, AV.ty.injEq, PyData.int.injEq, PyData.str.injEq, PyData.bool.injEq,
  and_true, true_and, and_assoc, exists_eq_left', exists_eq_left, exists_and_left, exists_eq', exists_eq, exists_eq_right, exists_eq_right', decide_eq_true_eq, Bool.not_eq_true', Bool.false_eq_true, if_true, if_false, reduceCtorEq, false_and, and_false, or_false, false_or, exists_false, decide_true, decide_false, Nat.zero_add, ite_true, ite_false, decide_eq_false_iff_not]
      have fin : (if l.length - 1 - j < j then l.length - 1 - j else j) ≤ m → dropQ P (bAV true) μ' := fun z => by
        rw [beg_t hj met hne z] at q
        exact dropQ.here q
      by_cases h1 : (j : Int) - (1 + (m : Int)) < 0
      · exact (if_pos h1).mpr (fin (by split <;> omega))
      refine (if_neg h1).mpr ?_
      by_cases h2 : (l.length : Int) + 1 - 2 < (j : Int) + (1 + (m : Int))
      · exact (if_pos h2).mpr (fin (by split <;> omega))
      refine (if_neg h2).mpr ?_
      obtain ⟨c, d, hc2, hd2, hp⟩ := pairs_at (l := l) (i := j) (t := m) (by omega) (by omega)
      refine ⟨l, rfl, by omega, d, by rw [show (j : Int) - (1 + (m : Int)) = ((j - 1 - m : Nat) : Int) by omega]; exact atI_nat hd2, l, rfl, by omega, c, by rw [show (j : Int) + (1 + (m : Int)) = ((j + 1 + m : Nat) : Int) by omega]; exact atI_nat hc2, [d], rfl, [c], rfl, by show 1 + 1 ≤ 100000; decide, by decide, ?_⟩
      refine ⟨_, _, _, isD_dat.mpr rfl, .inl rfl, dats_map _, rfl, rfl, _, rfl, ?_⟩
      rw [in_three, tx_hd, tx_d3, tx_fl2]
      show (if (true ^^ (decide (tx [d, c] = _) || (decide (tx [d, c] = _) || decide (tx [d, c] = _)))) = true then _ else _)
      by_cases hq : meetB (c, d) = true
      · have e : (true ^^ (decide (tx [d, c] = tx [104, 100]) || (decide (tx [d, c] = tx [100, 104]) || decide (tx [d, c] = tx [45, 45])))) = false := by
          rcases meet_in.mpr hq with ⟨rfl, rfl⟩ | ⟨rfl, rfl⟩ | ⟨rfl, rfl⟩
          · rw [decide_eq_true rfl]; rfl
          · rw [decide_eq_true (show tx [100, 104] = tx [100, 104] from rfl), Bool.true_or, Bool.or_true]; rfl
          · rw [decide_eq_true (show tx [45, 45] = tx [45, 45] from rfl), Bool.or_true, Bool.or_true]; rfl
        refine (if_neg (by rw [e]; exact Bool.false_ne_true)).mpr ⟨rfl, fun t ht => ?_⟩
        by_cases htm : t < m
        · exact met t htm
        · obtain rfl : t = m := by omega
          exact ⟨(c, d), hp, hq⟩
      · have e : (true ^^ (decide (tx [d, c] = tx [104, 100]) || (decide (tx [d, c] = tx [100, 104]) || decide (tx [d, c] = tx [45, 45])))) = true := by
          rw [decide_eq_false (fun z => hq (meet_in.mp (.inl (tx2.mp z)))), decide_eq_false (fun z => hq (meet_in.mp (.inr (.inl (tx2.mp z))))), decide_eq_false (fun z => hq (meet_in.mp (.inr (.inr (tx2.mp z)))))]; rfl
        refine (if_pos e).mpr ?_
        rw [beg_f met (by omega) (by omega) hp hq] at q
        exact dropQ.here q
    · rintro l' μ' ⟨y, rfl, rfl, met⟩
      simp (maxSteps := 2000000) only [wLcRO, wLcRi, wLcR2, wDcEn, dcItem, wFrzD, wDGetF, wLcK, aInC, aGetC, wForZipS, wWhile, wGlue, wIndexS, wCountS, wSlS, wRevS, aIxS, aRepS, aAddS, bLenS, wStepL, wReverse, wLcSO, wForO, wLcRf, wCallT, wExtend, bSorted, wSl21, wRevT, wDisp, wPairs, wDGetK, insD_inj, OB.ins.injEq, wFldB, wFldR, wSetF, wMake, wMeth0, wFrzI, wFrzB, wLstB, wTupB, wForB, wForRevB, wListZipB, wForEnT, uTurns, wToF, wForR3, wLeast, wTIdx, isL_ob, isT_ob, avB_int, avB_bool, avB_str, avB_none, avB_list, avB_tuple, avB_ins, AV.ob.injEq, PyData.list.injEq, PyData.tuple.injEq, fd6, aEqI, aEqS, aEqB, wJoin, wJoinT, wJoinS, wUnlike, wIfC, bMaxL, bMinL, wToI, wLCount, wLIndex, wForZip, wLcZip, wListZip, wCallL, wFrzV, wDNew, wDPut, wDGet2, wSortIt, wForEnum, wLcEnum, wForRev, wLcRev, wForStr, wLcStr, wTryAs, endAs, wIsXT, bIsX, clsA_ref, clsA_ty, wForL, wForT, wForS, wForR1, wForR2, wLcL, wLcT, wLcS, wLcR1, wVar, wC, wOp, wUn, wFrz, aI0, aI, aU, aEq, aIxL, aIxT, aIx, wNotV, wAndV, wOrV, wChain, wB, wNot, wAnd, wOr, wYes, wIf, aIsN, aTyIs, wNil, wCons, wStar, wTup, wLst, newL_t, newL_f, newT, wTyIn, wIsiT, wCall0, wCall, wCB, bLen, bMax2, bMin2, bAbs, bInt, bTyp, wAppend, wNoPart, wPart, wSlL, wSlT, bStr, aCatT, wRevL, wgName, wgNil, wgCons, wgTup, wgSub, wgTL, wNext, wSeq, wDrop, wRet, wRetN, wIfS, wAsg, wNever, wPar, wRaise, wAug, wBreak, wCont, wTry, wTry0, entry, DEnds.turn, lcItem, wipeA, wNevE, updM_same, OB.lst.injEq, updM_updM, isI_int, isB_bool, isS_str, isI_str, isI_bool, isS_int, isS_bool, isB_int, isB_str, isL_list, isL_tuple, isL_ref, isT_tuple, isT_list, isT_ref, isD_dat, isD_ref, isNo_none, isNo_int, isNo_str, isNo_bool, isNo_list, isNo_tuple, isNo_ref, dats_nil, dats_cons, fr_dat, Option.map_some, fd1, fd2, fd3, fd4, fd5, tyO_dat, tyO_ref, tyD_none, tyD_bool, tyD_int, tyD_str, tyD_list, tyD_tuple, tyD_dict,
  List.all_cons, List.all_nil, List.map_cons, List.map_nil, Bool.and_true, Bool.true_and, xor_f, xor_t, Int.reduceToNat,
  List.getElem?_cons_zero, List.getElem?_cons_succ, List.set_cons_zero, List.set_cons_succ, List.append_nil, List.nil_append, List.cons_append, List.length_cons, List.length_nil, List.cons.injEq, Option.some.injEq, AV.dat.injEq, AV.ref.injEq, AV.ty.injEq, PyData.int.injEq, PyData.str.injEq, PyData.bool.injEq,
  and_true, true_and, and_assoc, exists_eq_left', exists_eq_left, exists_and_left, exists_eq', exists_eq, exists_eq_right, exists_eq_right', decide_eq_true_eq, Bool.not_eq_true', Bool.false_eq_true, if_true, if_false, reduceCtorEq, false_and, and_false, or_false, false_or, exists_false, decide_true, decide_false, Nat.zero_add, ite_true, ite_false, decide_eq_false_iff_not]
      rw [beg_t hj met hne (by split <;> omega)] at q
      exact dropQ.here q
theorem gd__law_folds (D : DefAt K mg "_law_folds" D__law_folds.st D__law_folds.ps) (T : Bi mg)
    (h__law_begins : Good P w K mg base 1 "_law_begins" D__law_begins.ps (spD K R (fd4 fd__law_begins))) :
    Good P w K mg base 2 "_law_folds" D__law_folds.ps (spD K R (fd3 fd__law_folds)) := by
  refine GoodD.of (N := D__law_folds.N) (f := (fd3 fd__law_folds)) D D__law_folds.sc (fun avs μ P X h => by obtain ⟨_, _, _, rfl, _⟩ := h; rfl) (fun fa cdv A outer s H E hr => ?_)
  obtain ⟨f__law_begins, fx__law_begins, m__law_begins, k__law_begins, b__law_begins, G__law_begins⟩ := h__law_begins
  have nd := D__law_folds.sc.nd
  have hu := hu_of hr
  refine ⟨_, (pss_one (ps_ret (pe_lc (own := [("at", 3)]) (g := (gName 3)) (tt := (tB (tCall (spD K R (fd4 fd__law_begins)) [] E0 (tCons (tVar 0) (tCons (tVar 1) (tCons (tVar 2) (tCons (tVar 3) tNil))))))) (te := (tVar 3)) (by rfl) nd (pi_range2 (by rfl) T.n_range (pa_cons (pv 1) (pa_cons (pe_op op_sub (pv 2) pe_int) pa_nil))) (blkOk_by (own := [("at", 3)]) (N := D__law_folds.N) (sc := defScope D__law_folds.st) (by decide +kernel)) (fun _ _ _ _ _ => (pg_name (i := 3) nd rfl (Or.inl rfl))) (fun _ _ _ _ _ => (pts_one (pt_val (pe_call G__law_begins (hr.mono (by decide)) (by rfl) m__law_begins k__law_begins b__law_begins .nil pass0 (pa_cons (pv 0) (pa_cons (pv 1) (pa_cons (pv 2) (pa_cons (pv 3) pa_nil)))))))) (fun _ _ _ _ _ => (pv 3))))), _, (ds_ret (d_lcR2 (m := false) (d_cons d_var (d_cons (d_op od_I0i d_var d_int) d_nil)) dg_name (d_tB (d_call0 (d_cons d_var (d_cons d_var (d_cons d_var (d_cons d_var d_nil)))))) d_var (ownT_name (by decide)))), fun avs μ P X h => ?_⟩
  obtain ⟨a_signs, a_first, a_behind, rfl, h⟩ := h
  rw [show startA D__law_folds.N.length [a_signs, a_first, a_behind] = [some a_signs, some a_first, some a_behind, none] from rfl]
  obtain ⟨k, l, rfl, rfl, rfl, pat, q⟩ := h
  simp (maxSteps := 2000000) only [wLcRO, wLcRi, wLcR2, wDcEn, dcItem, wFrzD, wDGetF, wLcK, aInC, aGetC, wForZipS, wWhile, wGlue, wIndexS, wCountS, wSlS, wRevS, aIxS, aRepS, aAddS, bLenS, wStepL, wReverse, wLcSO, wForO, wLcRf, wCallT, wExtend, bSorted, wSl21, wRevT, wDisp, wPairs, wDGetK, insD_inj, OB.ins.injEq, wFldB, wFldR, wSetF, wMake, wMeth0, wFrzI, wFrzB, wLstB, wTupB, wForB, wForRevB, wListZipB, wForEnT, uTurns, wToF, wForR3, wLeast, wTIdx, isL_ob, isT_ob, avB_int, avB_bool, avB_str, avB_none, avB_list, avB_tuple, avB_ins, AV.ob.injEq, PyData.list.injEq, PyData.tuple.injEq, fd6, aEqI, aEqS, aEqB, wJoin, wJoinT, wJoinS, wUnlike, wIfC, bMaxL, bMinL, wToI, wLCount, wLIndex, wForZip, wLcZip, wListZip, wCallL, wFrzV, wDNew, wDPut, wDGet2, wSortIt, wForEnum, wLcEnum, wForRev, wLcRev, wForStr, wLcStr, wTryAs, endAs, wIsXT, bIsX, clsA_ref, clsA_ty, wForL, wForT, wForS, wForR1, wForR2, wLcL, wLcT, wLcS, wLcR1, wVar, wC, wOp, wUn, wFrz, aI0, aI, aU, aEq, aIxL, aIxT, aIx, wNotV, wAndV, wOrV, wChain, wB, wNot, wAnd, wOr, wYes, wIf, aIsN, aTyIs, wNil, wCons, wStar, wTup, wLst, newL_t, newL_f, newT, wTyIn, wIsiT, wCall0, wCall, wCB, bLen, bMax2, bMin2, bAbs, bInt, bTyp, wAppend, wNoPart, wPart, wSlL, wSlT, bStr, aCatT, wRevL, wgName, wgNil, wgCons, wgTup, wgSub, wgTL, wNext, wSeq, wDrop, wRet, wRetN, wIfS, wAsg, wNever, wPar, wRaise, wAug, wBreak, wCont, wTry, wTry0, entry, DEnds.turn, lcItem, wipeA, wNevE, updM_same, OB.lst.injEq, updM_updM, isI_int, isB_bool, isS_str, isI_str, isI_bool, isS_int, isS_bool, isB_int, isB_str, isL_list, isL_tuple, isL_ref, isT_tuple, isT_list, isT_ref, isD_dat, isD_ref, isNo_none, isNo_int, isNo_str, isNo_bool, isNo_list, isNo_tuple, isNo_ref, dats_nil, dats_cons, fr_dat, Option.map_some, fd1, fd2, fd3, fd4, fd5, tyO_dat, tyO_ref, tyD_none, tyD_bool, tyD_int, tyD_str, tyD_list, tyD_tuple, tyD_dict,
  List.all_cons, List.all_nil, List.map_cons, List.map_nil, Bool.and_true, Bool.true_and, xor_f, xor_t, Int.reduceToNat,
  List.getElem?_cons_zero, List.getElem?_cons_succ, List.set_cons_zero, List.set_cons_succ, List.append_nil, List.nil_append, List.cons_append, List.length_cons, List.length_nil, List.cons.injEq, Option.some.injEq, AV.dat.injEq, AV.ref.injEq, AV.ty.injEq, PyData.int.injEq, PyData.str.injEq, PyData.bool.injEq,
  and_true, true_and, and_assoc, exists_eq_left', exists_eq_left, exists_and_left, exists_eq', exists_eq, exists_eq_right, exists_eq_right', decide_eq_true_eq, Bool.not_eq_true', Bool.false_eq_true, if_true, if_false, reduceCtorEq, false_and, and_false, or_false, false_or, exists_false, decide_true, decide_false, Nat.zero_add, ite_true, ite_false, decide_eq_false_iff_not, fd__law_begins]
  have hl := pat.len
  have e0 : ((l.length : Int) + 1 - 1 - 0).toNat = l.length := by omega
  rw [e0]
  refine ⟨by decide, by decide, by omega, by omega, lcAll_fm (k := true) (List.range l.length) (fun i => if begB l i = true then some (.int (i : Int)) else none) (by rw [List.length_map]) (by rw [List.length_range]; omega) (fun i x p hx hp => ?_) (newL_tt ?_)⟩
  · rw [List.getElem?_map, hp] at hx
    obtain rfl := Option.some.inj hx
    have hpl : p < l.length := List.mem_range.mp (List.mem_of_getElem? hp)
    simp (maxSteps := 2000000) only [wLcRO, wLcRi, wLcR2, wDcEn, dcItem, wFrzD, wDGetF, wLcK, aInC, aGetC, wForZipS, wWhile, wGlue, wIndexS, wCountS, wSlS, wRevS, aIxS, aRepS, aAddS, bLenS, wStepL, wReverse, wLcSO, wForO, wLcRf, wCallT, wExtend, bSorted, wSl21, wRevT, wDisp, wPairs, wDGetK, insD_inj, OB.ins.injEq, wFldB, wFldR, wSetF, wMake, wMeth0, wFrzI, wFrzB, wLstB, wTupB, wForB, wForRevB, wListZipB, wForEnT, uTurns, wToF, wForR3, wLeast, wTIdx, isL_ob, isT_ob, avB_int, avB_bool, avB_str, avB_none, avB_list, avB_tuple, avB_ins, AV.ob.injEq, PyData.list.injEq, PyData.tuple.injEq, fd6, aEqI, aEqS, aEqB, wJoin, wJoinT, wJoinS, wUnlike, wIfC, bMaxL, bMinL, wToI, wLCount, wLIndex, wForZip, wLcZip, wListZip, wCallL, wFrzV, wDNew, wDPut, wDGet2, wSortIt, wForEnum, wLcEnum, wForRev, wLcRev, wForStr, wLcStr, wTryAs, endAs, wIsXT, bIsX, clsA_ref, clsA_ty, wForL, wForT, wForS, wForR1, wForR2, wLcL, wLcT, wLcS, wLcR1, wVar, wC, wOp, wUn, wFrz, aI0, aI, aU, aEq, aIxL, aIxT, aIx, wNotV, wAndV, wOrV, wChain, wB, wNot, wAnd, wOr, wYes, wIf, aIsN, aTyIs, wNil, wCons, wStar, wTup, wLst, newL_t, newL_f, newT, wTyIn, wIsiT, wCall0, wCall, wCB, bLen, bMax2, bMin2, bAbs, bInt, bTyp, wAppend, wNoPart, wPart, wSlL, wSlT, bStr, aCatT, wRevL, wgName, wgNil, wgCons, wgTup, wgSub, wgTL, wNext, wSeq, wDrop, wRet, wRetN, wIfS, wAsg, wNever, wPar, wRaise, wAug, wBreak, wCont, wTry, wTry0, entry, DEnds.turn, lcItem, wipeA, wNevE, updM_same, OB.lst.injEq, updM_updM, isI_int, isB_bool, isS_str, isI_str, isI_bool, isS_int, isS_bool, isB_int, isB_str, isL_list, isL_tuple, isL_ref, isT_tuple, isT_list, isT_ref, isD_dat, isD_ref, isNo_none, isNo_int, isNo_str, isNo_bool, isNo_list, isNo_tuple, isNo_ref, dats_nil, dats_cons, fr_dat, Option.map_some, fd1, fd2, fd3, fd4, fd5, tyO_dat, tyO_ref, tyD_none, tyD_bool, tyD_int, tyD_str, tyD_list, tyD_tuple, tyD_dict,
  List.all_cons, List.all_nil, List.map_cons, List.map_nil, Bool.and_true, Bool.true_and, xor_f, xor_t, Int.reduceToNat,
  List.getElem?_cons_zero, List.getElem?_cons_succ, List.set_cons_zero, List.set_cons_succ, List.append_nil, List.nil_append, List.cons_append, List.length_cons, List.length_nil, List.cons.injEq, Option.some.injEq, AV.dat.injEq, AV.ref.injEq, AV.ty.injEq, PyData.int.injEq, PyData.str.injEq, PyData.bool.injEq,
  and_true, true_and, and_assoc, exists_eq_left', exists_eq_left, exists_and_left, exists_eq', exists_eq, exists_eq_right, exists_eq_right', decide_eq_true_eq, Bool.not_eq_true', Bool.false_eq_true, if_true, if_false, reduceCtorEq, false_and, and_false, or_false, false_or, exists_false, decide_true, decide_false, Nat.zero_add, ite_true, ite_false, decide_eq_false_iff_not, fd__law_begins]
    rw [Int.zero_add]
    refine ⟨l, rfl, rfl, p, rfl, pat, hpl, ?_⟩
    by_cases h : begB l p = true
    · rw [if_pos h, if_pos h]; rfl
    · rw [if_neg h, if_neg h]; rfl
  · rw [fm_nat]
    exact dropQ.here q
theorem gd_law (D : DefAt K mg "law" D_law.st D_law.ps) (T : Bi mg) {C_NoPattern : Addr} {C_TooMany : Addr}
    (h__law_bag : Good P w K mg base 1 "_law_bag" D__law_bag.ps (spD K R (fd1 fd__law_bag)))
    (h__law_signs_drawn : Good P w K mg base 3 "_law_signs_drawn" D__law_signs_drawn.ps (spD K R (fd2 fd__law_signs_drawn)))
    (h__law_folds : Good P w K mg base 2 "_law_folds" D__law_folds.ps (spD K R (fd3 fd__law_folds)))
    (h_beginnings : GoodX P w K mg base 3 "beginnings" D_beginnings.ps (spD K R (fd1 (fd_beginnings C_NoPattern C_TooMany))))
    (h__law_draw : Good P w K mg base 2 "_law_draw" D__law_draw.ps (spD K R (fd2 fd__law_draw)))
    {A : Around} (hA : A.guards = some []) {outer : List Env} {s : Shared} {H : Hp} {a : Addr} {ns : List Int} {fa : Addr} (hfa : mg "law" = some (.ref fa)) (room : Room 4 A) (en : Env0 P w K mg base A outer s H)
    (hS : SqL K H a (ns.map V.int)) (hn : ns.length ≤ 63) :
    codeAny (model P w) A (.call (.ref fa) ⟨[.ref a], []⟩) (CR CX0 outer P w H s (fun v _ => v = .bl true) E0) s := by
  refine run_defD (R := R) (N := D_law.N) D D_law.sc hfa room en hS hn fun fl cdv hr => ?_
  obtain ⟨f__law_bag, fx__law_bag, m__law_bag, k__law_bag, b__law_bag, G__law_bag⟩ := h__law_bag
  obtain ⟨f__law_signs_drawn, fx__law_signs_drawn, m__law_signs_drawn, k__law_signs_drawn, b__law_signs_drawn, G__law_signs_drawn⟩ := h__law_signs_drawn
  obtain ⟨f__law_folds, fx__law_folds, m__law_folds, k__law_folds, b__law_folds, G__law_folds⟩ := h__law_folds
  obtain ⟨f0_beginnings, fx0_beginnings, m0_beginnings, k0_beginnings, b0_beginnings, G0_beginnings⟩ := h_beginnings.calm
  obtain ⟨f_beginnings, fx_beginnings, m_beginnings, k_beginnings, b_beginnings, G_beginnings⟩ := h_beginnings
  obtain ⟨f__law_draw, fx__law_draw, m__law_draw, k__law_draw, b__law_draw, G__law_draw⟩ := h__law_draw
  have nd := D_law.sc.nd
  have hu := hu_of hr
  have hgd : (A.deeper (envOfC "law" (defScope D_law.st) s.heap.objs.size fl cdv)).guards = some [] := hA
  have hu66 : (A.deeper (envOfC "law" (defScope D_law.st) s.heap.objs.size fl cdv)).units + 66 < cLine := by have := hr.un; omega
  refine ⟨_, (pss_cons (ps_set (i := 1) nd rfl (Or.inl rfl) (pe_call G__law_bag (hr.mono (by decide)) (by rfl) m__law_bag k__law_bag b__law_bag .nil pass0 (pa_cons (pv 0) pa_nil))) (pss_cons (ps_for PassesOwn.never (by rfl) (pi_range1 (by rfl) T.n_range (pa_cons (pe_op op_add pe_int (pe_callB (call_min2 rfl) (by rfl) T.n_min (by decide +kernel) (pa_cons pe_int (pa_cons (pe_callB call_len_seq (by rfl) T.n_len (by decide +kernel) (pa_cons (pv 0) pa_nil)) pa_nil)))) pa_nil)) (pg_name (i := 2) nd rfl (Or.inl rfl)) (pss_cons (ps_set (i := 3) nd rfl (Or.inl rfl) (pe_call G__law_signs_drawn (hr.mono (by decide)) (by rfl) m__law_signs_drawn k__law_signs_drawn b__law_signs_drawn .nil pass0 (pa_cons (pv 1) (pa_cons (pe_ix ix_list (pe_lst (pa_cons pe_int (pa_cons pe_int (pa_cons pe_int pa_nil)))) (pe_call G__law_draw (hr.mono (by decide)) (by rfl) m__law_draw k__law_draw b__law_draw .nil pass0 (pa_cons (pv 1) (pa_cons pe_int pa_nil))) (fun _ _ => rfl)) pa_nil)))) (pss_cons (ps_set (i := 4) nd rfl (Or.inl rfl) (pe_call G__law_folds (hr.mono (by decide)) (by rfl) m__law_folds k__law_folds b__law_folds .nil pass0 (pa_cons (pv 3) (pa_cons pe_int (pa_cons (pe_op op_add (pe_callB call_len_str (by rfl) T.n_len (by decide +kernel) (pa_cons (pv 3) pa_nil)) pe_int) pa_nil))))) (pss_one (ps_for PassesOwn.never (by rfl) (pi_range1 (by rfl) T.n_range (pa_cons pe_int pa_nil)) (pg_name (i := 5) nd rfl (Or.inl rfl)) (pss_cons (ps_set (i := 6) nd rfl (Or.inl rfl) (pe_call G0_beginnings (hr.mono (by decide)) (by rfl) m0_beginnings k0_beginnings b0_beginnings .nil pass0 (pa_cons (pv 3) pa_nil))) (pss_cons (ps_if (PW.pt (pw_or (pt_cmpR (op_neD (by have := hr.units0; first | exact hr.units | omega)) (pv 6) (pv 4) (nomark _)) (pw_or1 (pt_cmpR (op_neD (by have := hr.units0; first | exact hr.units | omega)) (pe_lc (own := [("number", 7)]) (g := (gName 7)) (by rfl) nd (pi_list (pv 6)) (blkOk_by (own := [("number", 7)]) (N := D_law.N) (sc := defScope D_law.st) (by decide +kernel)) (fun _ _ _ _ _ => (pg_name (i := 7) nd rfl (Or.inl rfl))) (fun _ _ _ _ _ => (pts_one (pt_val (pe_callB call_isi (by rfl) T.n_isinstance (by decide +kernel) (pa_cons (pv 7) (pa_cons (pe_bltn (v := .ty "bool") (u := .type "bool") (by rfl) T.n_bool (by decide +kernel) (by rfl)) pa_nil)))))) (fun _ _ _ _ _ => (pv 7))) (pe_lst pa_nil) (nomark _))))) (pss_one (ps_ret pe_bl)) pss_nil) (pss_one (ps_expr (pe_bm PySem.F.plainAttrs_list PySem.F.slot_list_append PySem.F.type_list_append mt_append (pv 6) (pa_cons pe_int pa_nil))))))))))) (pss_one (ps_ret pe_bl)))), _, (ds_seq (ds_asg (d_call0 (d_cons d_var d_nil)) dg_name) (ds_seq (ds_forR1 (d_cons (d_op od_I0i d_int (d_cb cd_min2 (d_cons d_int (d_cons (d_cb cd_len (d_cons d_var d_nil)) d_nil)))) d_nil) dg_name (ds_seq (ds_asg (d_call0 (d_cons d_var (d_cons (d_op od_ixL (d_lst (m := false) (d_cons d_int (d_cons d_int (d_cons d_int d_nil)))) (d_call0 (d_cons d_var (d_cons d_int d_nil)))) d_nil))) dg_name) (ds_seq (ds_asg (d_call0 (d_cons d_var (d_cons d_int (d_cons (d_op od_I0i (d_cb cd_lenS (d_cons d_var d_nil)) d_int) d_nil)))) dg_name) (ds_forR1 (d_cons d_int d_nil) dg_name (ds_seq (ds_asg (d_call0c (d_cons d_var d_nil)) dg_name) (ds_seq (ds_if (d_or (d_tTest (d_op od_neD d_var d_var)) (d_tTest (d_op od_neD (d_lcRi (m := false) d_var dg_name (d_tB (d_cb cd_isi (d_cons d_var (d_cons d_ty d_nil)))) d_var (ownT_name (by decide))) (d_lst (m := false) d_nil)))) (ds_ret d_bl) ds_next) (ds_drop (d_append d_var (d_cons d_int d_nil))))))))) (ds_ret d_bl))), fun avs μ P X h => ?_⟩
  obtain ⟨a_script, rfl, h⟩ := h
  rw [show startA D_law.N.length [a_script] = [some a_script, none, none, none, none, none, none, none] from rfl]
  simp (maxSteps := 2000000) only [wLcRO, wLcRi, wLcR2, wDcEn, dcItem, wFrzD, wDGetF, wLcK, aInC, aGetC, wForZipS, wWhile, wGlue, wIndexS, wCountS, wSlS, wRevS, aIxS, aRepS, aAddS, bLenS, wStepL, wReverse, wLcSO, wForO, wLcRf, wCallT, wExtend, bSorted, wSl21, wRevT, wDisp, wPairs, wDGetK, insD_inj, OB.ins.injEq, wFldB, wFldR, wSetF, wMake, wMeth0, wFrzI, wFrzB, wLstB, wTupB, wForB, wForRevB, wListZipB, wForEnT, uTurns, wToF, wForR3, wLeast, wTIdx, isL_ob, isT_ob, avB_int, avB_bool, avB_str, avB_none, avB_list, avB_tuple, avB_ins, AV.ob.injEq, PyData.list.injEq, PyData.tuple.injEq, fd6, aEqI, aEqS, aEqB, wJoin, wJoinT, wJoinS, wUnlike, wIfC, bMaxL, bMinL, wToI, wLCount, wLIndex, wForZip, wLcZip, wListZip, wCallL, wFrzV, wDNew, wDPut, wDGet2, wSortIt, wForEnum, wLcEnum, wForRev, wLcRev, wForStr, wLcStr, wTryAs, endAs, wIsXT, bIsX, clsA_ref, clsA_ty, wForL, wForT, wForS, wForR1, wForR2, wLcL, wLcT, wLcS, wLcR1, wVar, wC, wOp, wUn, wFrz, aI0, aI, aU, aEq, aIxL, aIxT, aIx, wNotV, wAndV, wOrV, wChain, wB, wNot, wAnd, wOr, wYes, wIf, aIsN, aTyIs, wNil, wCons, wStar, wTup, wLst, newL_t, newL_f, newT, wTyIn, wIsiT, wCall0, wCall, wCB, bLen, bMax2, bMin2, bAbs, bInt, bTyp, wAppend, wNoPart, wPart, wSlL, wSlT, bStr, aCatT, wRevL, wgName, wgNil, wgCons, wgTup, wgSub, wgTL, wNext, wSeq, wDrop, wRet, wRetN, wIfS, wAsg, wNever, wPar, wRaise, wAug, wBreak, wCont, wTry, wTry0, entry, DEnds.turn, lcItem, wipeA, wNevE, updM_same, OB.lst.injEq, updM_updM, isI_int, isB_bool, isS_str, isI_str, isI_bool, isS_int, isS_bool, isB_int, isB_str, isL_list, isL_tuple, isL_ref, isT_tuple, isT_list, isT_ref, isD_dat, isD_ref, isNo_none, isNo_int, isNo_str, isNo_bool, isNo_list, isNo_tuple, isNo_ref, dats_nil, dats_cons, fr_dat, Option.map_some, fd1, fd2, fd3, fd4, fd5, tyO_dat, tyO_ref, tyD_none, tyD_bool, tyD_int, tyD_str, tyD_list, tyD_tuple, tyD_dict,
  List.all_cons, List.all_nil, List.map_cons, List.map_nil, Bool.and_true, Bool.true_and, xor_f, xor_t, Int.reduceToNat,
  List.getElem?_cons_zero, List.getElem?_cons_succ, List.set_cons_zero, List.set_cons_succ, List.append_nil, List.nil_append, List.cons_append, List.length_cons, List.length_nil, List.cons.injEq, Option.some.injEq, AV.dat.injEq, AV.ref.injEq, AV.ty.injEq, PyData.int.injEq, PyData.str.injEq, PyData.bool.injEq,
  and_true, true_and, and_assoc, exists_eq_left', exists_eq_left, exists_and_left, exists_eq', exists_eq, exists_eq_right, exists_eq_right', decide_eq_true_eq, Bool.not_eq_true', Bool.false_eq_true, if_true, if_false, reduceCtorEq, false_and, and_false, or_false, false_or, exists_false, decide_true, decide_false, Nat.zero_add, ite_true, ite_false, decide_eq_false_iff_not, fd__law_bag, fd__law_signs_drawn, fd__law_folds, fd_beginnings, fd__law_draw]
  obtain ⟨ns, rfl, hn, q⟩ := h
  refine ⟨false, ns, rfl, hn, fun r o hr hB => ⟨_, .inl rfl, by split <;> omega, by split <;> omega, ?_⟩⟩
  refine ⟨fun i l' μ' => ∃ (x2 x3 x4 x5 x6 x7 : Option AV) (o' : OB), l' = [some (.dat false (.list (ns.map PyData.int))), some (.ref r), x2, x3, x4, x5, x6, x7] ∧ μ' r = some o' ∧ Bg o' (2001 * i), ⟨none, none, none, none, none, none, o, rfl, updM_same, hB.mono (by omega)⟩, ?_, ?_⟩
  · rintro i l' μ' hi ⟨x2, x3, x4, x5, x6, x7, o', rfl, hr', hB'⟩
    rw [List.length_map, List.length_map] at hi
    have hi16 : i < 16 := by split at hi <;> omega
    simp (maxSteps := 2000000) only [wLcRO, wLcRi, wLcR2, wDcEn, dcItem, wFrzD, wDGetF, wLcK, aInC, aGetC, wForZipS, wWhile, wGlue, wIndexS, wCountS, wSlS, wRevS, aIxS, aRepS, aAddS, bLenS, wStepL, wReverse, wLcSO, wForO, wLcRf, wCallT, wExtend, bSorted, wSl21, wRevT, wDisp, wPairs, wDGetK, insD_inj, OB.ins.injEq, wFldB, wFldR, wSetF, wMake, wMeth0, wFrzI, wFrzB, wLstB, wTupB, wForB, wForRevB, wListZipB, wForEnT, uTurns, wToF, wForR3, wLeast, wTIdx, isL_ob, isT_ob, avB_int, avB_bool, avB_str, avB_none, avB_list, avB_tuple, avB_ins, AV.ob.injEq, PyData.list.injEq, PyData.tuple.injEq, fd6, aEqI, aEqS, aEqB, wJoin, wJoinT, wJoinS, wUnlike, wIfC, bMaxL, bMinL, wToI, wLCount, wLIndex, wForZip, wLcZip, wListZip, wCallL, wFrzV, wDNew, wDPut, wDGet2, wSortIt, wForEnum, wLcEnum, wForRev, wLcRev, wForStr, wLcStr, wTryAs, endAs, wIsXT, bIsX, clsA_ref, clsA_ty, wForL, wForT, wForS, wForR1, wForR2, wLcL, wLcT, wLcS, wLcR1, wVar, wC, wOp, wUn, wFrz, aI0, aI, aU, aEq, aIxL, aIxT, aIx, wNotV, wAndV, wOrV, wChain, wB, wNot, wAnd, wOr, wYes, wIf, aIsN, aTyIs, wNil, wCons, wStar, wTup, wLst, newL_t, newL_f, newT, wTyIn, wIsiT, wCall0, wCall, wCB, bLen, bMax2, bMin2, bAbs, bInt, bTyp, wAppend, wNoPart, wPart, wSlL, wSlT, bStr, aCatT, wRevL, wgName, wgNil, wgCons, wgTup, wgSub, wgTL, wNext, wSeq, wDrop, wRet, wRetN, wIfS, wAsg, wNever, wPar, wRaise, wAug, wBreak, wCont, wTry, wTry0, entry, DEnds.turn, lcItem, wipeA, wNevE, updM_same, OB.lst.injEq, updM_updM, isI_int, isB_bool, isS_str, isI_str, isI_bool, isS_int, isS_bool, isB_int, isB_str, isL_list, isL_tuple, isL_ref, isT_tuple, isT_list, isT_ref, isD_dat, isD_ref, isNo_none, isNo_int, isNo_str, isNo_bool, isNo_list, isNo_tuple, isNo_ref, dats_nil, dats_cons, fr_dat, Option.map_some, fd1, fd2, fd3, fd4, fd5, tyO_dat, tyO_ref, tyD_none, tyD_bool, tyD_int, tyD_str, tyD_list, tyD_tuple, tyD_dict,
  List.all_cons, List.all_nil, List.map_cons, List.map_nil, Bool.and_true, Bool.true_and, xor_f, xor_t, Int.reduceToNat,
  List.getElem?_cons_zero, List.getElem?_cons_succ, List.set_cons_zero, List.set_cons_succ, List.append_nil, List.nil_append, List.cons_append, List.length_cons, List.length_nil, List.cons.injEq, Option.some.injEq, AV.dat.injEq, AV.ref.injEq, AV.ty.injEq, PyData.int.injEq, PyData.str.injEq, PyData.bool.injEq,
  and_true, true_and, and_assoc, exists_eq_left', exists_eq_left, exists_and_left, exists_eq', exists_eq, exists_eq_right, exists_eq_right', decide_eq_true_eq, Bool.not_eq_true', Bool.false_eq_true, if_true, if_false, reduceCtorEq, false_and, and_false, or_false, false_or, exists_false, decide_true, decide_false, Nat.zero_add, ite_true, ite_false, decide_eq_false_iff_not, fd__law_bag, fd__law_signs_drawn, fd__law_folds, fd_beginnings, fd__law_draw]
    refine ⟨by decide, o', hr', 2001 * (i : Int), hB', by omega, by decide, by decide, fun v o2 v0 v1 hB2 => ?_⟩
    obtain ⟨y, hy, y1, y2⟩ : ∃ y : Int, atI [AV.dat true (PyData.int 12), AV.dat true (PyData.int 60), AV.dat true (PyData.int 299)] v = some (iAV y) ∧ 1 ≤ y ∧ y ≤ 299 := by
      rcases (show v = 0 ∨ v = 1 ∨ v = 2 by omega) with rfl | rfl | rfl
      · exact ⟨12, rfl, by decide, by decide⟩
      · exact ⟨60, rfl, by decide, by decide⟩
      · exact ⟨299, rfl, by decide, by decide⟩
    refine ⟨_, hy, _, hB2, by omega, y, rfl, y1, y2, fun l o3 pat hb hB3 => ⟨l, rfl, by have := pat.len; omega, l, rfl, rfl, pat, by decide, by decide, ?_⟩⟩
    refine ⟨fun j l' μ2 => ∃ (y5 y6 y7 : Option AV), l' = [some (.dat false (.list (ns.map PyData.int))), some (.ref r), some (iAV (0 + (i : Int))), some (.dat true (.str (tx l))), some (.dat true (.list (((List.range l.length).filter (begB l)).map fun i : Nat => .int (i : Int)))), y5, y6, y7] ∧ μ2 r = some o3, ⟨_, _, _, rfl, updM_same⟩, ?_, ?_⟩
    · rintro j l' μ2 hj ⟨y5, y6, y7, rfl, hr2⟩
      simp (maxSteps := 2000000) only [wLcRO, wLcRi, wLcR2, wDcEn, dcItem, wFrzD, wDGetF, wLcK, aInC, aGetC, wForZipS, wWhile, wGlue, wIndexS, wCountS, wSlS, wRevS, aIxS, aRepS, aAddS, bLenS, wStepL, wReverse, wLcSO, wForO, wLcRf, wCallT, wExtend, bSorted, wSl21, wRevT, wDisp, wPairs, wDGetK, insD_inj, OB.ins.injEq, wFldB, wFldR, wSetF, wMake, wMeth0, wFrzI, wFrzB, wLstB, wTupB, wForB, wForRevB, wListZipB, wForEnT, uTurns, wToF, wForR3, wLeast, wTIdx, isL_ob, isT_ob, avB_int, avB_bool, avB_str, avB_none, avB_list, avB_tuple, avB_ins, AV.ob.injEq, PyData.list.injEq, PyData.tuple.injEq, fd6, aEqI, aEqS, aEqB, wJoin, wJoinT, wJoinS, wUnlike, wIfC, bMaxL, bMinL, wToI, wLCount, wLIndex, wForZip, wLcZip, wListZip, wCallL, wFrzV, wDNew, wDPut, wDGet2, wSortIt, wForEnum, wLcEnum, wForRev, wLcRev, wForStr, wLcStr, wTryAs, endAs, wIsXT, bIsX, clsA_ref, clsA_ty, wForL, wForT, wForS, wForR1, wForR2, wLcL, wLcT, wLcS, wLcR1, wVar, wC, wOp, wUn, wFrz, aI0, aI, aU, aEq, aIxL, aIxT, aIx, wNotV, wAndV, wOrV, wChain, wB, wNot, wAnd, wOr, wYes, wIf, aIsN, aTyIs, wNil, wCons, wStar, wTup, wLst, newL_t, newL_f, newT, wTyIn, wIsiT, wCall0, wCall, wCB, bLen, bMax2, bMin2, bAbs, bInt, bTyp, wAppend, wNoPart, wPart, wSlL, wSlT, bStr, aCatT, wRevL, wgName, wgNil, wgCons, wgTup, wgSub, wgTL, wNext, wSeq, wDrop, wRet, wRetN, wIfS, wAsg, wNever, wPar, wRaise, wAug, wBreak, wCont, wTry, wTry0, entry, DEnds.turn, lcItem, wipeA, wNevE, updM_same, OB.lst.injEq, updM_updM, isI_int, isB_bool, isS_str, isI_str, isI_bool, isS_int, isS_bool, isB_int, isB_str, isL_list, isL_tuple, isL_ref, isT_tuple, isT_list, isT_ref, isD_dat, isD_ref, isNo_none, isNo_int, isNo_str, isNo_bool, isNo_list, isNo_tuple, isNo_ref, dats_nil, dats_cons, fr_dat, Option.map_some, fd1, fd2, fd3, fd4, fd5, tyO_dat, tyO_ref, tyD_none, tyD_bool, tyD_int, tyD_str, tyD_list, tyD_tuple, tyD_dict,
  List.all_cons, List.all_nil, List.map_cons, List.map_nil, Bool.and_true, Bool.true_and, xor_f, xor_t, Int.reduceToNat,
  List.getElem?_cons_zero, List.getElem?_cons_succ, List.set_cons_zero, List.set_cons_succ, List.append_nil, List.nil_append, List.cons_append, List.length_cons, List.length_nil, List.cons.injEq, Option.some.injEq, AV.dat.injEq, AV.ref.injEq, AV.ty.injEq, PyData.int.injEq, PyData.str.injEq, PyData.bool.injEq,
  and_true, true_and, and_assoc, exists_eq_left', exists_eq_left, exists_and_left, exists_eq', exists_eq, exists_eq_right, exists_eq_right', decide_eq_true_eq, Bool.not_eq_true', Bool.false_eq_true, if_true, if_false, reduceCtorEq, false_and, and_false, or_false, false_or, exists_false, decide_true, decide_false, Nat.zero_add, ite_true, ite_false, decide_eq_false_iff_not, fd__law_bag, fd__law_signs_drawn, fd__law_folds, fd_beginnings, fd__law_draw]
      refine ⟨fun z => (by cases z), fun l1 e => ?_⟩
      obtain rfl := tx_inj e
      refine ⟨by have := pat.len; omega, fun z => absurd (patB_iff.mpr pat) (by rw [z]; exact Bool.false_ne_true), fun _ => ⟨fun z => absurd z (by omega), fun _ A hA => ?_⟩⟩
      rw [begun_all, map_nat]
      have hAr : r ≠ A := fun z => by rw [← z, hr2] at hA; cases hA
      have hlen : ((List.range l.length).filter (begB l)).length ≤ l.length := by have := List.length_filter_le (begB l) (List.range l.length); rwa [List.length_range] at this
      have hpl := pat.len
      have eI : List.map (AV.dat true) (List.map (fun i : Nat => PyData.int (i : Int)) (List.filter (begB l) (List.range l.length))) = intA ((List.filter (begB l) (List.range l.length)).map fun i : Nat => (i : Int)) := by unfold intA; rw [map_nat]
      have hf : (List.map (fun i : Nat => PyData.int (i : Int)) (List.filter (begB l) (List.range l.length))).all okF = true := by rw [List.all_map]; exact List.all_eq_true.mpr fun _ _ => rfl
      refine ⟨_, _, ⟨_, updM_same, rfl⟩, isD_dat.mpr rfl, (shaped_lst hf).2, (shaped_lst hf).2, (shaped_lst hf).1, (shaped_lst hf).1, ?_⟩
      rw [SeqAt.eqv_refl _ (SeqAt.canLay_of_shaped (shaped_lst hf).1)]
      refine ⟨_, rfl, (if_neg Bool.false_ne_true).mpr ⟨_, by rw [updM_same, eI], ?_⟩⟩
      refine lcAll_fm (k := true) ((List.filter (begB l) (List.range l.length)).map fun i : Nat => (i : Int)) (fun _ => none) (by unfold intA; rw [List.length_map, List.length_map]) (by rw [List.length_map]; omega) (fun t x p hx hp => ?_) (newL_tt ?_)
      · unfold intA at hx
        rw [List.getElem?_map, List.getElem?_map, hp] at hx
        obtain rfl := Option.some.inj hx
        simp (maxSteps := 2000000) only [wLcRO, wLcRi, wLcR2, wDcEn, dcItem, wFrzD, wDGetF, wLcK, aInC, aGetC, wForZipS, wWhile, wGlue, wIndexS, wCountS, wSlS, wRevS, aIxS, aRepS, aAddS, bLenS, wStepL, wReverse, wLcSO, wForO, wLcRf, wCallT, wExtend, bSorted, wSl21, wRevT, wDisp, wPairs, wDGetK, insD_inj, OB.ins.injEq, wFldB, wFldR, wSetF, wMake, wMeth0, wFrzI, wFrzB, wLstB, wTupB, wForB, wForRevB, wListZipB, wForEnT, uTurns, wToF, wForR3, wLeast, wTIdx, isL_ob, isT_ob, avB_int, avB_bool, avB_str, avB_none, avB_list, avB_tuple, avB_ins, AV.ob.injEq, PyData.list.injEq, PyData.tuple.injEq, fd6, aEqI, aEqS, aEqB, wJoin, wJoinT, wJoinS, wUnlike, wIfC, bMaxL, bMinL, wToI, wLCount, wLIndex, wForZip, wLcZip, wListZip, wCallL, wFrzV, wDNew, wDPut, wDGet2, wSortIt, wForEnum, wLcEnum, wForRev, wLcRev, wForStr, wLcStr, wTryAs, endAs, wIsXT, bIsX, clsA_ref, clsA_ty, wForL, wForT, wForS, wForR1, wForR2, wLcL, wLcT, wLcS, wLcR1, wVar, wC, wOp, wUn, wFrz, aI0, aI, aU, aEq, aIxL, aIxT, aIx, wNotV, wAndV, wOrV, wChain, wB, wNot, wAnd, wOr, wYes, wIf, aIsN, aTyIs, wNil, wCons, wStar, wTup, wLst, newL_t, newL_f, newT, wTyIn, wIsiT, wCall0, wCall, wCB, bLen, bMax2, bMin2, bAbs, bInt, bTyp, wAppend, wNoPart, wPart, wSlL, wSlT, bStr, aCatT, wRevL, wgName, wgNil, wgCons, wgTup, wgSub, wgTL, wNext, wSeq, wDrop, wRet, wRetN, wIfS, wAsg, wNever, wPar, wRaise, wAug, wBreak, wCont, wTry, wTry0, entry, DEnds.turn, lcItem, wipeA, wNevE, updM_same, OB.lst.injEq, updM_updM, isI_int, isB_bool, isS_str, isI_str, isI_bool, isS_int, isS_bool, isB_int, isB_str, isL_list, isL_tuple, isL_ref, isT_tuple, isT_list, isT_ref, isD_dat, isD_ref, isNo_none, isNo_int, isNo_str, isNo_bool, isNo_list, isNo_tuple, isNo_ref, dats_nil, dats_cons, fr_dat, Option.map_some, fd1, fd2, fd3, fd4, fd5, tyO_dat, tyO_ref, tyD_none, tyD_bool, tyD_int, tyD_str, tyD_list, tyD_tuple, tyD_dict,
  List.all_cons, List.all_nil, List.map_cons, List.map_nil, Bool.and_true, Bool.true_and, xor_f, xor_t, Int.reduceToNat,
  List.getElem?_cons_zero, List.getElem?_cons_succ, List.set_cons_zero, List.set_cons_succ, List.append_nil, List.nil_append, List.cons_append, List.length_cons, List.length_nil, List.cons.injEq, Option.some.injEq, AV.dat.injEq, AV.ref.injEq, AV.ty.injEq, PyData.int.injEq, PyData.str.injEq, PyData.bool.injEq,
  and_true, true_and, and_assoc, exists_eq_left', exists_eq_left, exists_and_left, exists_eq', exists_eq, exists_eq_right, exists_eq_right', decide_eq_true_eq, Bool.not_eq_true', Bool.false_eq_true, if_true, if_false, reduceCtorEq, false_and, and_false, or_false, false_or, exists_false, decide_true, decide_false, Nat.zero_add, ite_true, ite_false, decide_eq_false_iff_not, fd__law_bag, fd__law_signs_drawn, fd__law_folds, fd_beginnings, fd__law_draw]
        exact isiD (d := .int p) (by decide) ⟨false, rfl, rfl, rfl⟩
      · have e0 : ∀ L : List Int, L.filterMap (fun _ => (none : Option PyData)) = [] := fun L => by induction L with | nil => rfl | cons a r ih => rw [List.filterMap_cons, ih]
        rw [e0]
        refine ⟨by decide, _, _, isD_dat.mpr rfl, isD_dat.mpr rfl, rfl, rfl, rfl, rfl, ?_⟩
        refine ⟨_, rfl, (if_neg (by decide)).mpr ⟨_, updM_same, _, updM_same, by rw [List.length_map, List.length_map]; omega, ?_⟩⟩
        rw [updM_ne hAr, updM_ne hAr]
        exact hr2
    · rintro l' μ2 ⟨y5, y6, y7, rfl, hr2⟩
      exact ⟨_, _, _, _, _, _, rfl, o3, hr2, hB3.mono (by omega)⟩
  · rintro l' μ' ⟨x2, x3, x4, x5, x6, x7, o', rfl, hr', hB'⟩
    simp (maxSteps := 2000000) only [wLcRO, wLcRi, wLcR2, wDcEn, dcItem, wFrzD, wDGetF, wLcK, aInC, aGetC, wForZipS, wWhile, wGlue, wIndexS, wCountS, wSlS, wRevS, aIxS, aRepS, aAddS, bLenS, wStepL, wReverse, wLcSO, wForO, wLcRf, wCallT, wExtend, bSorted, wSl21, wRevT, wDisp, wPairs, wDGetK, insD_inj, OB.ins.injEq, wFldB, wFldR, wSetF, wMake, wMeth0, wFrzI, wFrzB, wLstB, wTupB, wForB, wForRevB, wListZipB, wForEnT, uTurns, wToF, wForR3, wLeast, wTIdx, isL_ob, isT_ob, avB_int, avB_bool, avB_str, avB_none, avB_list, avB_tuple, avB_ins, AV.ob.injEq, PyData.list.injEq, PyData.tuple.injEq, fd6, aEqI, aEqS, aEqB, wJoin, wJoinT, wJoinS, wUnlike, wIfC, bMaxL, bMinL, wToI, wLCount, wLIndex, wForZip, wLcZip, wListZip, wCallL, wFrzV, wDNew, wDPut, wDGet2, wSortIt, wForEnum, wLcEnum, wForRev, wLcRev, wForStr, wLcStr, wTryAs, endAs, wIsXT, bIsX, clsA_ref, clsA_ty, wForL, wForT, wForS, wForR1, wForR2, wLcL, wLcT, wLcS, wLcR1, wVar, wC, wOp, wUn, wFrz, aI0, aI, aU, aEq, aIxL, aIxT, aIx, wNotV, wAndV, wOrV, wChain, wB, wNot, wAnd, wOr, wYes, wIf, aIsN, aTyIs, wNil, wCons, wStar, wTup, wLst, newL_t, newL_f, newT, wTyIn, wIsiT, wCall0, wCall, wCB, bLen, bMax2, bMin2, bAbs, bInt, bTyp, wAppend, wNoPart, wPart, wSlL, wSlT, bStr, aCatT, wRevL, wgName, wgNil, wgCons, wgTup, wgSub, wgTL, wNext, wSeq, wDrop, wRet, wRetN, wIfS, wAsg, wNever, wPar, wRaise, wAug, wBreak, wCont, wTry, wTry0, entry, DEnds.turn, lcItem, wipeA, wNevE, updM_same, OB.lst.injEq, updM_updM, isI_int, isB_bool, isS_str, isI_str, isI_bool, isS_int, isS_bool, isB_int, isB_str, isL_list, isL_tuple, isL_ref, isT_tuple, isT_list, isT_ref, isD_dat, isD_ref, isNo_none, isNo_int, isNo_str, isNo_bool, isNo_list, isNo_tuple, isNo_ref, dats_nil, dats_cons, fr_dat, Option.map_some, fd1, fd2, fd3, fd4, fd5, tyO_dat, tyO_ref, tyD_none, tyD_bool, tyD_int, tyD_str, tyD_list, tyD_tuple, tyD_dict,
  List.all_cons, List.all_nil, List.map_cons, List.map_nil, Bool.and_true, Bool.true_and, xor_f, xor_t, Int.reduceToNat,
  List.getElem?_cons_zero, List.getElem?_cons_succ, List.set_cons_zero, List.set_cons_succ, List.append_nil, List.nil_append, List.cons_append, List.length_cons, List.length_nil, List.cons.injEq, Option.some.injEq, AV.dat.injEq, AV.ref.injEq, AV.ty.injEq, PyData.int.injEq, PyData.str.injEq, PyData.bool.injEq,
  and_true, true_and, and_assoc, exists_eq_left', exists_eq_left, exists_and_left, exists_eq', exists_eq, exists_eq_right, exists_eq_right', decide_eq_true_eq, Bool.not_eq_true', Bool.false_eq_true, if_true, if_false, reduceCtorEq, false_and, and_false, or_false, false_or, exists_false, decide_true, decide_false, Nat.zero_add, ite_true, ite_false, decide_eq_false_iff_not, fd__law_bag, fd__law_signs_drawn, fd__law_folds, fd_beginnings, fd__law_draw]
    exact dropQ.here (q _)
end
end Fv

namespace Fv
open PySem PySem.Spec PyProof.Rows L2
theorem defAt_mk {K : PySem.W.Frag} {h : Heap} {mg : Str → Option Value} {nm : Str} {st : Stmt} {ps : List Str} {f : Addr} {oc : Value} {od an : Option Addr} {sl : Array (Option Value)} {kV dc pm cd ct : Value}
    (X : K.In h) (G : h.Ns mainGlobals mg) (a : PySem.W.nsIn K mainGlobals nm = some (some (.ref f)))
    (l : K.lookup f = some ⟨oc, od, .func (PySem.W.fnOf nm nm (defArgs st) (defBody st) (defScope st) .none kV dc pm an cd ct), sl⟩) (c : PySem.W.codeIn K cd nm = true) (k : PySem.W.keepIn K (.ref f) = true)
    (b : ∀ {f : Addr} {fd : FuncData}, Fun K nm nm st f fd → Binds K fd ps []) : DefAt K mg nm st ps :=
  ⟨f, _, PySem.W.mg_of X G a, fun_mk l c k, b (fun_mk l c k)⟩
theorem co_mk {K : PySem.W.Frag} {h : Heap} {mg : Str → Option Value} {tD t1 t2 : Tok} {aF : Addr} {od : Option Addr} {n : Nat} {sl : Array (Option Value)} (X : K.In h) (G : h.Ns mainGlobals mg)
    (p : ∃ v, mg "MOST_PLACES" = some v ∧ PySem.W.ReadsLit h v (.int (10 ^ 30)) []) (d : PySem.W.nsIn K mainGlobals "MOST_DEEDS" = some (some (.int 40 tD)))
    (a : PySem.W.nsIn K mainGlobals "FOLDS" = some (some (.ref aF))) (l : K.lookup aF = some ⟨.type "tuple", od, .seq #[.str "over" t1, .str "under" t2] n, sl⟩) : ∃ (tP tD : Tok) (aF : Addr), Co K mg tP tD aF := by
  obtain ⟨v, hv, r⟩ := p
  obtain ⟨t, rfl, _⟩ := PySem.W.readsW_int_inv r
  exact ⟨t, tD, aF, hv, PySem.W.mg_of X G d, PySem.W.mg_of X G a, fun H => .inr ⟨_, _, _, l, rfl, rfl, (by show 2 ≤ sizeLine; decide), .cons ⟨_, rfl⟩ (.cons ⟨_, rfl⟩ .nil)⟩⟩
theorem with_def {K : PySem.W.Frag} {h : Heap} {mg : Str → Option Value} {nm : Str} {st : Stmt} {ps : List Str} {f : Addr} {oc : Value} {od an : Option Addr} {sl : Array (Option Value)} {kV dc pm cd ct : Value} {G0 : Prop}
    (X : K.In h) (G : h.Ns mainGlobals mg) (a : PySem.W.nsIn K mainGlobals nm = some (some (.ref f)))
    (l : K.lookup f = some ⟨oc, od, .func (PySem.W.fnOf nm nm (defArgs st) (defBody st) (defScope st) .none kV dc pm an cd ct), sl⟩) (c : PySem.W.codeIn K cd nm = true) (k : PySem.W.keepIn K (.ref f) = true)
    (b : ∀ {f : Addr} {fd : FuncData}, Fun K nm nm st f fd → Binds K fd ps []) (next : DefAt K mg nm st ps → G0) : G0 := next (defAt_mk X G a l c k b)
theorem with_co {K : PySem.W.Frag} {h : Heap} {mg : Str → Option Value} {tD t1 t2 : Tok} {aF : Addr} {od : Option Addr} {n : Nat} {sl : Array (Option Value)} {G0 : Prop} (X : K.In h) (G : h.Ns mainGlobals mg)
    (p : ∃ v, mg "MOST_PLACES" = some v ∧ PySem.W.ReadsLit h v (.int (10 ^ 30)) []) (d : PySem.W.nsIn K mainGlobals "MOST_DEEDS" = some (some (.int 40 tD)))
    (a : PySem.W.nsIn K mainGlobals "FOLDS" = some (some (.ref aF))) (l : K.lookup aF = some ⟨.type "tuple", od, .seq #[.str "over" t1, .str "under" t2] n, sl⟩) (next : ∀ (tP tD : Tok) (aF : Addr), Co K mg tP tD aF → G0) : G0 := by
  obtain ⟨tP, tD, aF, C⟩ := co_mk X G p d a l
  exact next _ _ _ C
theorem with_exc {K : PySem.W.Frag} {h : Heap} {mg : Str → Option Value} {nm : Str} {C : Addr} {G0 : Prop} (X : K.In h) (G : h.Ns mainGlobals mg) (a : PySem.W.nsIn K mainGlobals nm = some (some (.ref C)))
    (x : PySem.W.excIn K C [.type "ValueError", .type "Exception", .type "BaseException", .type "object"] "ValueError.__new__" = true) (k : PySem.W.keepIn K (.ref C) = true) (b : PySem.W.subIn K (.ref C) (.type "BaseException") = some true)
    (t : PySem.W.typeIn K (.ref C) = some (.type "type")) (i : PySem.W.isClsIn K C = true) (next : ∀ C, ExC K mg nm C → G0) : G0 := next C ⟨PySem.W.mg_of X G a, x, k, b, t, i⟩
theorem with_clsC {K : PySem.W.Frag} {h : Heap} {mg : Str → Option Value} {nm : Str} {C : Addr} {G0 : Prop} (X : K.In h) (G : h.Ns mainGlobals mg) (a : PySem.W.nsIn K mainGlobals nm = some (some (.ref C)))
    (t : PySem.W.typeIn K (.ref C) = some (.type "type")) (i : PySem.W.isClsIn K C = true) (next : ClsC K mg nm C → G0) : G0 := next ⟨PySem.W.mg_of X G a, t, i⟩
theorem with_excC {K : PySem.W.Frag} {h : Heap} {mg : Str → Option Value} {nm : Str} {C : Addr} {G0 : Prop} (X : K.In h) (G : h.Ns mainGlobals mg) (a : PySem.W.nsIn K mainGlobals nm = some (some (.ref C)))
    (x : PySem.W.excIn K C [.type "ValueError", .type "Exception", .type "BaseException", .type "object"] "ValueError.__new__" = true) (k : PySem.W.keepIn K (.ref C) = true) (b : PySem.W.subIn K (.ref C) (.type "BaseException") = some true)
    (t : PySem.W.typeIn K (.ref C) = some (.type "type")) (i : PySem.W.isClsIn K C = true) (next : ExC K mg nm C → G0) : G0 := next ⟨PySem.W.mg_of X G a, x, k, b, t, i⟩
theorem exm_own {K : PySem.W.Frag} {C : Addr} (b : PySem.W.subIn K (.ref C) (.type "BaseException") = some true) (i : PySem.W.isClsIn K C = true) (t : PySem.W.typeIn K (.ref C) = some (.type "type")) (s : PySem.W.subIn K (.ref C) (.ref C) = some true) : PySem.W.exmOne K (.ref C) (.ref C) = some true := by
  have e1 : (PySem.W.subIn K (.ref C) (.type "BaseException") == some true) = true := by rw [b]; rfl
  have e2 : ((PySem.W.clsIn K C).isSome && PySem.W.typeIn K (.ref C) == some (.type "type")) = true := by
    rw [show (PySem.W.clsIn K C).isSome = true from i, t]; rfl
  show (if (PySem.W.subIn K (.ref C) (.type "BaseException") == some true) = true then (if ((PySem.W.clsIn K C).isSome && PySem.W.typeIn K (.ref C) == some (.type "type")) = true then PySem.W.subIn K (.ref C) (.ref C) else none) else none) = some true
  rw [if_pos e1, if_pos e2, s]
theorem with_excm {K : PySem.W.Frag} {h : Heap} {mg : Str → Option Value} {nm : Str} {C : Addr} {G0 : Prop} (X : K.In h) (G : h.Ns mainGlobals mg) (a : PySem.W.nsIn K mainGlobals nm = some (some (.ref C)))
    (x : PySem.W.excIn K C [.type "ValueError", .type "Exception", .type "BaseException", .type "object"] "ValueError.__new__" = true) (k : PySem.W.keepIn K (.ref C) = true) (b : PySem.W.subIn K (.ref C) (.type "BaseException") = some true)
    (t : PySem.W.typeIn K (.ref C) = some (.type "type")) (i : PySem.W.isClsIn K C = true) (m : PySem.W.subIn K (.ref C) (.ref C) = some true) (next : ∀ C, ExC K mg nm C → PySem.W.exmOne K (.ref C) (.ref C) = some true → G0) : G0 := next C ⟨PySem.W.mg_of X G a, x, k, b, t, i⟩ (exm_own b i t m)
theorem with_two {K : PySem.W.Frag} {h : Heap} {mg : Str → Option Value} {nm x1 x2 : Str} {t1 t2 : Tok} {aF : Addr} {od : Option Addr} {n : Nat} {sl : Array (Option Value)} {G0 : Prop} (X : K.In h) (G : h.Ns mainGlobals mg)
    (a : PySem.W.nsIn K mainGlobals nm = some (some (.ref aF))) (l : K.lookup aF = some ⟨.type "tuple", od, .seq #[.str x1 t1, .str x2 t2] n, sl⟩) (next : ∀ aF, ConT K mg nm aF [.str x1, .str x2] → G0) : G0 :=
  next aF ⟨PySem.W.mg_of X G a, fun H => .inr ⟨_, _, _, l, rfl, rfl, (by show 2 ≤ sizeLine; decide), .cons ⟨_, rfl⟩ (.cons ⟨_, rfl⟩ .nil)⟩⟩
theorem with_num {K : PySem.W.Frag} {h : Heap} {mg : Str → Option Value} {nm : Str} {n : Int} {t : Tok} {G0 : Prop} (X : K.In h) (G : h.Ns mainGlobals mg) (a : PySem.W.nsIn K mainGlobals nm = some (some (.int n t))) (next : ∀ t, ConI mg nm n t → G0) : G0 :=
  next t ⟨PySem.W.mg_of X G a⟩
theorem with_dic3 {K : PySem.W.Frag} {w : World} {h : Heap} {mg : Str → Option Value} {nm x1 x2 x3 y1 y2 y3 : Str} {t1 t2 t3 u1 u2 u3 : Tok} {aF : Addr} {n : Nat} {c1 c2 c3 e1 e2 e3 : Nat} {G0 : Prop} (X : K.In h) (G : h.Ns mainGlobals mg)
    (a : PySem.W.nsIn K mainGlobals nm = some (some (.ref aF))) (l : K.lookup aF = some ⟨.type "dict", none, .dict #[⟨PyData.keyHash w.params x1, .str x1 t1, .str y1 u1⟩, ⟨PyData.keyHash w.params x2, .str x2 t2, .str y2 u2⟩, ⟨PyData.keyHash w.params x3, .str x3 t3, .str y3 u3⟩] n, #[]⟩)
    (lo : (aF == sysModules) = false) (k1 : x1 = tx [c1]) (k2 : x2 = tx [c2]) (k3 : x3 = tx [c3]) (v1 : y1 = tx [e1]) (v2 : y2 = tx [e2]) (v3 : y3 = tx [e3]) (d12 : c1 ≠ c2) (d13 : c1 ≠ c3) (d23 : c2 ≠ c3) (next : ∀ aF, ConD K w mg nm aF [(c1, e1), (c2, e2), (c3, e3)] → G0) : G0 := by
  subst k1 k2 k3 v1 v2 v3
  have sh : ∀ z : Str, PySem.W.nsIn K aF z = if tx [c1] = z then some (some (.str (tx [e1]) u1)) else if tx [c2] = z then some (some (.str (tx [e2]) u2)) else if tx [c3] = z then some (some (.str (tx [e3]) u3)) else some none := fun z => by
    unfold PySem.W.nsIn
    rw [l]
    by_cases z1 : tx [c1] = z
    · have b1 : (tx [c1] == z) = true := beq_iff_eq.mpr z1
      simp only [List.find?, Value.isStr, b1, if_pos z1]
    · have b1 : (tx [c1] == z) = false := beq_eq_false_iff_ne.mpr z1
      rw [if_neg z1]
      by_cases z2 : tx [c2] = z
      · have b2 : (tx [c2] == z) = true := beq_iff_eq.mpr z2
        simp only [List.find?, Value.isStr, b1, b2, if_pos z2]
      · have b2 : (tx [c2] == z) = false := beq_eq_false_iff_ne.mpr z2
        rw [if_neg z2]
        by_cases z3 : tx [c3] = z
        · have b3 : (tx [c3] == z) = true := beq_iff_eq.mpr z3
          simp only [List.find?, Value.isStr, b1, b2, b3, if_pos z3]
        · have b3 : (tx [c3] == z) = false := beq_eq_false_iff_ne.mpr z3
          simp only [List.find?, Value.isStr, b1, b2, b3, if_neg z3]
          rfl
  refine next aF ⟨PySem.W.mg_of X G a, ⟨_, _, l, ⟨⟨_, _, rfl, rfl⟩, ⟨_, _, rfl, rfl⟩, ⟨_, _, rfl, rfl⟩, trivial⟩, lo⟩, fun c hc => ?_, fun p hp => ?_⟩
  · have q1 := hc _ (.head _)
    have q2 := hc _ (.tail _ (.head _))
    have q3 := hc _ (.tail _ (.tail _ (.head _)))
    rw [sh, if_neg (fun z => q1 (tx1.mp z)), if_neg (fun z => q2 (tx1.mp z)), if_neg (fun z => q3 (tx1.mp z))]
  · rcases List.mem_cons.mp hp with rfl | hp
    · exact ⟨u1, by rw [sh, if_pos rfl]⟩
    · rcases List.mem_cons.mp hp with rfl | hp
      · exact ⟨u2, by rw [sh, if_neg (fun z => d12 (tx1.mp z)), if_pos rfl]⟩
      · rcases List.mem_cons.mp hp with rfl | hp
        · exact ⟨u3, by rw [sh, if_neg (fun z => d13 (tx1.mp z)), if_neg (fun z => d23 (tx1.mp z)), if_pos rfl]⟩
        · cases hp
theorem D_is_pattern.bd {K : PySem.W.Frag} {f : Addr} {fd : FuncData} (F : Fun K "is_pattern" "is_pattern" D_is_pattern.st f fd) : Binds K fd D_is_pattern.ps [] := F.binds (ps := D_is_pattern.ps) fun _ _ _ _ _ _ us hl => match us, hl with | [_], _ => rfl
theorem D_check_pattern.bd {K : PySem.W.Frag} {f : Addr} {fd : FuncData} (F : Fun K "check_pattern" "check_pattern" D_check_pattern.st f fd) : Binds K fd D_check_pattern.ps [] := F.binds (ps := D_check_pattern.ps) fun _ _ _ _ _ _ us hl => match us, hl with | [_], _ => rfl
theorem D_whole_of.bd {K : PySem.W.Frag} {f : Addr} {fd : FuncData} (F : Fun K "whole_of" "whole_of" D_whole_of.st f fd) : Binds K fd D_whole_of.ps [] := F.binds (ps := D_whole_of.ps) fun _ _ _ _ _ _ us hl => match us, hl with | [_], _ => rfl
theorem D_reach_at.bd {K : PySem.W.Frag} {f : Addr} {fd : FuncData} (F : Fun K "reach_at" "reach_at" D_reach_at.st f fd) : Binds K fd D_reach_at.ps [] := F.binds (ps := D_reach_at.ps) fun _ _ _ _ _ _ us hl => match us, hl with | [_, _], _ => rfl
theorem D_reaches_of.bd {K : PySem.W.Frag} {f : Addr} {fd : FuncData} (F : Fun K "reaches_of" "reaches_of" D_reaches_of.st f fd) : Binds K fd D_reaches_of.ps [] := F.binds (ps := D_reaches_of.ps) fun _ _ _ _ _ _ us hl => match us, hl with | [_], _ => rfl
theorem D_bent_in.bd {K : PySem.W.Frag} {f : Addr} {fd : FuncData} (F : Fun K "bent_in" "bent_in" D_bent_in.st f fd) : Binds K fd D_bent_in.ps [] := F.binds (ps := D_bent_in.ps) fun _ _ _ _ _ _ us hl => match us, hl with | [_, _], _ => rfl
theorem D_begun.bd {K : PySem.W.Frag} {f : Addr} {fd : FuncData} (F : Fun K "begun" "begun" D_begun.st f fd) : Binds K fd D_begun.ps [] := F.binds (ps := D_begun.ps) fun _ _ _ _ _ _ us hl => match us, hl with | [_, _], _ => rfl
theorem D_beginnings.bd {K : PySem.W.Frag} {f : Addr} {fd : FuncData} (F : Fun K "beginnings" "beginnings" D_beginnings.st f fd) : Binds K fd D_beginnings.ps [] := F.binds (ps := D_beginnings.ps) fun _ _ _ _ _ _ us hl => match us, hl with | [_], _ => rfl
theorem D__law_bag.bd {K : PySem.W.Frag} {f : Addr} {fd : FuncData} (F : Fun K "_law_bag" "_law_bag" D__law_bag.st f fd) : Binds K fd D__law_bag.ps [] := F.binds (ps := D__law_bag.ps) fun _ _ _ _ _ _ us hl => match us, hl with | [_], _ => rfl
theorem D__law_stir.bd {K : PySem.W.Frag} {f : Addr} {fd : FuncData} (F : Fun K "_law_stir" "_law_stir" D__law_stir.st f fd) : Binds K fd D__law_stir.ps [] := F.binds (ps := D__law_stir.ps) fun _ _ _ _ _ _ us hl => match us, hl with | [_, _], _ => rfl
theorem D__law_draw.bd {K : PySem.W.Frag} {f : Addr} {fd : FuncData} (F : Fun K "_law_draw" "_law_draw" D__law_draw.st f fd) : Binds K fd D__law_draw.ps [] := F.binds (ps := D__law_draw.ps) fun _ _ _ _ _ _ us hl => match us, hl with | [_, _], _ => rfl
theorem D__law_begins.bd {K : PySem.W.Frag} {f : Addr} {fd : FuncData} (F : Fun K "_law_begins" "_law_begins" D__law_begins.st f fd) : Binds K fd D__law_begins.ps [] := F.binds (ps := D__law_begins.ps) fun _ _ _ _ _ _ us hl => match us, hl with | [_, _, _, _], _ => rfl
theorem D__law_folds.bd {K : PySem.W.Frag} {f : Addr} {fd : FuncData} (F : Fun K "_law_folds" "_law_folds" D__law_folds.st f fd) : Binds K fd D__law_folds.ps [] := F.binds (ps := D__law_folds.ps) fun _ _ _ _ _ _ us hl => match us, hl with | [_, _, _], _ => rfl
theorem D__law_signs_drawn.bd {K : PySem.W.Frag} {f : Addr} {fd : FuncData} (F : Fun K "_law_signs_drawn" "_law_signs_drawn" D__law_signs_drawn.st f fd) : Binds K fd D__law_signs_drawn.ps [] := F.binds (ps := D__law_signs_drawn.ps) fun _ _ _ _ _ _ us hl => match us, hl with | [_, _], _ => rfl
theorem D_law.bd {K : PySem.W.Frag} {f : Addr} {fd : FuncData} (F : Fun K "law" "law" D_law.st f fd) : Binds K fd D_law.ps [] := F.binds (ps := D_law.ps) fun _ _ _ _ _ _ us hl => match us, hl with | [_], _ => rfl
theorem all_run {P : Program} {w : World} {K : PySem.W.Frag} {mg : Str → Option Value} (d_is_pattern : DefAt K mg "is_pattern" D_is_pattern.st D_is_pattern.ps) (d_check_pattern : DefAt K mg "check_pattern" D_check_pattern.st D_check_pattern.ps) (d_whole_of : DefAt K mg "whole_of" D_whole_of.st D_whole_of.ps) (d_reach_at : DefAt K mg "reach_at" D_reach_at.st D_reach_at.ps) (d_reaches_of : DefAt K mg "reaches_of" D_reaches_of.st D_reaches_of.ps) (d_bent_in : DefAt K mg "bent_in" D_bent_in.st D_bent_in.ps) (d_begun : DefAt K mg "begun" D_begun.st D_begun.ps) (d_beginnings : DefAt K mg "beginnings" D_beginnings.st D_beginnings.ps) (d__law_bag : DefAt K mg "_law_bag" D__law_bag.st D__law_bag.ps) (d__law_stir : DefAt K mg "_law_stir" D__law_stir.st D__law_stir.ps) (d__law_draw : DefAt K mg "_law_draw" D__law_draw.st D__law_draw.ps) (d__law_begins : DefAt K mg "_law_begins" D__law_begins.st D__law_begins.ps) (d__law_folds : DefAt K mg "_law_folds" D__law_folds.st D__law_folds.ps) (d__law_signs_drawn : DefAt K mg "_law_signs_drawn" D__law_signs_drawn.st D__law_signs_drawn.ps) (d_law : DefAt K mg "law" D_law.st D_law.ps) (T : Bi mg) {C_NoPattern : Addr} (E_NoPattern : ExC K mg "NoPattern" C_NoPattern) {C_TooMany : Addr} (E_TooMany : ExC K mg "TooMany" C_TooMany) {aD_PARTNERS : Addr} (S_PARTNERS : ConD K w mg "PARTNERS" aD_PARTNERS [(104, 100), (100, 104), (45, 45)]) {t_MOST_BENDS : Tok} (I_MOST_BENDS : ConI mg "MOST_BENDS" 40 t_MOST_BENDS) {t_MOST_SIGNS : Tok} (I_MOST_SIGNS : ConI mg "MOST_SIGNS" 299 t_MOST_SIGNS) {fa : Addr} (hmg : mg "law" = some (.ref fa))
    (base : Heap) (s1 : Shared) (H : Hp) (a : Addr) (ns : List Int) (hn : ns.length ≤ 63) (hS : SqL K H a (ns.map V.int)) (en : Env0 P w K mg base callerA [] s1 H) :
    codeAny (model P w) callerA (.call (.ref fa) ⟨[.ref a], []⟩) (CR CX0 [] P w H s1 (fun v _ => v = .bl true) E0) s1 := by
  have g__law_bag := gd__law_bag (P := P) (w := w) (base := base) (R := noK) d__law_bag T
  have g__law_stir := gd__law_stir (P := P) (w := w) (base := base) (R := noK) d__law_stir T
  have g__law_draw := gd__law_draw (P := P) (w := w) (base := base) (R := noK) d__law_draw T g__law_stir
  have g__law_signs_drawn := gd__law_signs_drawn (P := P) (w := w) (base := base) (R := noK) d__law_signs_drawn T g__law_draw
  have g__law_begins := gd__law_begins (P := P) (w := w) (base := base) (R := noK) d__law_begins T
  have g__law_folds := gd__law_folds (P := P) (w := w) (base := base) (R := noK) d__law_folds T g__law_begins
  have g_is_pattern := gd_is_pattern (P := P) (w := w) (base := base) (R := noK) d_is_pattern T I_MOST_SIGNS S_PARTNERS
  have g_check_pattern := gd_check_pattern (P := P) (w := w) (base := base) (R := noK) d_check_pattern T I_MOST_BENDS E_NoPattern E_TooMany g_is_pattern
  have g_bent_in := gd_bent_in (P := P) (w := w) (base := base) (R := noK) d_bent_in T
  have g_begun := gd_begun (P := P) (w := w) (base := base) (R := noK) d_begun T g_bent_in
  have g_reach_at := gd_reach_at (P := P) (w := w) (base := base) (R := noK) d_reach_at T S_PARTNERS
  have g_reaches_of := gd_reaches_of (P := P) (w := w) (base := base) (R := noK) d_reaches_of T g_reach_at
  have g_whole_of := gd_whole_of (P := P) (w := w) (base := base) (R := noK) d_whole_of T
  have g_beginnings := gd_beginnings (P := P) (w := w) (base := base) (R := noK) d_beginnings T g_check_pattern g_begun g_reaches_of g_whole_of
  exact gd_law d_law T g__law_bag g__law_signs_drawn g__law_folds g_beginnings g__law_draw rfl hmg ⟨rfl, by decide, by decide⟩ en hS hn
theorem walk {l : PySem.W.OpenLaw} {q : Program} {loose : List Str} {XP : (Str → Option Value) → Heap → Prop} {YP : World → Heap → Prop} {d : DefRec} {K : Params → PySem.W.Frag} (hn : l.most = some 63) (hdf : d.params.defaults = [])
    (hY : ∀ (w : World) (h : Heap), YP w h → (K w.params).In h)
    (F : ∀ (w : World) (mg : Str → Option Value) (fa : Addr) (h : Heap), (K w.params).In h → h.Ns mainGlobals mg → XP mg h → mg d.name = some (.ref fa) →
      ∀ (base : Heap) (s1 : Shared) (H : Hp) (a : Addr) (ns : List Int), ns.length ≤ 63 → SqL (K w.params) H a (ns.map V.int) → Env0 l.prog w (K w.params) mg base callerA [] s1 H →
        codeAny (model l.prog w) callerA (.call (.ref fa) ⟨[.ref a], []⟩) (CR CX0 [] l.prog w H s1 (fun v _ => v = .bl true) E0) s1) :
    PySem.W.WalkO q loose XP YP l.row.toRowW d [] (fun f vs => PySem.call f vs) := by
  refine Att.attach_call hn hdf fun w s₀ s₁ mg mb fa o pm cd doc a vs ns G Y ho hd hcd hmg hobj hints hlen hg => ?_
  have KX := hY w _ Y
  exact law_top KX G.T.g G.T.b G.T.builtins G.T.nolimit hg hobj hints (Nat.le_trans hlen (by decide)) fun base H kb nb only sq en => F w mg fa _ KX G.T.g G.X hmg base s₁ H a ns hlen sq en
end Fv
open PySem PySem.W PyProof.Rows
set_option maxRecDepth 100000 in
set_option maxHeartbeats 0 in
theorem PySem.Challenge.cw_foldvat_k37_beginnings_told_holds : PySem.Challenge.rw_foldvat_k37_beginnings_told.Holds := by
  w_on; o_law; k_head; (case hw => w_witness2)
  k_fill
  refine Fv.walk (l := PySem.Challenge.rw_foldvat_k37_beginnings_told) rfl rfl (fun w h Y => PySem.W.kIn_of Y) ?F
  case F =>
    intro w mg fa h KX G XP hmg
    refine' Fv.with_def (nm := "is_pattern") (st := Fv.D_is_pattern.st) (ps := Fv.D_is_pattern.ps) KX G ?a_is_pattern ?l_is_pattern ?c_is_pattern ?k_is_pattern Fv.D_is_pattern.bd ?n_is_pattern
    (case a_is_pattern => k_is); (case l_is_pattern => k_is); (case c_is_pattern => k_is); (case k_is_pattern => k_is); intro d_is_pattern
    refine' Fv.with_def (nm := "check_pattern") (st := Fv.D_check_pattern.st) (ps := Fv.D_check_pattern.ps) KX G ?a_check_pattern ?l_check_pattern ?c_check_pattern ?k_check_pattern Fv.D_check_pattern.bd ?n_check_pattern
    (case a_check_pattern => k_is); (case l_check_pattern => k_is); (case c_check_pattern => k_is); (case k_check_pattern => k_is); intro d_check_pattern
    refine' Fv.with_def (nm := "whole_of") (st := Fv.D_whole_of.st) (ps := Fv.D_whole_of.ps) KX G ?a_whole_of ?l_whole_of ?c_whole_of ?k_whole_of Fv.D_whole_of.bd ?n_whole_of
    (case a_whole_of => k_is); (case l_whole_of => k_is); (case c_whole_of => k_is); (case k_whole_of => k_is); intro d_whole_of
    refine' Fv.with_def (nm := "reach_at") (st := Fv.D_reach_at.st) (ps := Fv.D_reach_at.ps) KX G ?a_reach_at ?l_reach_at ?c_reach_at ?k_reach_at Fv.D_reach_at.bd ?n_reach_at
    (case a_reach_at => k_is); (case l_reach_at => k_is); (case c_reach_at => k_is); (case k_reach_at => k_is); intro d_reach_at
    refine' Fv.with_def (nm := "reaches_of") (st := Fv.D_reaches_of.st) (ps := Fv.D_reaches_of.ps) KX G ?a_reaches_of ?l_reaches_of ?c_reaches_of ?k_reaches_of Fv.D_reaches_of.bd ?n_reaches_of
    (case a_reaches_of => k_is); (case l_reaches_of => k_is); (case c_reaches_of => k_is); (case k_reaches_of => k_is); intro d_reaches_of
    refine' Fv.with_def (nm := "bent_in") (st := Fv.D_bent_in.st) (ps := Fv.D_bent_in.ps) KX G ?a_bent_in ?l_bent_in ?c_bent_in ?k_bent_in Fv.D_bent_in.bd ?n_bent_in
    (case a_bent_in => k_is); (case l_bent_in => k_is); (case c_bent_in => k_is); (case k_bent_in => k_is); intro d_bent_in
    refine' Fv.with_def (nm := "begun") (st := Fv.D_begun.st) (ps := Fv.D_begun.ps) KX G ?a_begun ?l_begun ?c_begun ?k_begun Fv.D_begun.bd ?n_begun
    (case a_begun => k_is); (case l_begun => k_is); (case c_begun => k_is); (case k_begun => k_is); intro d_begun
    refine' Fv.with_def (nm := "beginnings") (st := Fv.D_beginnings.st) (ps := Fv.D_beginnings.ps) KX G ?a_beginnings ?l_beginnings ?c_beginnings ?k_beginnings Fv.D_beginnings.bd ?n_beginnings
    (case a_beginnings => k_is); (case l_beginnings => k_is); (case c_beginnings => k_is); (case k_beginnings => k_is); intro d_beginnings
    refine' Fv.with_def (nm := "_law_bag") (st := Fv.D__law_bag.st) (ps := Fv.D__law_bag.ps) KX G ?a__law_bag ?l__law_bag ?c__law_bag ?k__law_bag Fv.D__law_bag.bd ?n__law_bag
    (case a__law_bag => k_is); (case l__law_bag => k_is); (case c__law_bag => k_is); (case k__law_bag => k_is); intro d__law_bag
    refine' Fv.with_def (nm := "_law_stir") (st := Fv.D__law_stir.st) (ps := Fv.D__law_stir.ps) KX G ?a__law_stir ?l__law_stir ?c__law_stir ?k__law_stir Fv.D__law_stir.bd ?n__law_stir
    (case a__law_stir => k_is); (case l__law_stir => k_is); (case c__law_stir => k_is); (case k__law_stir => k_is); intro d__law_stir
    refine' Fv.with_def (nm := "_law_draw") (st := Fv.D__law_draw.st) (ps := Fv.D__law_draw.ps) KX G ?a__law_draw ?l__law_draw ?c__law_draw ?k__law_draw Fv.D__law_draw.bd ?n__law_draw
    (case a__law_draw => k_is); (case l__law_draw => k_is); (case c__law_draw => k_is); (case k__law_draw => k_is); intro d__law_draw
    refine' Fv.with_def (nm := "_law_begins") (st := Fv.D__law_begins.st) (ps := Fv.D__law_begins.ps) KX G ?a__law_begins ?l__law_begins ?c__law_begins ?k__law_begins Fv.D__law_begins.bd ?n__law_begins
    (case a__law_begins => k_is); (case l__law_begins => k_is); (case c__law_begins => k_is); (case k__law_begins => k_is); intro d__law_begins
    refine' Fv.with_def (nm := "_law_folds") (st := Fv.D__law_folds.st) (ps := Fv.D__law_folds.ps) KX G ?a__law_folds ?l__law_folds ?c__law_folds ?k__law_folds Fv.D__law_folds.bd ?n__law_folds
    (case a__law_folds => k_is); (case l__law_folds => k_is); (case c__law_folds => k_is); (case k__law_folds => k_is); intro d__law_folds
    refine' Fv.with_def (nm := "_law_signs_drawn") (st := Fv.D__law_signs_drawn.st) (ps := Fv.D__law_signs_drawn.ps) KX G ?a__law_signs_drawn ?l__law_signs_drawn ?c__law_signs_drawn ?k__law_signs_drawn Fv.D__law_signs_drawn.bd ?n__law_signs_drawn
    (case a__law_signs_drawn => k_is); (case l__law_signs_drawn => k_is); (case c__law_signs_drawn => k_is); (case k__law_signs_drawn => k_is); intro d__law_signs_drawn
    refine' Fv.with_def (nm := "law") (st := Fv.D_law.st) (ps := Fv.D_law.ps) KX G ?a_law ?l_law ?c_law ?k_law Fv.D_law.bd ?n_law
    (case a_law => k_is); (case l_law => k_is); (case c_law => k_is); (case k_law => k_is); intro d_law
    have T : Fv.Bi mg := by
      refine' ⟨PySem.W.mg_none_of KX G ?b_type, PySem.W.mg_none_of KX G ?b_int, PySem.W.mg_none_of KX G ?b_str, PySem.W.mg_none_of KX G ?b_list, PySem.W.mg_none_of KX G ?b_tuple, PySem.W.mg_none_of KX G ?b_bool, PySem.W.mg_none_of KX G ?b_sum, PySem.W.mg_none_of KX G ?b_max, PySem.W.mg_none_of KX G ?b_min, PySem.W.mg_none_of KX G ?b_len, PySem.W.mg_none_of KX G ?b_sorted, PySem.W.mg_none_of KX G ?b_range, PySem.W.mg_none_of KX G ?b_zip, PySem.W.mg_none_of KX G ?b_reversed, PySem.W.mg_none_of KX G ?b_repr, PySem.W.mg_none_of KX G ?b_isinstance, PySem.W.mg_none_of KX G ?b_enumerate, PySem.W.mg_none_of KX G ?b_abs, PySem.W.mg_none_of KX G ?b_set, PySem.W.mg_none_of KX G ?b_all, PySem.W.mg_none_of KX G ?b_dict⟩
      all_goals k_is
    refine' Fv.with_exc (nm := "NoPattern") KX G ?ea_NoPattern ?ex_NoPattern ?ek_NoPattern ?eb_NoPattern ?et_NoPattern ?ei_NoPattern ?en_NoPattern
    (case ea_NoPattern => k_is); (case ex_NoPattern => first | k_exc | k_is); (case ek_NoPattern => k_is); (case eb_NoPattern => k_is); (case et_NoPattern => k_is); (case ei_NoPattern => k_is); intro C_NoPattern E_NoPattern
    refine' Fv.with_exc (nm := "TooMany") KX G ?ea_TooMany ?ex_TooMany ?ek_TooMany ?eb_TooMany ?et_TooMany ?ei_TooMany ?en_TooMany
    (case ea_TooMany => k_is); (case ex_TooMany => first | k_exc | k_is); (case ek_TooMany => k_is); (case eb_TooMany => k_is); (case et_TooMany => k_is); (case ei_TooMany => k_is); intro C_TooMany E_TooMany
    refine' Fv.with_dic3 (w := w) (nm := "PARTNERS") (x1 := "h") (x2 := "d") (x3 := "-") (y1 := "d") (y2 := "h") (y3 := "-") (c1 := 104) (c2 := 100) (c3 := 45) (e1 := 100) (e2 := 104) (e3 := 45) KX G ?da_PARTNERS ?dl_PARTNERS ?do_PARTNERS ?k1_PARTNERS ?k2_PARTNERS ?k3_PARTNERS ?v1_PARTNERS ?v2_PARTNERS ?v3_PARTNERS (by decide) (by decide) (by decide) ?dn_PARTNERS
    (case da_PARTNERS => k_is); (case dl_PARTNERS => k_is); (case do_PARTNERS => decide)
    (case k1_PARTNERS => rw [Fv.str_tx]; decide)
    (case k2_PARTNERS => rw [Fv.str_tx]; decide)
    (case k3_PARTNERS => rw [Fv.str_tx]; decide)
    (case v1_PARTNERS => rw [Fv.str_tx]; decide)
    (case v2_PARTNERS => rw [Fv.str_tx]; decide)
    (case v3_PARTNERS => rw [Fv.str_tx]; decide)
    intro aD_PARTNERS S_PARTNERS
    refine' Fv.with_num (nm := "MOST_BENDS") (n := 40) KX G ?ia_MOST_BENDS ?in_MOST_BENDS
    (case ia_MOST_BENDS => k_is); intro t_MOST_BENDS I_MOST_BENDS
    refine' Fv.with_num (nm := "MOST_SIGNS") (n := 299) KX G ?ia_MOST_SIGNS ?in_MOST_SIGNS
    (case ia_MOST_SIGNS => k_is); intro t_MOST_SIGNS I_MOST_SIGNS
    exact Fv.all_run d_is_pattern d_check_pattern d_whole_of d_reach_at d_reaches_of d_bent_in d_begun d_beginnings d__law_bag d__law_stir d__law_draw d__law_begins d__law_folds d__law_signs_drawn d_law T E_NoPattern E_TooMany S_PARTNERS I_MOST_BENDS I_MOST_SIGNS hmg


