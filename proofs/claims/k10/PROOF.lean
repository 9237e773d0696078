import PyProof.Rows.All
import Wide.All
import OpenK.AllK
import Wide.FinOn
import HandS.Base
import HandS.Exc
import HandS.ExcOwn
import HandS.TryOnly
import HandS.WordsExc
import HandS.TupAny
import HandS.Call
import HandS.List
import HandS.Comp
import HandS.Ends
import HandS.Dict
import HandS.Iter
import HandS.Text
import HandS.More
import HandS.Star
import HandS.SortInts
import HandS.Words
import HandS.Conv
import HandS.Wide
import HandS.Style
import HandS.Zip
import HandS.IsInst
import HandS.Walk
import PyProof.TypeEq
import PyProof.ReprRoads
import PyProof.ReprLen
import PySem.Challenge.RW_foldvat_k10_lines_near
set_option Elab.async false
set_option linter.all false
set_option maxRecDepth 100000
set_option maxHeartbeats 4000000
/-! The mathematics of layers: what a ground's steps add up to, and what a fold leaves of them. -/
namespace Fv
abbrev Steps := List (Int × Int)
/-- the sum of the changes at columns up to x -/
def psum : Steps → Int → Int
  | [], _ => 0
  | p :: r, x => (if p.1 ≤ x then p.2 else 0) + psum r x
theorem psum_app : ∀ (a b : Steps) (x : Int), psum (a ++ b) x = psum a x + psum b x
  | [], b, x => by simp [psum]
  | p :: r, b, x => by
    show (if p.1 ≤ x then p.2 else 0) + psum (r ++ b) x = (if p.1 ≤ x then p.2 else 0) + psum r x + psum b x
    rw [psum_app r b x]; omega
theorem psum_perm {a b : Steps} (h : a.Perm b) (x : Int) : psum a x = psum b x := by
  induction h with
  | nil => rfl
  | cons p _ ih => simp only [psum, ih]
  | swap p q r => simp only [psum]; omega
  | trans _ _ h1 h2 => rw [h1, h2]
theorem psum_out : ∀ (a : Steps) (x : Int), (∀ p ∈ a, x < p.1) → psum a x = 0
  | [], _, _ => rfl
  | p :: r, x, h => by
    have h1 : ¬ p.1 ≤ x := by have := h p List.mem_cons_self; omega
    simp only [psum, if_neg h1, psum_out r x fun q hq => h q (List.mem_cons_of_mem _ hq)]
    rfl
/-- as it is written in the code: the list of changes at columns up to x, added up -/
theorem psum_filter : ∀ (a : Steps) (x : Int), ((a.filter fun p => decide (p.1 ≤ x)).map (·.2)).sum = psum a x
  | [], _ => rfl
  | p :: r, x => by
    by_cases h : p.1 ≤ x
    · have e : (p :: r).filter (fun p => decide (p.1 ≤ x)) = p :: r.filter (fun p => decide (p.1 ≤ x)) := by simp [List.filter_cons, h]
      rw [e]
      simp only [psum, if_pos h, List.map_cons, List.sum_cons, psum_filter r x]
    · have e : (p :: r).filter (fun p => decide (p.1 ≤ x)) = r.filter (fun p => decide (p.1 ≤ x)) := by simp [List.filter_cons, h]
      rw [e]
      simp only [psum, if_neg h, psum_filter r x]
      omega

/-! ### the dict of changes -/
def getI (c : Steps) (k : Int) : Option Int := (c.find? fun p => decide (p.1 = k)).map (·.2)
def putI (c : Steps) (k v : Int) : Steps := if (c.any fun p => decide (p.1 = k)) = true then c.map fun p => if p.1 = k then (p.1, v) else p else c ++ [(k, v)]
theorem getI_nil {k : Int} : getI [] k = none := rfl
theorem getI_pos {p : Int × Int} {r : Steps} {k : Int} (e : p.1 = k) : getI (p :: r) k = some p.2 := by simp [getI, List.find?_cons, e]
theorem getI_neg {p : Int × Int} {r : Steps} {k : Int} (e : ¬ p.1 = k) : getI (p :: r) k = getI r k := by simp [getI, List.find?_cons, e]
theorem getI_any (k : Int) : ∀ c : Steps, (c.any fun p => decide (p.1 = k)) = (getI c k).isSome
  | [] => rfl
  | p :: r => by
    by_cases h : p.1 = k
    · rw [getI_pos h]; simp [h]
    · rw [getI_neg h, ← getI_any k r]; simp [h]
theorem getI_none : ∀ (c : Steps) (k : Int), getI c k = none → k ∉ c.map (·.1)
  | [], _, _ => by simp
  | p :: r, k, h => by
    by_cases e : p.1 = k
    · rw [getI_pos e] at h; cases h
    · rw [getI_neg e] at h
      have ih := getI_none r k h
      intro hm
      rcases List.mem_cons.mp hm with hm | hm
      · exact e hm.symm
      · exact ih hm
theorem getI_some : ∀ (c : Steps) (k v : Int), getI c k = some v → (k, v) ∈ c
  | [], _, _, h => by cases h
  | p :: r, k, v, h => by
    by_cases e : p.1 = k
    · rw [getI_pos e] at h
      have : p.2 = v := Option.some.inj h
      rw [← e, ← this]; exact List.mem_cons_self
    · rw [getI_neg e] at h
      exact List.mem_cons_of_mem _ (getI_some r k v h)
theorem getI_mem : ∀ (c : Steps), (c.map (·.1)).Nodup → ∀ (k v : Int), (k, v) ∈ c → getI c k = some v
  | [], _, _, _, h => by cases h
  | p :: r, nd, k, v, h => by
    have nd' := List.nodup_cons.mp nd
    rcases List.mem_cons.mp h with e | h
    · rw [← e]; exact getI_pos rfl
    · have hk : k ∈ r.map (·.1) := List.mem_map.mpr ⟨(k, v), h, rfl⟩
      have ne : ¬ p.1 = k := fun e => nd'.1 (by show p.1 ∈ r.map (·.1); rw [e]; exact hk)
      rw [getI_neg ne]
      exact getI_mem r nd'.2 k v h
theorem map_put_keys (k v : Int) : ∀ c : Steps, (c.map fun p => if p.1 = k then (p.1, v) else p).map (·.1) = c.map (·.1)
  | [] => rfl
  | p :: r => by
    simp only [List.map_cons, map_put_keys k v r]
    congr 1
    by_cases h : p.1 = k
    · rw [if_pos h]
    · rw [if_neg h]
theorem putI_keys (c : Steps) (k v : Int) : (putI c k v).map (·.1) = if (getI c k).isSome = true then c.map (·.1) else c.map (·.1) ++ [k] := by
  unfold putI
  rw [getI_any]
  by_cases h : (getI c k).isSome = true
  · rw [if_pos h, if_pos h, map_put_keys]
  · rw [if_neg h, if_neg h, List.map_append]; rfl
theorem putI_nodup {c : Steps} (k v : Int) (nd : (c.map (·.1)).Nodup) : ((putI c k v).map (·.1)).Nodup := by
  rw [putI_keys]
  by_cases h : (getI c k).isSome = true
  · rw [if_pos h]; exact nd
  · rw [if_neg h]
    have hn : getI c k = none := by
      cases e : getI c k with
      | none => rfl
      | some w => rw [e] at h; exact absurd rfl h
    have hm := getI_none c k hn
    rw [List.nodup_append]
    refine ⟨nd, by simp, fun a ha b hb => ?_⟩
    have eb : b = k := by simpa using hb
    rw [eb]
    exact fun e => hm (e ▸ ha)
theorem putI_length (c : Steps) (k v : Int) : (putI c k v).length ≤ c.length + 1 := by
  unfold putI
  split
  · rw [List.length_map]; omega
  · rw [List.length_append]; exact Nat.le_refl _
theorem putI_mem {c : Steps} {k v : Int} : ∀ p ∈ putI c k v, p.1 = k ∨ p ∈ c := by
  intro p hp
  unfold putI at hp
  split at hp
  · obtain ⟨q, hq, e⟩ := List.mem_map.mp hp
    by_cases h : q.1 = k
    · rw [if_pos h] at e; rw [← e]; exact .inl h
    · rw [if_neg h] at e; rw [← e]; exact .inr hq
  · rcases List.mem_append.mp hp with h | h
    · exact .inr h
    · have : p = (k, v) := by simpa using h
      rw [this]; exact .inl rfl
theorem psum_map_put (k v : Int) (x : Int) : ∀ (c : Steps) (w : Int), (c.map (·.1)).Nodup → getI c k = some w →
    psum (c.map fun p => if p.1 = k then (p.1, v) else p) x = psum c x + (if k ≤ x then v - w else 0)
  | [], _, _, h => by cases h
  | p :: r, w, nd, h => by
    have nd' := List.nodup_cons.mp nd
    by_cases e : p.1 = k
    · rw [getI_pos e] at h
      have hw : p.2 = w := Option.some.inj h
      have hr : (r.map fun p => if p.1 = k then (p.1, v) else p) = r := by
        conv => rhs; rw [← List.map_id r]
        refine List.map_congr_left fun q hq => ?_
        have : ¬ q.1 = k := fun e2 => nd'.1 (by show p.1 ∈ r.map (·.1); rw [e, ← e2]; exact List.mem_map.mpr ⟨q, hq, rfl⟩)
        rw [if_neg this]; rfl
      simp only [List.map_cons, psum, hr, if_pos e]
      rw [e]
      by_cases hx : k ≤ x
      · simp only [if_pos hx]; omega
      · simp only [if_neg hx]; omega
    · rw [getI_neg e] at h
      have ih := psum_map_put k v x r w nd'.2 h
      simp only [List.map_cons, psum, if_neg e, ih]
      omega
theorem psum_putI {c : Steps} {k d : Int} (nd : (c.map (·.1)).Nodup) (x : Int) : psum (putI c k ((getI c k).getD 0 + d)) x = psum c x + (if k ≤ x then d else 0) := by
  unfold putI
  rw [getI_any]
  cases e : getI c k with
  | none =>
    rw [if_neg (by simp)]
    rw [psum_app]
    simp only [psum, Option.getD_none]
    split <;> omega
  | some w =>
    rw [if_pos (by rfl)]
    rw [psum_map_put k _ x c w nd e]
    simp only [Option.getD_some]
    split <;> omega

/-! ### rows of keys that rise, and what is not nought -/
def leftOf (c : Steps) (ys : List Int) : Steps := ((ys.map fun k => (k, (getI c k).getD 0)).filter fun p => decide (p.2 ≠ 0))
theorem psum_filter0 : ∀ (a : Steps) (x : Int), psum (a.filter fun p => decide (p.2 ≠ 0)) x = psum a x
  | [], _ => rfl
  | p :: r, x => by
    by_cases h : p.2 = 0
    · have e : (p :: r).filter (fun p => decide (p.2 ≠ 0)) = r.filter (fun p => decide (p.2 ≠ 0)) := by simp [List.filter_cons, h]
      rw [e]
      simp only [psum, psum_filter0 r x, h]
      split <;> omega
    · have e : (p :: r).filter (fun p => decide (p.2 ≠ 0)) = p :: r.filter (fun p => decide (p.2 ≠ 0)) := by simp [List.filter_cons, h]
      rw [e]
      simp only [psum, psum_filter0 r x]
theorem map_getI {c : Steps} (nd : (c.map (·.1)).Nodup) : (c.map (·.1)).map (fun k => (k, (getI c k).getD 0)) = c := by
  rw [List.map_map]
  conv => rhs; rw [← List.map_id c]
  refine List.map_congr_left fun p hp => ?_
  have := getI_mem c nd p.1 p.2 hp
  show (p.1, (getI c p.1).getD 0) = p
  rw [this]; rfl
theorem psum_leftOf {c : Steps} {ys : List Int} (nd : (c.map (·.1)).Nodup) (hp : ys.Perm (c.map (·.1))) (x : Int) : psum (leftOf c ys) x = psum c x := by
  unfold leftOf
  rw [psum_filter0]
  have h := psum_perm (hp.map fun k => (k, (getI c k).getD 0)) x
  rw [h, map_getI nd]
theorem pairwise_lt_of {ys : List Int} (h1 : ys.Pairwise (· ≤ ·)) (h2 : ys.Nodup) : ys.Pairwise (· < ·) := by
  have := List.Pairwise.and h1 h2
  exact this.imp fun {a b} ⟨x, y⟩ => by
    have : a ≠ b := y
    omega
/-- columns that rise, no change that is nought -/
structure Neat (s : Steps) : Prop where
  up : (s.map (·.1)).Pairwise (· < ·)
  nz : ∀ p ∈ s, p.2 ≠ 0
theorem leftOf_neat {c : Steps} {ys : List Int} (nd : (c.map (·.1)).Nodup) (hp : ys.Perm (c.map (·.1))) (hs : ys.Pairwise (· ≤ ·)) : Neat (leftOf c ys) := by
  have ny : ys.Nodup := hp.symm.nodup nd
  have hl := pairwise_lt_of hs ny
  refine ⟨?_, fun p h => ?_⟩
  · have hsub : ((leftOf c ys).map (·.1)).Sublist ys := by
      unfold leftOf
      have h1 := (List.filter_sublist (p := fun p : Int × Int => decide (p.2 ≠ 0)) (l := ys.map fun k => (k, (getI c k).getD 0))).map (·.1)
      have e : (ys.map fun k => (k, (getI c k).getD 0)).map (·.1) = ys := by
        rw [List.map_map]
        conv => rhs; rw [← List.map_id ys]
        exact List.map_congr_left fun _ _ => rfl
      rw [e] at h1
      exact h1
    exact hl.sublist hsub
  · unfold leftOf at h
    have := (List.mem_filter.mp h).2
    simpa using this
theorem leftOf_mem {c : Steps} {ys : List Int} (hp : ys.Perm (c.map (·.1))) : ∀ p ∈ leftOf c ys, p.1 ∈ c.map (·.1) := by
  intro p h
  unfold leftOf at h
  obtain ⟨k, hk, e⟩ := List.mem_map.mp (List.mem_filter.mp h).1
  rw [← e]
  exact hp.mem_iff.mp hk
theorem leftOf_length {c : Steps} {ys : List Int} (hp : ys.Perm (c.map (·.1))) : (leftOf c ys).length ≤ c.length := by
  unfold leftOf
  refine Nat.le_trans (List.length_filter_le _ _) ?_
  rw [List.length_map, hp.length_eq, List.length_map]
  exact Nat.le_refl _

/-! ### grounds -/
abbrev Ht := Int → Int
/-- the steps tell the heights h of w columns -/
structure GOk (w : Int) (h : Ht) (s : Steps) : Prop where
  neat : Neat s
  inn : ∀ p ∈ s, 0 ≤ p.1 ∧ p.1 < w
  pos : 1 ≤ w
  sum : ∀ x, 0 ≤ x → x < w → psum s x = h x
  out : ∀ x, (x < 0 ∨ w ≤ x) → h x = 0
/-- what a fold at the line c (a turn: c = 0) makes of heights -/
def foldW (w c : Int) : Int := if w - c > c then w - c else c
def shiftOf (w c : Int) : Int := if w - 2 * c > 0 then w - 2 * c else 0
def foldH (w : Int) (h : Ht) (c : Int) : Ht := fun x => if x < 0 ∨ foldW w c ≤ x then 0 else h (x - shiftOf w c) + h (2 * c - 1 - (x - shiftOf w c))
theorem fold_shift (w c : Int) : foldW w c - shiftOf w c = c := by
  unfold foldW shiftOf
  split <;> split <;> omega
/-- what one step puts into the dict -/
def addI (c : Steps) (k d : Int) : Steps := putI c k ((getI c k).getD 0 + d)
def turnOf (line shift : Int) (c : Steps) (p : Int × Int) : Steps :=
  if p.1 < line then addI c (p.1 + shift) p.2 else if p.1 > line then addI c (2 * line - p.1 + shift) (-p.2) else c
def changesOf (line shift : Int) (ps : Steps) : Steps := ps.foldl (turnOf line shift) []
/-- what is put in, before it is gathered -/
def rawOf (line shift : Int) (p : Int × Int) : Steps :=
  if p.1 < line then [(p.1 + shift, p.2)] else if p.1 > line then [(2 * line - p.1 + shift, -p.2)] else []
structure Gath (line shift : Int) (ps : Steps) (c : Steps) : Prop where
  nd : (c.map (·.1)).Nodup
  sum : ∀ x, psum c x = psum (ps.flatMap (rawOf line shift)) x
  len : c.length ≤ ps.length
  mem : ∀ k ∈ c.map (·.1), ∃ p ∈ ps, (p.1 < line ∧ k = p.1 + shift) ∨ (line < p.1 ∧ k = 2 * line - p.1 + shift)
theorem gath_nil {line shift : Int} : Gath line shift [] [] := ⟨by simp, fun _ => rfl, Nat.le_refl _, fun k h => by cases h⟩
theorem addI_mem {c : Steps} {k d : Int} : ∀ j ∈ (addI c k d).map (·.1), j = k ∨ j ∈ c.map (·.1) := by
  intro j hj
  obtain ⟨p, hp, e⟩ := List.mem_map.mp hj
  rcases putI_mem p hp with h | h
  · exact .inl (by rw [← e, h])
  · exact .inr (by rw [← e]; exact List.mem_map.mpr ⟨p, h, rfl⟩)
theorem psum_one {k d x : Int} : psum [(k, d)] x = if k ≤ x then d else 0 := by
  simp only [psum]; omega
theorem gath_turn {line shift : Int} {ps c : Steps} {p : Int × Int} (g : Gath line shift ps c) : Gath line shift (ps ++ [p]) (turnOf line shift c p) := by
  have em : ∀ k ∈ c.map (·.1), ∃ q ∈ ps ++ [p], (q.1 < line ∧ k = q.1 + shift) ∨ (line < q.1 ∧ k = 2 * line - q.1 + shift) := fun k hk => by
    obtain ⟨q, hq, r⟩ := g.mem k hk
    exact ⟨q, List.mem_append_left _ hq, r⟩
  have ef : ∀ x, psum ((ps ++ [p]).flatMap (rawOf line shift)) x = psum c x + psum (rawOf line shift p) x := fun x => by
    rw [List.flatMap_append, psum_app, g.sum]
    simp
  have hl : c.length ≤ ps.length := g.len
  unfold turnOf
  by_cases h1 : p.1 < line
  · rw [if_pos h1]
    refine ⟨putI_nodup _ _ g.nd, fun x => ?_, ?_, fun k hk => ?_⟩
    · rw [ef, show rawOf line shift p = [(p.1 + shift, p.2)] from if_pos h1, psum_one]
      exact psum_putI g.nd x
    · rw [List.length_append]
      exact Nat.le_trans (putI_length _ _ _) (Nat.succ_le_succ hl)
    · rcases addI_mem k hk with e | h
      · exact ⟨p, List.mem_append_right _ List.mem_cons_self, .inl ⟨h1, e⟩⟩
      · exact em k h
  · rw [if_neg h1]
    by_cases h2 : p.1 > line
    · rw [if_pos h2]
      refine ⟨putI_nodup _ _ g.nd, fun x => ?_, ?_, fun k hk => ?_⟩
      · rw [ef, show rawOf line shift p = [(2 * line - p.1 + shift, -p.2)] from by unfold rawOf; rw [if_neg h1, if_pos h2], psum_one]
        exact psum_putI g.nd x
      · rw [List.length_append]
        exact Nat.le_trans (putI_length _ _ _) (Nat.succ_le_succ hl)
      · rcases addI_mem k hk with e | h
        · exact ⟨p, List.mem_append_right _ List.mem_cons_self, .inr ⟨h2, e⟩⟩
        · exact em k h
    · rw [if_neg h2]
      refine ⟨g.nd, fun x => ?_, ?_, em⟩
      · rw [ef, show rawOf line shift p = [] from by unfold rawOf; rw [if_neg h1, if_neg h2]]
        simp [psum]
      · rw [List.length_append]; omega
theorem gath_foldl {line shift : Int} : ∀ (qs ps c : Steps), Gath line shift ps c → Gath line shift (ps ++ qs) (qs.foldl (turnOf line shift) c)
  | [], ps, c, g => by rw [List.append_nil]; exact g
  | q :: r, ps, c, g => by
    have := gath_foldl r (ps ++ [q]) _ (gath_turn (p := q) g)
    rw [List.append_assoc] at this
    exact this
theorem gath_all (line shift : Int) (ps : Steps) : Gath line shift ps (changesOf line shift ps) := gath_foldl ps [] [] gath_nil
/-- the sum over what is put in -/
theorem psum_raw (line shift x : Int) : ∀ ps : Steps, psum (ps.flatMap (rawOf line shift)) x =
    psum ps (if x - shift < line then x - shift else line - 1) + (psum ps (if 2 * line - (x - shift) - 1 > line then 2 * line - (x - shift) - 1 else line) - (ps.map (·.2)).sum)
  | [] => by simp [psum]
  | p :: r => by
    rw [List.flatMap_cons, psum_app, psum_raw line shift x r]
    simp only [psum, List.map_cons, List.sum_cons]
    unfold rawOf
    by_cases h1 : p.1 < line
    · rw [if_pos h1, psum_one]
      have e2 : p.1 ≤ (if 2 * line - (x - shift) - 1 > line then 2 * line - (x - shift) - 1 else line) := by split <;> omega
      rw [if_pos e2]
      by_cases e1 : p.1 + shift ≤ x
      · rw [if_pos e1, if_pos (show p.1 ≤ (if x - shift < line then x - shift else line - 1) by split <;> omega)]; omega
      · rw [if_neg e1, if_neg (show ¬ p.1 ≤ (if x - shift < line then x - shift else line - 1) by split <;> omega)]; omega
    · rw [if_neg h1]
      have e1 : ¬ p.1 ≤ (if x - shift < line then x - shift else line - 1) := by split <;> omega
      rw [if_neg e1]
      by_cases h2 : p.1 > line
      · rw [if_pos h2, psum_one]
        by_cases e2 : 2 * line - p.1 + shift ≤ x
        · rw [if_pos e2, if_neg (show ¬ p.1 ≤ (if 2 * line - (x - shift) - 1 > line then 2 * line - (x - shift) - 1 else line) by split <;> omega)]; omega
        · rw [if_neg e2, if_pos (show p.1 ≤ (if 2 * line - (x - shift) - 1 > line then 2 * line - (x - shift) - 1 else line) by split <;> omega)]; omega
      · rw [if_neg h2]
        rw [if_pos (show p.1 ≤ (if 2 * line - (x - shift) - 1 > line then 2 * line - (x - shift) - 1 else line) by split <;> omega)]
        simp only [psum]; omega
theorem psum_all : ∀ (s : Steps) (w x : Int), (∀ p ∈ s, p.1 < w) → w - 1 ≤ x → psum s x = (s.map (·.2)).sum
  | [], _, _, _, _ => rfl
  | p :: r, w, x, h, hx => by
    have := h p List.mem_cons_self
    simp only [psum, List.map_cons, List.sum_cons]
    rw [if_pos (by omega), psum_all r w x (fun q hq => h q (List.mem_cons_of_mem _ hq)) hx]
/-- the ground behind a fold or a turn -/
theorem fold_ok {w c : Int} {h : Ht} {s : Steps} {ys : List Int} (g : GOk w h s) (hc : 0 ≤ c) (hw : c < w)
    (hp : ys.Perm ((changesOf c (shiftOf w c) (s ++ [(w, -h (w - 1))])).map (·.1))) (hs : ys.Pairwise (· ≤ ·)) :
    GOk (foldW w c) (foldH w h c) (leftOf (changesOf c (shiftOf w c) (s ++ [(w, -h (w - 1))])) ys) := by
  have G := gath_all c (shiftOf w c) (s ++ [(w, -h (w - 1))])
  have hpos := g.pos
  have hpos' : 1 ≤ foldW w c := by unfold foldW; split <;> omega
  have S : ∀ x, psum (s ++ [(w, -h (w - 1))]) x = h x := fun x => by
    rw [psum_app, psum_one]
    by_cases h1 : w ≤ x
    · rw [if_pos h1, g.out x (.inr h1), psum_all s w x (fun p hp => (g.inn p hp).2) (by omega), ← psum_all s w (w - 1) (fun p hp => (g.inn p hp).2) (by omega), g.sum (w - 1) (by omega) (by omega)]
      omega
    · rw [if_neg h1]
      by_cases h0 : x < 0
      · rw [g.out x (.inl h0), psum_out s x fun p hp => by have := (g.inn p hp).1; omega]; rfl
      · rw [g.sum x (by omega) (by omega)]; omega
  have tot : ((s ++ [(w, -h (w - 1))]).map (·.2)).sum = 0 := by
    rw [List.map_append, List.sum_append, ← psum_all s w (w - 1) (fun p hp => (g.inn p hp).2) (by omega), g.sum (w - 1) (by omega) (by omega)]
    simp; omega
  refine ⟨leftOf_neat G.nd hp hs, fun p hpm => ?_, hpos', fun x hx0 hx1 => ?_, fun x hx => ?_⟩
  · have hk := leftOf_mem hp p hpm
    obtain ⟨q, hq, r⟩ := G.mem _ hk
    have hq' : 0 ≤ q.1 ∧ q.1 ≤ w := by
      rcases List.mem_append.mp hq with hq | hq
      · have := g.inn q hq; omega
      · have : q = (w, -h (w - 1)) := by simpa using hq
        rw [this]; exact ⟨by omega, Int.le_refl _⟩
    unfold foldW shiftOf at *
    rcases r with ⟨r1, r2⟩ | ⟨r1, r2⟩
    · rw [r2]; constructor
      · split <;> omega
      · split <;> split <;> omega
    · rw [r2]; constructor
      · split <;> omega
      · split <;> split <;> omega
  · rw [psum_leftOf G.nd hp, G.sum, psum_raw, tot, S, S]
    unfold foldH
    rw [if_neg (show ¬ (x < 0 ∨ foldW w c ≤ x) by omega)]
    have hd := fold_shift w c
    have e : x - shiftOf w c < c := by omega
    rw [if_pos e]
    by_cases e2 : 2 * c - (x - shiftOf w c) - 1 > c
    · rw [if_pos e2, show 2 * c - (x - shiftOf w c) - 1 = 2 * c - 1 - (x - shiftOf w c) by omega]; omega
    · rw [if_neg e2, show 2 * c - 1 - (x - shiftOf w c) = c by omega]; omega
  · unfold foldH
    rw [if_pos hx]
theorem flat_ok {w : Int} (h : 1 ≤ w) : GOk w (fun x => if x < 0 ∨ w ≤ x then 0 else 1) [(0, 1)] :=
  ⟨⟨by simp, fun p hp => by have : p = (0, 1) := by simpa using hp
                            rw [this]; decide⟩, fun p hp => by have : p = (0, 1) := by simpa using hp
                                                               rw [this]; exact ⟨Int.le_refl 0, h⟩, h,
    fun x h0 h1 => by rw [if_neg (by omega)]; simp only [psum]; rw [if_pos h0]; rfl, fun x hx => if_pos hx⟩
end Fv

/-! piles of layers, folded one by one, and how many layers lie where -/
namespace Fv
abbrev Pile := List (Int × Bool)
def aboutP (p : Pile) : Pile := p.reverse.map fun q => (q.1, !q.2)
def restP (pls : List Pile) (l far : Nat) : Pile := if far ≤ l then pls.getD (l - far) [] else []
def comesP (pls : List Pile) (l far : Nat) : Pile := if l + far ≤ pls.length then aboutP (pls.getD (l + far - 1) []) else []
def colP (pls : List Pile) (o : Bool) (l far : Nat) : Pile := if o then comesP pls l far ++ restP pls l far else restP pls l far ++ comesP pls l far
def widP (pls : List Pile) (l : Nat) : Nat := if pls.length - l > l then pls.length - l else l
def foundP (pls : List Pile) (o : Bool) (l : Nat) (i : Nat) : List Pile := (List.range i).map fun k => colP pls o l (k + 1)
def foldP (pls : List Pile) (o : Bool) (l : Nat) : List Pile := (foundP pls o l (widP pls l)).reverse
def turnP (pls : List Pile) : List Pile := pls.reverse.map aboutP
theorem aboutP_length (p : Pile) : (aboutP p).length = p.length := by unfold aboutP; rw [List.length_map, List.length_reverse]
/-- how many layers lie at a column -/
def hOf (pls : List Pile) : Ht := fun x => if x < 0 then 0 else ((pls.getD x.toNat []).length : Int)
theorem foldP_length (pls : List Pile) (o : Bool) (l : Nat) : (foldP pls o l).length = widP pls l := by
  unfold foldP foundP; rw [List.length_reverse, List.length_map, List.length_range]
theorem widP_eq (pls : List Pile) {l : Nat} (h : l ≤ pls.length) : ((widP pls l : Nat) : Int) = foldW pls.length l := by
  unfold widP foldW
  split <;> split <;> omega
theorem getD_out {α : Type} {xs : List α} {i : Nat} {d : α} (h : xs.length ≤ i) : xs.getD i d = d := by
  rw [List.getD_eq_getElem?_getD, List.getElem?_eq_none h]; rfl
theorem foldP_at (pls : List Pile) (o : Bool) (l x : Nat) (h : x < widP pls l) : (foldP pls o l).getD x [] = colP pls o l (widP pls l - x) := by
  have hx : (foldP pls o l)[x]? = some (colP pls o l (widP pls l - x)) := by
    unfold foldP foundP
    rw [List.getElem?_reverse (by rw [List.length_map, List.length_range]; exact h), List.length_map, List.length_range, List.getElem?_map, List.getElem?_range (by omega)]
    show some (colP pls o l (widP pls l - 1 - x + 1)) = _
    rw [show widP pls l - 1 - x + 1 = widP pls l - x by omega]
  rw [List.getD_eq_getElem?_getD, hx]; rfl
theorem colP_length (pls : List Pile) (o : Bool) (l far : Nat) : (colP pls o l far).length = (restP pls l far).length + (comesP pls l far).length := by
  unfold colP
  cases o
  · rw [if_neg (by decide), List.length_append]
  · rw [if_pos rfl, List.length_append]; omega
theorem restP_length (pls : List Pile) (l far : Nat) : ((restP pls l far).length : Int) = hOf pls ((l : Int) - far) := by
  unfold restP hOf
  by_cases h : far ≤ l
  · rw [if_pos h, if_neg (by omega), show ((l : Int) - (far : Int)).toNat = l - far by omega]
  · rw [if_neg h, if_pos (by omega)]; rfl
theorem comesP_length (pls : List Pile) (l far : Nat) (hf : 1 ≤ far) : ((comesP pls l far).length : Int) = hOf pls ((l : Int) + far - 1) := by
  unfold comesP hOf
  rw [if_neg (show ¬ ((l : Int) + (far : Int) - 1 < 0) by omega), show ((l : Int) + (far : Int) - 1).toNat = l + far - 1 by omega]
  by_cases h : l + far ≤ pls.length
  · rw [if_pos h, aboutP_length]
  · rw [if_neg h, getD_out (by omega)]
theorem hOf_fold (pls : List Pile) (o : Bool) {l : Nat} (h1 : 1 ≤ l) (h2 : l < pls.length) : hOf (foldP pls o l) = foldH pls.length (hOf pls) l := by
  funext x
  have hw := widP_eq pls (Nat.le_of_lt h2)
  have hs := fold_shift (pls.length : Int) (l : Int)
  unfold foldH
  by_cases hx : x < 0 ∨ foldW pls.length l ≤ x
  · rw [if_pos hx]
    rcases hx with h | h
    · unfold hOf; rw [if_pos h]
    · have hx0 : 0 ≤ x := by omega
      unfold hOf
      rw [if_neg (by omega), getD_out (by rw [foldP_length]; omega)]; rfl
  · rw [if_neg hx]
    have hx' : ¬ x < 0 := fun z => hx (.inl z)
    have hlt : x.toNat < widP pls l := by omega
    have e : hOf (foldP pls o l) x = (((foldP pls o l).getD x.toNat []).length : Int) := by unfold hOf; rw [if_neg hx']
    rw [e, foldP_at _ _ _ _ hlt, colP_length, Int.natCast_add, restP_length, comesP_length _ _ _ (by omega)]
    rw [show (l : Int) - ((widP pls l - x.toNat : Nat) : Int) = x - shiftOf pls.length l by omega, show (l : Int) + ((widP pls l - x.toNat : Nat) : Int) - 1 = 2 * (l : Int) - 1 - (x - shiftOf pls.length l) by omega]
theorem turnP_length (pls : List Pile) : (turnP pls).length = pls.length := by unfold turnP; rw [List.length_map, List.length_reverse]
theorem hOf_turn (pls : List Pile) (h : 1 ≤ pls.length) : hOf (turnP pls) = foldH pls.length (hOf pls) 0 := by
  funext x
  have hw : foldW (pls.length : Int) 0 = pls.length := by unfold foldW; rw [if_pos (by omega)]; omega
  have hs : shiftOf (pls.length : Int) 0 = pls.length := by unfold shiftOf; rw [if_pos (by omega)]; omega
  unfold foldH
  rw [hw, hs]
  by_cases hx : x < 0 ∨ (pls.length : Int) ≤ x
  · rw [if_pos hx]
    rcases hx with h | h
    · unfold hOf; rw [if_pos h]
    · unfold hOf
      rw [if_neg (by omega), getD_out (by rw [turnP_length]; omega)]; rfl
  · rw [if_neg hx]
    have e0 : hOf pls (x - pls.length) = 0 := by unfold hOf; rw [if_pos (by omega)]
    rw [e0, Int.zero_add]
    unfold hOf
    rw [if_neg (by omega), if_neg (by omega)]
    have hxl : x.toNat < pls.length := by omega
    rw [show (2 * 0 - 1 - (x - (pls.length : Int))).toNat = pls.length - 1 - x.toNat by omega]
    have e1 : (turnP pls)[x.toNat]? = some (aboutP (pls.getD (pls.length - 1 - x.toNat) [])) := by
      unfold turnP
      rw [List.getElem?_map, List.getElem?_reverse hxl]
      have h2 : pls.length - 1 - x.toNat < pls.length := by omega
      rw [List.getElem?_eq_getElem h2]
      show some (aboutP _) = _
      rw [List.getD_eq_getElem?_getD, List.getElem?_eq_getElem h2]; rfl
    rw [List.getD_eq_getElem?_getD, e1]
    show ((aboutP _).length : Int) = _
    rw [aboutP_length]
/-- no pile is higher than so many -/
def Low (B : Nat) (pls : List Pile) : Prop := ∀ p ∈ pls, p.length ≤ B
theorem low_getD {B : Nat} {pls : List Pile} (h : Low B pls) (i : Nat) : (pls.getD i []).length ≤ B := by
  by_cases hi : i < pls.length
  · rw [List.getD_eq_getElem?_getD, List.getElem?_eq_getElem hi]
    exact h _ (List.getElem_mem hi)
  · rw [getD_out (by omega)]; exact Nat.zero_le _
theorem low_rest {B : Nat} {pls : List Pile} (h : Low B pls) (l far : Nat) : (restP pls l far).length ≤ B := by
  unfold restP; split
  · exact low_getD h _
  · exact Nat.zero_le _
theorem low_comes {B : Nat} {pls : List Pile} (h : Low B pls) (l far : Nat) : (comesP pls l far).length ≤ B := by
  unfold comesP; split
  · rw [aboutP_length]; exact low_getD h _
  · exact Nat.zero_le _
theorem low_fold {B : Nat} {pls : List Pile} (h : Low B pls) (o : Bool) (l : Nat) : Low (2 * B) (foldP pls o l) := by
  intro p hp
  unfold foldP foundP at hp
  obtain ⟨k, _, rfl⟩ := List.mem_map.mp (List.mem_reverse.mp hp)
  rw [colP_length]
  have h1 := low_rest h l (k + 1)
  have h2 := low_comes h l (k + 1)
  omega
theorem low_turn {B : Nat} {pls : List Pile} (h : Low B pls) : Low (2 * B) (turnP pls) := by
  intro p hp
  unfold turnP at hp
  obtain ⟨q, hq, rfl⟩ := List.mem_map.mp hp
  rw [aboutP_length]
  have := h q (List.mem_reverse.mp hq)
  omega
def flatP (n : Nat) : List Pile := (List.range n).map fun (p : Nat) => [((p : Int), true)]
theorem hOf_flat (n : Nat) : hOf (flatP n) = fun x => if x < 0 ∨ (n : Int) ≤ x then 0 else 1 := by
  funext x
  unfold hOf flatP
  by_cases h0 : x < 0
  · rw [if_pos h0, if_pos (.inl h0)]
  · rw [if_neg h0]
    by_cases h1 : (n : Int) ≤ x
    · rw [if_pos (.inr h1), getD_out (by rw [List.length_map, List.length_range]; omega)]; rfl
    · rw [if_neg (show ¬ (x < 0 ∨ (n : Int) ≤ x) by omega), List.getD_eq_getElem?_getD, List.getElem?_map, List.getElem?_range (show x.toNat < n by omega)]; rfl
end Fv

/-! where a layer lies in piles, and where it comes to -/
namespace Fv
structure Run where
  c : Int
  a : Int
  b : Int
  t : Bool
def carryR (w : Int) (h : Ht) (l : Int) (o : Bool) (r : Run) : Run :=
  if l ≤ r.c then (if o = true then ⟨2 * l - 1 - r.c + shiftOf w l, r.b, r.a + h (2 * l - 1 - r.c), !r.t⟩ else ⟨2 * l - 1 - r.c + shiftOf w l, r.b + h (2 * l - 1 - r.c), r.a, !r.t⟩)
  else (if o = true then ⟨r.c + shiftOf w l, r.a + h (2 * l - 1 - r.c), r.b, r.t⟩ else ⟨r.c + shiftOf w l, r.a, r.b + h (2 * l - 1 - r.c), r.t⟩)
structure LiesAt (pls : List Pile) (x : Int) (r : Run) (c a : Nat) (pile : Pile) : Prop where
  hc : r.c = (c : Int)
  ha : r.a = (a : Int)
  hp : pls[c]? = some pile
  hx : pile[a]? = some (x, !r.t)
  hb : r.b = (pile.length : Int) - 1 - (a : Int)
def Lies (pls : List Pile) (x : Int) (r : Run) : Prop := ∃ c a pile, LiesAt pls x r c a pile
def Uniq (pls : List Pile) : Prop := ∀ (x : Int) (c a c' a' : Nat) (p p' : Pile) (f f' : Bool), pls[c]? = some p → p[a]? = some (x, f) → pls[c']? = some p' → p'[a']? = some (x, f') → c = c' ∧ a = a'
theorem lies_uniq {pls : List Pile} {x : Int} {r r' : Run} (u : Uniq pls) (h : Lies pls x r) (h' : Lies pls x r') : r = r' := by
  obtain ⟨c, a, p, h1, h2, h3, h4, h5⟩ := h
  obtain ⟨c', a', p', g1, g2, g3, g4, g5⟩ := h'
  obtain ⟨rfl, rfl⟩ := u x c a c' a' p p' _ _ h3 h4 g3 g4
  obtain rfl : p = p' := Option.some.inj (h3.symm.trans g3)
  have e := Option.some.inj (h4.symm.trans g4)
  have e2 : (!r.t) = !r'.t := (Prod.mk.inj e).2
  have e3 : r.t = r'.t := by
    generalize r.t = s at e2 ⊢
    generalize r'.t = s' at e2 ⊢
    cases s <;> cases s' <;> simp_all
  obtain ⟨rc, ra, rb, rt⟩ := r
  obtain ⟨sc, sa, sb, st⟩ := r'
  simp only at h1 h2 h5 g1 g2 g5 e3
  subst e3
  rw [h1, h2, h5, g1, g2, g5]
theorem uniq_of_back {pls pls' : List Pile} (f : Run → Run) (u : Uniq pls)
    (back : ∀ (x : Int) (c a : Nat) (p : Pile) (k : Bool), pls'[c]? = some p → p[a]? = some (x, k) → ∃ r, Lies pls x r ∧ (f r).c = (c : Int) ∧ (f r).a = (a : Int)) : Uniq pls' := by
  intro x c a c' a' p p' k k' h1 h2 h3 h4
  obtain ⟨r, l1, e1, e2⟩ := back x c a p k h1 h2
  obtain ⟨r', l2, e3, e4⟩ := back x c' a' p' k' h3 h4
  obtain rfl := lies_uniq u l1 l2
  exact ⟨by omega, by omega⟩
theorem about_at {p : Pile} {j : Nat} (h : j < p.length) : (aboutP p)[j]? = (p[p.length - 1 - j]?).map fun q => (q.1, !q.2) := by
  unfold aboutP
  rw [List.getElem?_map, List.getElem?_reverse h]
theorem getD_of {pls : List Pile} {c : Nat} {p : Pile} (h : pls[c]? = some p) : pls.getD c [] = p := by
  rw [List.getD_eq_getElem?_getD, h]; rfl
theorem fold_get {pls : List Pile} {o : Bool} {l x : Nat} (h : x < widP pls l) : (foldP pls o l)[x]? = some (colP pls o l (widP pls l - x)) := by
  unfold foldP foundP
  rw [List.getElem?_reverse (by rw [List.length_map, List.length_range]; exact h), List.length_map, List.length_range, List.getElem?_map, List.getElem?_range (by omega)]
  show some (colP pls o l (widP pls l - 1 - x + 1)) = _
  rw [show widP pls l - 1 - x + 1 = widP pls l - x by omega]
theorem lies_turn {pls : List Pile} {x : Int} {r : Run} (h : Lies pls x r) : Lies (turnP pls) x (carryR pls.length (hOf pls) 0 true r) := by
  obtain ⟨c, a, p, h1, h2, h3, h4, h5⟩ := h
  have hcl : c < pls.length := (List.getElem?_eq_some_iff.mp h3).1
  have hal : a < p.length := (List.getElem?_eq_some_iff.mp h4).1
  have hs : shiftOf (pls.length : Int) 0 = pls.length := by unfold shiftOf; rw [if_pos (by omega)]; omega
  have hz : hOf pls (2 * 0 - 1 - r.c) = 0 := by unfold hOf; rw [if_pos (by omega)]
  have e : carryR pls.length (hOf pls) 0 true r = ⟨(pls.length : Int) - 1 - c, p.length - 1 - a, a, !r.t⟩ := by
    unfold carryR
    rw [if_pos (by omega), if_pos rfl, hz, hs, h1, h2, h5]
    congr 1 <;> omega
  rw [e]
  refine ⟨pls.length - 1 - c, p.length - 1 - a, aboutP p, ?_, ?_, ?_, ?_, ?_⟩
  · show (pls.length : Int) - 1 - c = _; omega
  · show (p.length : Int) - 1 - a = _; omega
  · unfold turnP
    rw [List.getElem?_map, List.getElem?_reverse (by omega), show pls.length - 1 - (pls.length - 1 - c) = c by omega, h3]; rfl
  · rw [about_at (by omega), show p.length - 1 - (p.length - 1 - a) = a by omega, h4]; rfl
  · show (a : Int) = _
    rw [aboutP_length]; omega
theorem back_turn {pls : List Pile} (x : Int) (c a : Nat) (p : Pile) (k : Bool) (h1 : (turnP pls)[c]? = some p) (h2 : p[a]? = some (x, k)) :
    ∃ r, Lies pls x r ∧ (carryR pls.length (hOf pls) 0 true r).c = (c : Int) ∧ (carryR pls.length (hOf pls) 0 true r).a = (a : Int) := by
  have hcl : c < pls.length := by
    have := (List.getElem?_eq_some_iff.mp h1).1
    rw [turnP_length] at this; exact this
  unfold turnP at h1
  rw [List.getElem?_map, List.getElem?_reverse hcl, List.getElem?_eq_getElem (by omega)] at h1
  obtain rfl := (Option.some.inj h1).symm
  generalize hq : pls[pls.length - 1 - c] = q at *
  have hq' : pls[pls.length - 1 - c]? = some q := by rw [← hq]; exact List.getElem?_eq_getElem _
  have hal : a < q.length := by
    have := (List.getElem?_eq_some_iff.mp h2).1
    rw [aboutP_length] at this; exact this
  rw [about_at hal, List.getElem?_eq_getElem (by omega)] at h2
  have e := Option.some.inj h2
  have e1 : (q[q.length - 1 - a]).1 = x := congrArg Prod.fst e
  have hs : shiftOf (pls.length : Int) 0 = pls.length := by unfold shiftOf; rw [if_pos (by omega)]; omega
  refine ⟨⟨((pls.length - 1 - c : Nat) : Int), ((q.length - 1 - a : Nat) : Int), (a : Int), !(q[q.length - 1 - a]).2⟩, ⟨pls.length - 1 - c, q.length - 1 - a, q, rfl, rfl, hq', ?_, ?_⟩, ?_, ?_⟩
  · rw [List.getElem?_eq_getElem (by omega)]
    show some q[q.length - 1 - a] = some (x, !!(q[q.length - 1 - a]).2)
    rw [Bool.not_not, ← e1]
  · show (a : Int) = _; omega
  · unfold carryR
    rw [if_pos (by show (0 : Int) ≤ ((pls.length - 1 - c : Nat) : Int); omega), if_pos rfl]
    show 2 * 0 - 1 - ((pls.length - 1 - c : Nat) : Int) + shiftOf _ 0 = _
    rw [hs]; omega
  · unfold carryR
    rw [if_pos (by show (0 : Int) ≤ ((pls.length - 1 - c : Nat) : Int); omega), if_pos rfl]
theorem wid_shift {pls : List Pile} {l : Nat} (h : l ≤ pls.length) : (widP pls l : Int) = l + shiftOf pls.length l := by
  have h1 := widP_eq pls h
  have h2 := fold_shift (pls.length : Int) (l : Int)
  omega
theorem hOf_nat {pls : List Pile} {z : Int} {j : Nat} (h : z = (j : Int)) : hOf pls z = ((pls.getD j []).length : Int) := by
  subst h
  unfold hOf
  rw [if_neg (by omega), Int.toNat_natCast]
/-- a layer that stays: the column far from the line -/
theorem lies_fold {pls : List Pile} {o : Bool} {l : Nat} {x : Int} {r : Run} (h1' : 1 ≤ l) (h2' : l < pls.length) (h : Lies pls x r) : Lies (foldP pls o l) x (carryR pls.length (hOf pls) l o r) := by
  obtain ⟨c, a, p, h1, h2, h3, h4, h5⟩ := h
  have hcl : c < pls.length := (List.getElem?_eq_some_iff.mp h3).1
  have hal : a < p.length := (List.getElem?_eq_some_iff.mp h4).1
  have hw := wid_shift (Nat.le_of_lt h2')
  have hW : pls.length - l ≤ widP pls l ∧ l ≤ widP pls l := by unfold widP; split <;> omega
  have hgp := getD_of h3
  by_cases hcl2 : (l : Int) ≤ r.c
  · -- it rides
    have hlc : l ≤ c := by omega
    have hfar : widP pls l - (widP pls l - (c - l + 1)) = c - l + 1 := by omega
    have hcome : comesP pls l (c - l + 1) = aboutP p := by
      unfold comesP
      rw [if_pos (by omega), show l + (c - l + 1) - 1 = c by omega, hgp]
    have hrest : ((restP pls l (c - l + 1)).length : Int) = hOf pls (2 * l - 1 - r.c) := by
      rw [restP_length]; congr 1; omega
    have hget : (aboutP p)[p.length - 1 - a]? = some (x, r.t) := by
      rw [about_at (by omega), show p.length - 1 - (p.length - 1 - a) = a by omega, h4]
      show some (x, !!r.t) = _
      rw [Bool.not_not]
    unfold carryR
    rw [if_pos hcl2]
    cases o with
    | true =>
      rw [if_pos rfl]
      refine ⟨widP pls l - (c - l + 1), p.length - 1 - a, colP pls true l (c - l + 1), by show 2 * (l : Int) - 1 - r.c + _ = _; omega, by show r.b = _; omega, by rw [fold_get (by omega), hfar], ?_, ?_⟩
      · show (if true = true then comesP pls l (c - l + 1) ++ restP pls l (c - l + 1) else _)[_]? = some (x, !!r.t)
        rw [if_pos rfl, hcome, List.getElem?_append_left (by rw [aboutP_length]; omega), hget, Bool.not_not]
      · show r.a + hOf pls (2 * l - 1 - r.c) = _
        rw [colP_length, hcome, aboutP_length, ← hrest]; omega
    | false =>
      rw [if_neg (by decide)]
      refine ⟨widP pls l - (c - l + 1), (restP pls l (c - l + 1)).length + (p.length - 1 - a), colP pls false l (c - l + 1), by show 2 * (l : Int) - 1 - r.c + _ = _; omega, by show r.b + hOf pls (2 * l - 1 - r.c) = _; rw [← hrest]; omega, by rw [fold_get (by omega), hfar], ?_, ?_⟩
      · show (if false = true then _ else restP pls l (c - l + 1) ++ comesP pls l (c - l + 1))[_]? = some (x, !!r.t)
        rw [if_neg (by decide), hcome, List.getElem?_append_right (by omega), show (restP pls l (c - l + 1)).length + (p.length - 1 - a) - (restP pls l (c - l + 1)).length = p.length - 1 - a by omega, hget, Bool.not_not]
      · show r.a = _
        rw [colP_length, hcome, aboutP_length]; omega
  · -- it stays
    have hlc : c < l := by omega
    have hfar : widP pls l - (widP pls l - (l - c)) = l - c := by omega
    have hrest : restP pls l (l - c) = p := by
      unfold restP
      rw [if_pos (by omega), show l - (l - c) = c by omega, hgp]
    have hcome : ((comesP pls l (l - c)).length : Int) = hOf pls (2 * l - 1 - r.c) := by
      rw [comesP_length _ _ _ (by omega)]; congr 1; omega
    unfold carryR
    rw [if_neg hcl2]
    cases o with
    | true =>
      rw [if_pos rfl]
      refine ⟨widP pls l - (l - c), (comesP pls l (l - c)).length + a, colP pls true l (l - c), by show r.c + _ = _; omega, by show r.a + hOf pls (2 * l - 1 - r.c) = _; rw [← hcome]; omega, by rw [fold_get (by omega), hfar], ?_, ?_⟩
      · show (if true = true then comesP pls l (l - c) ++ restP pls l (l - c) else _)[_]? = some (x, !r.t)
        rw [if_pos rfl, List.getElem?_append_right (by omega), show (comesP pls l (l - c)).length + a - (comesP pls l (l - c)).length = a by omega, hrest, h4]
      · show r.b = _
        rw [colP_length, hrest]; omega
    | false =>
      rw [if_neg (by decide)]
      refine ⟨widP pls l - (l - c), a, colP pls false l (l - c), by show r.c + _ = _; omega, by show r.a = _; omega, by rw [fold_get (by omega), hfar], ?_, ?_⟩
      · show (if false = true then _ else restP pls l (l - c) ++ comesP pls l (l - c))[_]? = some (x, !r.t)
        rw [if_neg (by decide), List.getElem?_append_left (by rw [hrest]; omega), hrest, h4]
      · show r.b + hOf pls (2 * l - 1 - r.c) = _
        rw [colP_length, hrest, ← hcome]; omega
theorem back_fold {pls : List Pile} {o : Bool} {l : Nat} (h1' : 1 ≤ l) (h2' : l < pls.length) (x : Int) (c a : Nat) (p : Pile) (k : Bool) (h1 : (foldP pls o l)[c]? = some p) (h2 : p[a]? = some (x, k)) :
    ∃ r, Lies pls x r ∧ (carryR pls.length (hOf pls) l o r).c = (c : Int) ∧ (carryR pls.length (hOf pls) l o r).a = (a : Int) := by
  have hcl : c < widP pls l := by
    have := (List.getElem?_eq_some_iff.mp h1).1
    rw [foldP_length] at this; exact this
  have hw := wid_shift (Nat.le_of_lt h2')
  rw [fold_get hcl] at h1
  obtain rfl := (Option.some.inj h1).symm
  generalize hf : widP pls l - c = far at *
  have hf1 : 1 ≤ far := by omega
  -- where the layer was: in the part that stays, or in the one that rides
  have stays : ∀ j : Nat, (restP pls l far)[j]? = some (x, k) → (o = true → a = (comesP pls l far).length + j) → (o = false → a = j) → ∃ r, Lies pls x r ∧ (carryR pls.length (hOf pls) l o r).c = (c : Int) ∧ (carryR pls.length (hOf pls) l o r).a = (a : Int) := by
    intro j hj ht hfa
    have hle : far ≤ l := by
      unfold restP at hj
      by_cases z : far ≤ l
      · exact z
      · rw [if_neg z] at hj; simp at hj
    have hlt : l - far < pls.length := by omega
    have hr : restP pls l far = pls[l - far] := by
      unfold restP
      rw [if_pos hle, List.getD_eq_getElem?_getD, List.getElem?_eq_getElem hlt]; rfl
    rw [hr] at hj
    have hcome := comesP_length pls l far hf1
    refine ⟨⟨((l - far : Nat) : Int), (j : Int), ((pls[l - far]).length : Int) - 1 - (j : Int), !k⟩, ⟨l - far, j, pls[l - far], rfl, rfl, List.getElem?_eq_getElem hlt, by show _ = some (x, !!k); rw [Bool.not_not]; exact hj, rfl⟩, ?_, ?_⟩
    · unfold carryR
      rw [if_neg (by show ¬ (l : Int) ≤ ((l - far : Nat) : Int); omega)]
      cases o
      · rw [if_neg (by decide)]; show ((l - far : Nat) : Int) + _ = _; omega
      · rw [if_pos rfl]; show ((l - far : Nat) : Int) + _ = _; omega
    · unfold carryR
      rw [if_neg (by show ¬ (l : Int) ≤ ((l - far : Nat) : Int); omega)]
      cases o
      · rw [if_neg (by decide)]; show (j : Int) = _; rw [hfa rfl]
      · rw [if_pos rfl]; show (j : Int) + hOf pls (2 * l - 1 - ((l - far : Nat) : Int)) = _
        rw [ht rfl, show (2 * (l : Int) - 1 - ((l - far : Nat) : Int)) = (l : Int) + far - 1 by omega, ← hcome]; omega
  have rides : ∀ j : Nat, (comesP pls l far)[j]? = some (x, k) → (o = true → a = j) → (o = false → a = (restP pls l far).length + j) → ∃ r, Lies pls x r ∧ (carryR pls.length (hOf pls) l o r).c = (c : Int) ∧ (carryR pls.length (hOf pls) l o r).a = (a : Int) := by
    intro j hj ht hfa
    have hle : l + far ≤ pls.length := by
      unfold comesP at hj
      by_cases z : l + far ≤ pls.length
      · exact z
      · rw [if_neg z] at hj; simp at hj
    have hlt : l + far - 1 < pls.length := by omega
    have hr : comesP pls l far = aboutP pls[l + far - 1] := by
      unfold comesP
      rw [if_pos hle, List.getD_eq_getElem?_getD, List.getElem?_eq_getElem hlt]; rfl
    rw [hr] at hj
    generalize hq : pls[l + far - 1] = q at *
    have hjl : j < q.length := by
      have := (List.getElem?_eq_some_iff.mp hj).1
      rw [aboutP_length] at this; exact this
    rw [about_at hjl, List.getElem?_eq_getElem (by omega)] at hj
    have e := Option.some.inj hj
    have e1 : (q[q.length - 1 - j]).1 = x := congrArg Prod.fst e
    have hrest := restP_length pls l far
    refine ⟨⟨((l + far - 1 : Nat) : Int), ((q.length - 1 - j : Nat) : Int), (j : Int), !(q[q.length - 1 - j]).2⟩, ⟨l + far - 1, q.length - 1 - j, q, rfl, rfl, by rw [← hq]; exact List.getElem?_eq_getElem hlt, ?_, by show (j : Int) = _; omega⟩, ?_, ?_⟩
    · rw [List.getElem?_eq_getElem (by omega)]
      show some q[q.length - 1 - j] = some (x, !!(q[q.length - 1 - j]).2)
      rw [Bool.not_not, ← e1]
    · unfold carryR
      rw [if_pos (by show (l : Int) ≤ ((l + far - 1 : Nat) : Int); omega)]
      cases o
      · rw [if_neg (by decide)]; show 2 * (l : Int) - 1 - ((l + far - 1 : Nat) : Int) + _ = _; omega
      · rw [if_pos rfl]; show 2 * (l : Int) - 1 - ((l + far - 1 : Nat) : Int) + _ = _; omega
    · unfold carryR
      rw [if_pos (by show (l : Int) ≤ ((l + far - 1 : Nat) : Int); omega)]
      cases o
      · rw [if_neg (by decide)]; show (j : Int) + hOf pls (2 * l - 1 - ((l + far - 1 : Nat) : Int)) = _
        rw [hfa rfl, show (2 * (l : Int) - 1 - ((l + far - 1 : Nat) : Int)) = (l : Int) - far by omega, ← hrest]; omega
      · rw [if_pos rfl]; show (j : Int) = _; rw [ht rfl]
  cases o with
  | true =>
    have h2' : (comesP pls l far ++ restP pls l far)[a]? = some (x, k) := h2
    by_cases hz : a < (comesP pls l far).length
    · rw [List.getElem?_append_left hz] at h2'
      exact rides a h2' (fun _ => rfl) (fun z => by cases z)
    · rw [List.getElem?_append_right (by omega)] at h2'
      exact stays _ h2' (fun _ => by omega) (fun z => by cases z)
  | false =>
    have h2' : (restP pls l far ++ comesP pls l far)[a]? = some (x, k) := h2
    by_cases hz : a < (restP pls l far).length
    · rw [List.getElem?_append_left hz] at h2'
      exact stays a h2' (fun z => by cases z) (fun _ => rfl)
    · rw [List.getElem?_append_right (by omega)] at h2'
      exact rides _ h2' (fun z => by cases z) (fun _ => by omega)
theorem uniq_turn {pls : List Pile} (u : Uniq pls) : Uniq (turnP pls) := uniq_of_back _ u back_turn
theorem uniq_fold {pls : List Pile} {o : Bool} {l : Nat} (h1 : 1 ≤ l) (h2 : l < pls.length) (u : Uniq pls) : Uniq (foldP pls o l) := uniq_of_back _ u (back_fold h1 h2)
theorem uniq_flat (n : Nat) : Uniq (flatP n) := by
  intro x c a c' a' p p' f f' h1 h2 h3 h4
  have key : ∀ (c a : Nat) (p : Pile) (f : Bool), (flatP n)[c]? = some p → p[a]? = some (x, f) → (c : Int) = x ∧ a = 0 := by
    intro c a p f h1 h2
    have hc : c < n := by
      have := (List.getElem?_eq_some_iff.mp h1).1
      unfold flatP at this
      rw [List.length_map, List.length_range] at this; exact this
    unfold flatP at h1
    rw [List.getElem?_map, List.getElem?_range hc] at h1
    obtain rfl := (Option.some.inj h1).symm
    have ha : a = 0 := by have := (List.getElem?_eq_some_iff.mp h2).1; simp at this; exact this
    subst ha
    have := Option.some.inj h2
    exact ⟨(Prod.mk.inj this).1, rfl⟩
  obtain ⟨e1, rfl⟩ := key c a p f h1 h2
  obtain ⟨e2, rfl⟩ := key c' a' p' f' h3 h4
  exact ⟨by omega, rfl⟩
theorem lies_flat {n x : Nat} (h : x < n) : Lies (flatP n) x ⟨x, 0, 0, false⟩ := by
  refine ⟨x, 0, [((x : Int), true)], rfl, rfl, ?_, rfl, rfl⟩
  unfold flatP
  rw [List.getElem?_map, List.getElem?_range h]; rfl
end Fv

namespace Fv
open PySem PySem.Spec PyProof.Rows L2
/-! ### heaps: H0 is the part of H that is never changed again -/
structure Ext (H0 H H0' H' : Hp) : Prop where
  grow : Same H0 H0'
  same : Same H H'
  sub : Same H0' H'
  new : ∀ a, H0 a = none → H0' a ≠ none → H a = none
theorem same_new {H : Hp} {p : Addr} {o : HO} (h : H p = none) : Same H (upd H p o) := fun b x e => by
  rw [upd_ne (ne_of_none e h)]
  exact e
theorem same_free {H H' : Hp} {p : Addr} (e : Same H H') (h : H' p = none) : H p = none := e.free h
theorem Ext.refl {H0 H : Hp} (s : Same H0 H) : Ext H0 H H0 H := ⟨Same.refl _, Same.refl _, s, fun a h1 h2 => absurd h1 h2⟩
theorem Ext.trans {H0 H H1 H' H2 H'' : Hp} (a : Ext H0 H H1 H') (b : Ext H1 H' H2 H'') : Ext H0 H H2 H'' :=
  ⟨a.grow.trans b.grow, a.same.trans b.same, b.sub, fun p h1 h2 => by
    by_cases h : H1 p = none
    · exact a.same.free (b.new p h h2)
    · exact a.new p h1 h⟩
theorem Ext.of {H0 H H' : Hp} (s : Same H0 H) (e : Same H H') : Ext H0 H H0 H' := ⟨Same.refl _, e, s.trans e, fun a h1 h2 => absurd h1 h2⟩
/-- an object that is made and never changed -/
theorem Ext.alloc {H0 H H1 H' : Hp} (a : Ext H0 H H1 H') {p : Addr} (o : HO) (h : H' p = none) : Ext H0 H (upd H1 p o) (upd H' p o) := by
  have h1 : H1 p = none := a.sub.free h
  refine ⟨a.grow.trans (same_new h1), a.same.trans (same_new h), fun b x e => ?_, fun b n m => ?_⟩
  · by_cases hb : b = p
    · subst hb; rw [upd_same] at e ⊢; exact e
    · rw [upd_ne hb] at e ⊢; exact a.sub b x e
  · by_cases hb : b = p
    · subst hb; exact a.same.free h
    · rw [upd_ne hb] at m; exact a.new b n m
/-- an object that is made, and may be changed -/
theorem Ext.make {H0 H H1 H' : Hp} (a : Ext H0 H H1 H') {p : Addr} (o : HO) (h : H' p = none) : Ext H0 H H1 (upd H' p o) := by
  have h1 : H1 p = none := a.sub.free h
  exact ⟨a.grow, a.same.trans (same_new h), fun b x e => by rw [upd_ne (ne_of_none e h1)]; exact a.sub b x e, a.new⟩
/-- one that was made since is changed -/
theorem Ext.mut {H0 H H1 H' : Hp} (a : Ext H0 H H1 H') {p : Addr} (o : HO) (h : H p = none) (h1 : H1 p = none) : Ext H0 H H1 (upd H' p o) :=
  ⟨a.grow, fun b x e => by rw [upd_ne (ne_of_none e h)]; exact a.same b x e, fun b x e => by rw [upd_ne (ne_of_none e h1)]; exact a.sub b x e, a.new⟩
/-- one that was made since stays as it is from now on -/
theorem Ext.keep {H0 H H1 H' : Hp} (a : Ext H0 H H1 H') {p : Addr} {o : HO} (h : H p = none) (h1 : H1 p = none) (e : H' p = some o) : Ext H0 H (upd H1 p o) H' :=
  ⟨a.grow.trans (same_new h1), a.same, fun b x q => by
    by_cases hb : b = p
    · subst hb; rw [upd_same] at q; rw [← q]; exact e
    · rw [upd_ne hb] at q; exact a.sub b x q, fun b n m => by
    by_cases hb : b = p
    · subst hb; exact h
    · rw [upd_ne hb] at m; exact a.new b n m⟩
theorem Ext.out {H0 H H1 H' : Hp} (a : Ext H0 H H1 H') {p : Addr} (h : H p ≠ none) (h0 : H0 p = none) : H1 p = none := by
  cases e : H1 p with
  | none => rfl
  | some o => exact absurd (a.new p h0 (by rw [e]; simp)) h

/-! ### data that are read -/
section
variable {K : PySem.W.Frag} {H H' : Hp}
mutual
theorem Dp.mono (e : Same H H') : ∀ {v : V} {d : PyData}, Dp K H v d → Dp K H' v d
  | _, _, .non => .non
  | _, _, .bl b => .bl b
  | _, _, .int i => .int i
  | _, _, .str x => .str x
  | _, _, .lst h r => .lst (e.seq h) (DpAll.mono e r)
  | _, _, .tup h r => .tup (sqt_same e h) (DpAll.mono e r)
theorem DpAll.mono (e : Same H H') : ∀ {vs : List V} {ds : List PyData}, DpAll K H vs ds → DpAll K H' vs ds
  | _, _, .nil => .nil
  | _, _, .cons h r => .cons (Dp.mono e h) (DpAll.mono e r)
theorem sqt_same (e : Same H H') {a : Addr} {xs : List V} (h : SqT K H a xs) : SqT K H' a xs := by
  rcases h with (h | ⟨o, h⟩) | h
  · exact .inl (.inl (e _ _ h))
  · exact .inl (.inr ⟨o, e _ _ h⟩)
  · exact .inr h
end
theorem Dp.inv_int {v : V} {i : Int} (h : Dp K H v (.int i)) : v = .int i := by cases h; rfl
theorem Dp.inv_bl {v : V} {b : Bool} (h : Dp K H v (.bool b)) : v = .bl b := by cases h; rfl
theorem Dp.inv_str {v : V} {x : Str} (h : Dp K H v (.str x)) : v = .str x := by cases h; rfl
theorem Dp.inv_lst {v : V} {ds : List PyData} (h : Dp K H v (.list ds)) : ∃ a xs, v = .ref a ∧ SqL K H a xs ∧ DpAll K H xs ds := by
  cases h with | lst h r => exact ⟨_, _, rfl, h, r⟩
theorem Dp.inv_tup {v : V} {ds : List PyData} (h : Dp K H v (.tuple ds)) : ∃ a xs, v = .ref a ∧ SqT K H a xs ∧ DpAll K H xs ds := by
  cases h with | tup h r => exact ⟨_, _, rfl, h, r⟩
theorem DpAll.inv_cons {vs : List V} {d : PyData} {ds : List PyData} (h : DpAll K H vs (d :: ds)) : ∃ v r, vs = v :: r ∧ Dp K H v d ∧ DpAll K H r ds := by
  cases h with | cons h r => exact ⟨_, _, rfl, h, r⟩
theorem DpAll.inv_nil {vs : List V} (h : DpAll K H vs []) : vs = [] := by cases h; rfl
theorem DpAll.length : ∀ {vs : List V} {ds : List PyData}, DpAll K H vs ds → vs.length = ds.length
  | _, _, .nil => rfl
  | _, _, .cons _ r => congrArg (· + 1) (DpAll.length r)
theorem DpAll.at : ∀ {vs : List V} {ds : List PyData}, DpAll K H vs ds → ∀ {i : Nat} {v : V}, vs[i]? = some v → ∃ d, ds[i]? = some d ∧ Dp K H v d
  | _, _, .nil, _, _, h => by simp at h
  | _, _, .cons h r, 0, _, e => ⟨_, rfl, by have := Option.some.inj e; rw [← this]; exact h⟩
  | _, _, .cons _ r, i + 1, _, e => DpAll.at r (i := i) e
theorem DpAll.of : ∀ {vs : List V} {ds : List PyData}, DpAll K H vs ds → ∀ {i : Nat} {d : PyData}, ds[i]? = some d → ∃ v, vs[i]? = some v ∧ Dp K H v d
  | _, _, .nil, _, _, h => by simp at h
  | _, _, .cons h r, 0, _, e => ⟨_, rfl, by have := Option.some.inj e; rw [← this]; exact h⟩
  | _, _, .cons _ r, i + 1, _, e => DpAll.of r (i := i) e
theorem DpAll.app : ∀ {vs ws : List V} {ds es : List PyData}, DpAll K H vs ds → DpAll K H ws es → DpAll K H (vs ++ ws) (ds ++ es)
  | _, _, _, _, .nil, h => h
  | _, _, _, _, .cons h r, q => .cons h (DpAll.app r q)
theorem DpAll.one {v : V} {d : PyData} (h : Dp K H v d) : DpAll K H [v] [d] := .cons h .nil
theorem DpAll.ints : ∀ (ns : List Int), DpAll K H (ns.map V.int) (ns.map PyData.int)
  | [] => .nil
  | n :: r => .cons (.int n) (DpAll.ints r)
theorem Dp.lst_of {a : Addr} {xs : List V} {ds : List PyData} (h : H a = some (.lst xs)) (r : DpAll K H xs ds) : Dp K H (.ref a) (.list ds) := .lst (SqL.of h) r
theorem Dp.tup_of {a : Addr} {xs : List V} {ds : List PyData} (h : H a = some (.tup xs)) (r : DpAll K H xs ds) : Dp K H (.ref a) (.tuple ds) := .tup (SqT.of h) r
theorem DpAll.take : ∀ (n : Nat) {vs : List V} {ds : List PyData}, DpAll K H vs ds → DpAll K H (vs.take n) (ds.take n)
  | 0, _, _, _ => .nil
  | n + 1, _, _, .nil => .nil
  | n + 1, _, _, .cons h r => .cons h (DpAll.take n r)
theorem DpAll.drop : ∀ (n : Nat) {vs : List V} {ds : List PyData}, DpAll K H vs ds → DpAll K H (vs.drop n) (ds.drop n)
  | 0, _, _, h => h
  | n + 1, _, _, .nil => .nil
  | n + 1, _, _, .cons _ r => DpAll.drop n r
theorem DpAll.rev {vs : List V} {ds : List PyData} (h : DpAll K H vs ds) : DpAll K H vs.reverse ds.reverse := by
  induction h using DpAll.rec (motive_1 := fun _ _ _ => True) with
  | nil => exact .nil
  | cons h r _ ih => rw [List.reverse_cons, List.reverse_cons]; exact DpAll.app ih (DpAll.one h)
  | _ => trivial
/-- the type's name -/
def tyD : PyData → String
  | .none => "NoneType" | .bool _ => "bool" | .int _ => "int" | .str _ => "str" | .list _ => "list" | .tuple _ => "tuple" | .dict _ => "dict"
theorem Dp.ty {v : V} {d : PyData} (h : Dp K H v d) : TyB K H v (tyD d) := by
  cases h with
  | non => exact .non
  | bl b => exact .bl b
  | int i => exact .int i
  | str x => exact .str x
  | lst h _ => exact .lst h
  | tup h _ => exact .tup h
end
end Fv

namespace Fv
open PySem PySem.Spec PyProof.Rows L2
/-- a def of the text, as it stands behind the top -/
def DefAt (K : PySem.W.Frag) (mg : Str → Option Value) (nm : Str) (st : Stmt) (ps : List Str) : Prop :=
  ∃ (f : Addr) (fd : FuncData), mg nm = some (.ref f) ∧ Fun K nm nm st f fd ∧ Binds K fd ps []
/-- a def that keeps its promise -/
def Good (P : Program) (w : World) (K : PySem.W.Frag) (mg : Str → Option Value) (base : Heap) (k : Nat) (nm : Str) (ps : List Str) (sp : Sp) : Prop :=
  ∃ (f : Addr) (fd : FuncData), mg nm = some (.ref f) ∧ PySem.W.keepIn K (.ref f) = true ∧ Binds K fd ps [] ∧ FnOk P w K mg base CX0 k f fd ps sp
section
variable {P : Program} {w : World} {K : PySem.W.Frag} {mg : Str → Option Value} {base : Heap}
theorem Good.of {nm : Str} {st : Stmt} {N ps : List Str} {k : Nat} {sp : Sp} (D : DefAt K mg nm st ps) (S : FnScope N ps (defScope st)) (len : ∀ vs H Q E, sp vs H Q E → vs.length = ps.length)
    (hbody : ∀ (f : Addr) (cdv : Value) (A : Around) (outer : List Env) (s : Shared) (H : Hp) (vs : List V) (Q : VK) (E : XK), Room k (A.deeper (envOfC nm (defScope st) s.heap.objs.size f cdv)) → sp vs H Q E →
      ∃ t, PSs (cxOf CX0 P w K mg base N nm (defScope st) f cdv A outer s H E).nox (defBody st) t ∧ t { nx := fun _ H' => Q .non H', rt := Q } (start N vs) H) :
    Good P w K mg base (k + 1) nm ps sp := by
  obtain ⟨f, fd, hm, F, hb⟩ := D
  exact ⟨f, fd, hm, F.kp, hb, F.ok S len fun cdv A outer s H vs Q E hr h => hbody f cdv A outer s H vs Q E hr h⟩
theorem Good.mono {j k : Nat} {nm : Str} {ps : List Str} {sp : Sp} (h : Good P w K mg base j nm ps sp) (hk : j ≤ k) : Good P w K mg base k nm ps sp := by
  obtain ⟨f, fd, a, b, c, d⟩ := h
  exact ⟨f, fd, a, b, c, d.mono hk⟩
end
/-- the names of Python that the text does not bind -/
structure Bi (mg : Str → Option Value) : Prop where
  n_type : mg "type" = none
  n_int : mg "int" = none
  n_str : mg "str" = none
  n_list : mg "list" = none
  n_tuple : mg "tuple" = none
  n_bool : mg "bool" = none
  n_sum : mg "sum" = none
  n_max : mg "max" = none
  n_min : mg "min" = none
  n_len : mg "len" = none
  n_sorted : mg "sorted" = none
  n_range : mg "range" = none
  n_zip : mg "zip" = none
  n_reversed : mg "reversed" = none
  n_repr : mg "repr" = none
  n_isinstance : mg "isinstance" = none
  n_enumerate : mg "enumerate" = none
  n_abs : mg "abs" = none
  n_set : mg "set" = none
  n_all : mg "all" = none
  n_dict : mg "dict" = none
/-- the constants of the program: FOLDS stands at aF -/
structure Co (K : PySem.W.Frag) (mg : Str → Option Value) (tP tD : Tok) (aF : Addr) : Prop where
  c_MOST_PLACES : mg "MOST_PLACES" = some (.int (10 ^ 30) tP)
  c_MOST_DEEDS : mg "MOST_DEEDS" = some (.int 40 tD)
  c_FOLDS : mg "FOLDS" = some (.ref aF)
  folds : ∀ H : Hp, SqT K H aF [.str "over", .str "under"]
end Fv
namespace Fv
open PySem PySem.Spec PyProof.Rows L2
section
variable {CX : CXT} {P : Program} {w : World} {K : PySem.W.Frag} {mg : Str → Option Value} {base : Heap} {N : List Str} {q : Str} {sc : Scope} {f : Addr} {cd : Value} {A : Around} {o : List Env} {s : Shared} {H : Hp} {E : XK}
theorem cxK : (cxOf CX P w K mg base N q sc f cd A o s H E).K = K := rfl
theorem cxKn : (cxOf CX P w K mg base N q sc f cd A o s H E).nox.K = K := rfl
end
end Fv

namespace Fv
open PySem PySem.Spec PyProof.Rows L2
/-! ### rules of our own: a built-in type in a tuple of such -/
inductive TyN : String → Prop
  | a : TyN "int" | b : TyN "str" | c : TyN "bool" | d : TyN "NoneType" | e : TyN "list" | f : TyN "tuple" | g : TyN "dict"
theorem TyN.meta {T : String} (h : TyN T) : ∀ s' : Shared, s'.TypeIs (.type T) "type" := by
  cases h
  · exact TypeEq.meta_int
  · exact TypeEq.meta_str
  · exact TypeEq.meta_bool
  · exact TypeEq.meta_NoneType
  · exact TypeEq.meta_list
  · exact TypeEq.meta_tuple
  · exact TypeEq.meta_dict
theorem tyN_D (d : PyData) : TyN (tyD d) := by
  cases d
  · exact .d
  · exact .c
  · exact .a
  · exact .b
  · exact .e
  · exact .f
  · exact .g
theorem eqAt_ty {A : Around} {s : Shared} {S T : String} (hS : TyN S) (hT : TyN T) : SeqAt.EqAt A s (.type S) (.type T) (decide (S = T)) := by
  by_cases e : S = T
  · subst e
    rw [decide_eq_true rfl]
    exact SeqAt.EqAt.same _
  · rw [decide_eq_false e]
    intro prog w E Q hq
    have hne : (Value.type S == Value.type T) = false := by rw [ty_beq]; exact decide_eq_false e
    unfold eqBool
    refine wpAny_holding ?_
    refine wpAny_ite_split (fun hab => absurd (hne.symm.trans hab) Bool.false_ne_true) (fun _ => ?_)
    exact wpAny_bind (TypeEq.eq_type_other hS.meta hT.meta hne (wpAny_truthy_bool hq))
def eqTyU (T : String) (u : Value) : Bool := match u with
  | .type S => decide (S = T)
  | _ => false
theorem any_eqTy {T : String} : ∀ {ts : List String} {us : List Value}, Vals (ts.map V.ty) us → us.any (eqTyU T) = ts.any fun S => decide (S = T)
  | [], _, .nil => rfl
  | S :: ts, _, .cons r t => by
    cases (show _ = Value.type S from r)
    rw [List.any_cons, List.any_cons, any_eqTy t]
    rfl
theorem mem_eqTy {A : Around} {s : Shared} {T : String} (hT : TyN T) : ∀ {ts : List String} {us : List Value}, Vals (ts.map V.ty) us → (∀ S ∈ ts, TyN S) → ∀ u ∈ us, SeqAt.EqAt A s u (.type T) (eqTyU T u)
  | [], _, .nil, _ => fun u hu => by cases hu
  | S :: ts, _, .cons r t, f => fun u hu => by
    cases (show _ = Value.type S from r)
    rcases List.mem_cons.mp hu with rfl | hu
    · exact eqAt_ty (f S List.mem_cons_self) hT
    · exact mem_eqTy hT t (fun R hR => f R (List.mem_cons_of_mem _ hR)) u hu
def rInTy (K : PySem.W.Frag) : R2 := fun x y H Q => ∃ (T : String) (p : Addr) (ts : List String), x = .ty T ∧ y = .ref p ∧ SqT K H p (ts.map V.ty) ∧ TyN T ∧ (∀ S ∈ ts, TyN S) ∧ Q (.bl (ts.any fun S => decide (S = T))) H
section
variable {X : Cx}
theorem op_in_ty : OpR X (compareOp .In) (rInTy X.K) := by
  intro pins s σ H x y v u Q I rx ry h
  obtain ⟨T, p, ts, rfl, rfl, hq, hT, hts, q⟩ := h
  cases (show v = Value.type T from rx)
  cases ry
  obtain ⟨its, r, pl, hz⟩ := I.tuple hq
  refine SeqAt.in_tupleAt (eqTyU T) pl (fun w hw => mem_eqTy hT r hts w (by simpa using hw)) ⟨.bl _, H, I, rfl, ?_⟩
  rw [show its.toArray.any (eqTyU T) = its.any (eqTyU T) by simp, any_eqTy r]
  exact q
end
end Fv

namespace Fv
open PySem PySem.Spec PyProof.Rows L2
section
variable {K : PySem.W.Frag}
theorem DpAll.ints_inv {H : Hp} : ∀ {vs : List V} {ns : List Int}, DpAll K H vs (ns.map PyData.int) → vs = ns.map V.int
  | _, [], h => DpAll.inv_nil h
  | _, n :: r, h => by
    obtain ⟨v, t, rfl, h1, h2⟩ := DpAll.inv_cons h
    rw [Dp.inv_int h1, DpAll.ints_inv h2]; rfl
theorem take_more {α : Type} : ∀ {l : List α} {i : Nat} {x : α}, l[i]? = some x → l.take (i + 1) = l.take i ++ [x]
  | [], i, x, h => by simp at h
  | a :: l, 0, x, h => by
    have e : a = x := Option.some.inj h
    subst e; rfl
  | a :: l, i + 1, x, h => by
    have ih := take_more (l := l) (i := i) (x := x) h
    show a :: l.take (i + 1) = a :: l.take i ++ [x]
    rw [ih]; rfl
theorem sz_of {n : Nat} (h : n ≤ 100000) : n ≤ sizeLine := Nat.le_trans h (by decide)
theorem sz_lt {n : Nat} (h : n < 100000) : n < sizeLine := Nat.lt_of_lt_of_le h (by decide)
/-- what holds behind i turns of a comprehension whose list grows at D -/
def LcInv {α : Type} (K : PySem.W.Frag) (H0 H1 : Hp) (D : Addr) (L : List α) (keep : α → Bool) (dat : α → PyData) (i : Nat) (Hc : Hp) : Prop :=
  ∃ (H0' : Hp) (acc : List V), Ext H0 H1 H0' Hc ∧ H0' D = none ∧ Hc D = some (.lst acc) ∧ DpAll K H0' acc (((L.take i).filter keep).map dat)
theorem lcInv_start {α : Type} {H0 H1 : Hp} {D : Addr} {L : List α} {keep : α → Bool} {dat : α → PyData} (s : Same H0 H1) (hD : H1 D = none) : LcInv K H0 H1 D L keep dat 0 (upd H1 D (.lst [])) :=
  ⟨H0, [], (Ext.refl s).make _ hD, s.free hD, upd_same, .nil⟩
/-- one turn's reading: what comes of the item d at i -/
def LcTurn {α : Type} (K : PySem.W.Frag) (H0 H1 : Hp) (g : TG) (tt : TT) (te : TE) (vs : List Nat) (σ : L2.St) (keep : α → Bool) (dat : α → PyData) (d : α) (x : V) : Prop :=
  ∀ (H0' Hc : Hp), Ext H0 H1 H0' Hc → ∀ (Qy : V → Hp → Prop) (Qn : Hp → Prop), (keep d = true → ∀ y H0'' H4, Ext H0' Hc H0'' H4 → Dp K H0'' y (dat d) → Qy y H4) → (keep d = false → ∀ H0'' H3, Ext H0' Hc H0'' H3 → Qn H3) →
    g x (wipe σ vs) Hc fun σ2 H2 => wipe σ2 vs = wipe σ vs ∧ tt σ2 H2 fun b H3 => if b = true then te σ2 H3 Qy else Qn H3
theorem tg_mono {g : TG} : True := trivial
theorem lc_step {α : Type} {H0 H1 : Hp} {D : Addr} {L : List α} {keep : α → Bool} {dat : α → PyData} {g : TG} {tt : TT} {te : TE} {vs : List Nat} {σ : L2.St} {i : Nat} {x : V} {d : α} {Hc : Hp}
    (hlen : L.length < 100000) (hd : L[i]? = some d) (hD : H1 D = none) (h : LcInv K H0 H1 D L keep dat i Hc) (t : LcTurn K H0 H1 g tt te vs σ keep dat d x) :
    g x (wipe σ vs) Hc fun σ2 H2 => wipe σ2 vs = wipe σ vs ∧ tt σ2 H2 fun b H3 =>
      if b = true then te σ2 H3 fun y H4 => ∃ acc, H4 D = some (.lst acc) ∧ acc.length < sizeLine ∧ LcInv K H0 H1 D L keep dat (i + 1) (upd H4 D (.lst (acc ++ [y]))) else LcInv K H0 H1 D L keep dat (i + 1) H3 := by
  obtain ⟨H0', acc, e, n0, eD, da⟩ := h
  have hacc : acc.length < 100000 := by
    rw [DpAll.length da, List.length_map]
    have h1 := List.length_filter_le keep (L.take i)
    have h2 := List.length_take_le i L
    have h3 : (L.take i).length ≤ L.length := by rw [List.length_take]; exact Nat.min_le_right _ _
    omega
  refine t H0' Hc e _ _ (fun hk y H0'' H4 e2 dy => ⟨acc, e2.same D _ eD, sz_lt hacc, H0'', acc ++ [y], ?_, ?_, upd_same, ?_⟩) (fun hk H0'' H3 e2 => ⟨H0'', acc, e.trans e2, ?_, e2.same D _ eD, ?_⟩)
  · exact (e.trans e2).mut _ hD (e2.out (by rw [eD]; simp) n0)
  · exact e2.out (by rw [eD]; simp) n0
  · rw [take_more hd, List.filter_append, List.map_append]
    refine DpAll.app (DpAll.mono e2.grow da) ?_
    rw [show [d].filter keep = [d] by simp [hk]]
    exact DpAll.one dy
  · exact e2.out (by rw [eD]; simp) n0
  · rw [take_more hd, List.filter_append, List.map_append, show [d].filter keep = [] by simp [hk], List.map_nil, List.append_nil]
    exact DpAll.mono e2.grow da
/-- a comprehension over a list: the items stand for the data L -/
theorem lcL {α : Type} (keep : α → Bool) (dat : α → PyData) {tl : TE} {g : TG} {tt : TT} {te : TE} {vs : List Nat} {σ : L2.St} {H : Hp} {Q : VK}
    (h : tl σ H fun v H1 => ∃ (L : List α) (a : Addr) (xs : List V) (H0 : Hp), v = .ref a ∧ SqL K H1 a xs ∧ Same H0 H1 ∧ L.length = xs.length ∧ L.length < 100000 ∧
      (∀ (i : Nat) (x : V) (d : α), xs[i]? = some x → L[i]? = some d → LcTurn K H0 H1 g tt te vs σ keep dat d x) ∧
      (∀ (D : Addr) (H0' H' : Hp) (ys : List V), H1 D = none → Ext H0 H1 H0' H' → H0' D = none → H' D = some (.lst ys) → DpAll K H0' ys ((L.filter keep).map dat) → Q (.ref D) H'))
    (mono : ∀ (Q1 Q2 : VK), (∀ v H', Q1 v H' → Q2 v H') → tl σ H Q1 → tl σ H Q2) : tLc (iList K tl) g tt te vs σ H Q := by
  show tl σ H _
  refine mono _ _ ?_ h
  rintro v H1 ⟨L, a, xs, H0, rfl, hS, s0, hl, hlen, ht, hq⟩
  refine ⟨a, rfl, ⟨xs, hS⟩, fun D hD => ?_⟩
  refine lc_list (K := K) (a := a) (xs := xs) (LcInv K H0 H1 D L keep dat) (lcInv_start s0 hD) (fun i Hc _ ⟨H0', acc, e, _⟩ => e.same.seq hS) (fun i x Hc hx hinv => ?_) (fun H' hinv => ?_)
  · have hi : i < L.length := by rw [hl]; exact (List.getElem?_eq_some_iff.mp hx).1
    have hd : L[i]? = some L[i] := List.getElem?_eq_getElem hi
    exact lc_step hlen hd hD hinv (ht i x _ hx hd)
  · obtain ⟨H0', acc, e, n0, eD, da⟩ := hinv
    rw [← hl, List.take_length] at da
    exact hq D H0' H' acc hD e n0 eD da
theorem lcLv {α : Type} (L : List α) (keep : α → Bool) (dat : α → PyData) {j : Nat} {g : TG} {tt : TT} {te : TE} {vs : List Nat} {σ : L2.St} {H1 : Hp} {Q : VK} {a : Addr} {xs : List V} {H0 : Hp}
    (hv : σ[j]? = some (some (.ref a))) (hS : SqL K H1 a xs) (s0 : Same H0 H1) (hl : L.length = xs.length) (hlen : L.length < 100000)
    (ht : ∀ (i : Nat) (x : V) (d : α), xs[i]? = some x → L[i]? = some d → LcTurn K H0 H1 g tt te vs σ keep dat d x)
    (hq : ∀ (D : Addr) (H0' H' : Hp) (ys : List V), H1 D = none → Ext H0 H1 H0' H' → H0' D = none → H' D = some (.lst ys) → DpAll K H0' ys ((L.filter keep).map dat) → Q (.ref D) H') :
    tLc (iList K (tVar j)) g tt te vs σ H1 Q :=
  lcL keep dat ⟨_, hv, L, a, xs, H0, rfl, hS, s0, hl, hlen, ht, hq⟩ (fun Q1 Q2 h ⟨v, e, q⟩ => ⟨v, e, h _ _ q⟩)
/-- .. over a tuple -/
theorem lcT {α : Type} (L : List α) (keep : α → Bool) (dat : α → PyData) {tl : TE} {g : TG} {tt : TT} {te : TE} {vs : List Nat} {σ : L2.St} {H : Hp} {Q : VK}
    (h : tl σ H fun v H1 => ∃ (a : Addr) (xs : List V) (H0 : Hp), v = .ref a ∧ SqT K H1 a xs ∧ Same H0 H1 ∧ L.length = xs.length ∧ L.length < 100000 ∧
      (∀ (i : Nat) (x : V) (d : α), xs[i]? = some x → L[i]? = some d → LcTurn K H0 H1 g tt te vs σ keep dat d x) ∧
      (∀ (D : Addr) (H0' H' : Hp) (ys : List V), H1 D = none → Ext H0 H1 H0' H' → H0' D = none → H' D = some (.lst ys) → DpAll K H0' ys ((L.filter keep).map dat) → Q (.ref D) H'))
    (mono : ∀ (Q1 Q2 : VK), (∀ v H', Q1 v H' → Q2 v H') → tl σ H Q1 → tl σ H Q2) : tLc (iTup K tl) g tt te vs σ H Q := by
  show tl σ H _
  refine mono _ _ ?_ h
  rintro v H1 ⟨a, xs, H0, rfl, hS, s0, hl, hlen, ht, hq⟩
  refine ⟨a, rfl, ⟨xs, hS⟩, fun D hD => ?_⟩
  refine lc_tup (K := K) (a := a) (xs := xs) (LcInv K H0 H1 D L keep dat) (lcInv_start s0 hD) (fun i Hc _ ⟨H0', acc, e, _⟩ => sqt_same e.same hS) (fun i x Hc hx hinv => ?_) (fun H' hinv => ?_)
  · have hi : i < L.length := by rw [hl]; exact (List.getElem?_eq_some_iff.mp hx).1
    have hd : L[i]? = some L[i] := List.getElem?_eq_getElem hi
    exact lc_step hlen hd hD hinv (ht i x _ hx hd)
  · obtain ⟨H0', acc, e, n0, eD, da⟩ := hinv
    rw [← hl, List.take_length] at da
    exact hq D H0' H' acc hD e n0 eD da
/-- .. over range(n) -/
theorem lcR {keep : Nat → Bool} {dat : Nat → PyData} {ta : TA} {g : TG} {tt : TT} {te : TE} {vs : List Nat} {σ : L2.St} {H : Hp} {Q : VK}
    (h : ta σ H fun us H1 => ∃ (n : Nat) (H0 : Hp), us = [.int (n : Int)] ∧ n < 100000 ∧ Same H0 H1 ∧
      (∀ i, i < n → LcTurn K H0 H1 g tt te vs σ keep dat i (.int (i : Int))) ∧
      (∀ (D : Addr) (H0' H' : Hp) (ys : List V), H1 D = none → Ext H0 H1 H0' H' → H0' D = none → H' D = some (.lst ys) → DpAll K H0' ys (((List.range n).filter keep).map dat) → Q (.ref D) H'))
    (mono : ∀ (Q1 Q2 : List V → Hp → Prop), (∀ v H', Q1 v H' → Q2 v H') → ta σ H Q1 → ta σ H Q2) : tLc (iRng1 ta) g tt te vs σ H Q := by
  show ta σ H _
  refine mono _ _ ?_ h
  rintro us H1 ⟨n, H0, rfl, hn, s0, ht, hq⟩
  refine ⟨(n : Int), rfl, by omega, by omega, fun D hD => ?_⟩
  rw [Int.toNat_natCast]
  have hr : (List.range n).length = n := List.length_range
  refine lc_range (lo := 0) (n := n) (LcInv K H0 H1 D (List.range n) keep dat) (lcInv_start s0 hD) (fun i Hc hi hinv => ?_) (fun H' hinv => ?_)
  · have hd : (List.range n)[i]? = some i := by rw [List.getElem?_range hi]
    rw [Int.zero_add]
    exact lc_step (by rw [hr]; exact hn) hd hD hinv (ht i hi)
  · obtain ⟨H0', acc, e, n0, eD, da⟩ := hinv
    rw [show (List.range n).take n = List.range n by conv => lhs; arg 1; rw [← hr]
                                                     exact List.take_length] at da
    exact hq D H0' H' acc hD e n0 eD da
end
end Fv

namespace Fv
open PySem PySem.Spec PyProof.Rows L2
/-! ### data whose lists and tuples stand in the heap -/
mutual
inductive Tp (H : Hp) : V → PyData → Prop
  | non : Tp H .non .none
  | bl (b : Bool) : Tp H (.bl b) (.bool b)
  | int (i : Int) : Tp H (.int i) (.int i)
  | str (x : Str) : Tp H (.str x) (.str x)
  | lst {a : Addr} {xs : List V} {ds : List PyData} : H a = some (.lst xs) → TpAll H xs ds → Tp H (.ref a) (.list ds)
  | tup {a : Addr} {xs : List V} {ds : List PyData} : H a = some (.tup xs) → TpAll H xs ds → Tp H (.ref a) (.tuple ds)
inductive TpAll (H : Hp) : List V → List PyData → Prop
  | nil : TpAll H [] []
  | cons {v : V} {vs : List V} {d : PyData} {ds : List PyData} : Tp H v d → TpAll H vs ds → TpAll H (v :: vs) (d :: ds)
end
section
variable {H H' : Hp}
mutual
theorem Tp.mono (e : Same H H') : ∀ {v : V} {d : PyData}, Tp H v d → Tp H' v d
  | _, _, .non => .non
  | _, _, .bl b => .bl b
  | _, _, .int i => .int i
  | _, _, .str x => .str x
  | _, _, .lst h r => .lst (e _ _ h) (TpAll.mono e r)
  | _, _, .tup h r => .tup (e _ _ h) (TpAll.mono e r)
theorem TpAll.mono (e : Same H H') : ∀ {vs : List V} {ds : List PyData}, TpAll H vs ds → TpAll H' vs ds
  | _, _, .nil => .nil
  | _, _, .cons h r => .cons (Tp.mono e h) (TpAll.mono e r)
end
mutual
theorem Tp.dp (K : PySem.W.Frag) : ∀ {v : V} {d : PyData}, Tp H v d → Dp K H v d
  | _, _, .non => .non
  | _, _, .bl b => .bl b
  | _, _, .int i => .int i
  | _, _, .str x => .str x
  | _, _, .lst h r => .lst (SqL.of h) (TpAll.dp K r)
  | _, _, .tup h r => .tup (SqT.of h) (TpAll.dp K r)
theorem TpAll.dp (K : PySem.W.Frag) : ∀ {vs : List V} {ds : List PyData}, TpAll H vs ds → DpAll K H vs ds
  | _, _, .nil => .nil
  | _, _, .cons h r => .cons (Tp.dp K h) (TpAll.dp K r)
end
theorem Tp.inv_int {v : V} {i : Int} (h : Tp H v (.int i)) : v = .int i := by cases h; rfl
theorem Tp.inv_bl {v : V} {b : Bool} (h : Tp H v (.bool b)) : v = .bl b := by cases h; rfl
theorem Tp.inv_str {v : V} {x : Str} (h : Tp H v (.str x)) : v = .str x := by cases h; rfl
theorem Tp.inv_lst {v : V} {ds : List PyData} (h : Tp H v (.list ds)) : ∃ a xs, v = .ref a ∧ H a = some (.lst xs) ∧ TpAll H xs ds := by
  cases h with | lst h r => exact ⟨_, _, rfl, h, r⟩
theorem Tp.inv_tup {v : V} {ds : List PyData} (h : Tp H v (.tuple ds)) : ∃ a xs, v = .ref a ∧ H a = some (.tup xs) ∧ TpAll H xs ds := by
  cases h with | tup h r => exact ⟨_, _, rfl, h, r⟩
theorem TpAll.inv_cons {vs : List V} {d : PyData} {ds : List PyData} (h : TpAll H vs (d :: ds)) : ∃ v r, vs = v :: r ∧ Tp H v d ∧ TpAll H r ds := by
  cases h with | cons h r => exact ⟨_, _, rfl, h, r⟩
theorem TpAll.inv_nil {vs : List V} (h : TpAll H vs []) : vs = [] := by cases h; rfl
theorem TpAll.length : ∀ {vs : List V} {ds : List PyData}, TpAll H vs ds → vs.length = ds.length
  | _, _, .nil => rfl
  | _, _, .cons _ r => congrArg (· + 1) (TpAll.length r)
theorem TpAll.at : ∀ {vs : List V} {ds : List PyData}, TpAll H vs ds → ∀ {i : Nat} {v : V}, vs[i]? = some v → ∃ d, ds[i]? = some d ∧ Tp H v d
  | _, _, .nil, _, _, h => by simp at h
  | _, _, .cons h r, 0, _, e => ⟨_, rfl, by have := Option.some.inj e; rw [← this]; exact h⟩
  | _, _, .cons _ r, i + 1, _, e => TpAll.at r (i := i) e
theorem TpAll.of : ∀ {vs : List V} {ds : List PyData}, TpAll H vs ds → ∀ {i : Nat} {d : PyData}, ds[i]? = some d → ∃ v, vs[i]? = some v ∧ Tp H v d
  | _, _, .nil, _, _, h => by simp at h
  | _, _, .cons h r, 0, _, e => ⟨_, rfl, by have := Option.some.inj e; rw [← this]; exact h⟩
  | _, _, .cons _ r, i + 1, _, e => TpAll.of r (i := i) e
theorem TpAll.app : ∀ {vs ws : List V} {ds es : List PyData}, TpAll H vs ds → TpAll H ws es → TpAll H (vs ++ ws) (ds ++ es)
  | _, _, _, _, .nil, h => h
  | _, _, _, _, .cons h r, q => .cons h (TpAll.app r q)
theorem TpAll.one {v : V} {d : PyData} (h : Tp H v d) : TpAll H [v] [d] := .cons h .nil
theorem TpAll.rev {vs : List V} {ds : List PyData} (h : TpAll H vs ds) : TpAll H vs.reverse ds.reverse := by
  induction h using TpAll.rec (motive_1 := fun _ _ _ => True) with
  | nil => exact .nil
  | cons h r _ ih => rw [List.reverse_cons, List.reverse_cons]; exact TpAll.app ih (TpAll.one h)
  | _ => trivial
theorem TpAll.ints : ∀ (ns : List Int), TpAll H (ns.map V.int) (ns.map PyData.int)
  | [] => .nil
  | n :: r => .cons (.int n) (TpAll.ints r)
theorem TpAll.ints_inv : ∀ {vs : List V} {ns : List Int}, TpAll H vs (ns.map PyData.int) → vs = ns.map V.int
  | _, [], h => TpAll.inv_nil h
  | _, n :: r, h => by
    obtain ⟨v, t, rfl, h1, h2⟩ := TpAll.inv_cons h
    rw [Tp.inv_int h1, TpAll.ints_inv h2]; rfl
theorem TpAll.take : ∀ (n : Nat) {vs : List V} {ds : List PyData}, TpAll H vs ds → TpAll H (vs.take n) (ds.take n)
  | 0, _, _, _ => .nil
  | n + 1, _, _, .nil => .nil
  | n + 1, _, _, .cons h r => .cons h (TpAll.take n r)
end
section
variable {K : PySem.W.Frag}
/-- what holds behind i turns of a comprehension whose list grows at D -/
def LcInv_t {α : Type} (H0 H1 : Hp) (D : Addr) (L : List α) (keep : α → Bool) (dat : α → PyData) (i : Nat) (Hc : Hp) : Prop :=
  ∃ (H0' : Hp) (acc : List V), Ext H0 H1 H0' Hc ∧ H0' D = none ∧ Hc D = some (.lst acc) ∧ TpAll H0' acc (((L.take i).filter keep).map dat)
theorem lcInv_start_t {α : Type} {H0 H1 : Hp} {D : Addr} {L : List α} {keep : α → Bool} {dat : α → PyData} (s : Same H0 H1) (hD : H1 D = none) : LcInv_t H0 H1 D L keep dat 0 (upd H1 D (.lst [])) :=
  ⟨H0, [], (Ext.refl s).make _ hD, s.free hD, upd_same, .nil⟩
/-- one turn's reading: what comes of the item d at i -/
def LcTurn_t {α : Type} (H0 H1 : Hp) (g : TG) (tt : TT) (te : TE) (vs : List Nat) (σ : L2.St) (keep : α → Bool) (dat : α → PyData) (d : α) (x : V) : Prop :=
  ∀ (H0' Hc : Hp), Ext H0 H1 H0' Hc → ∀ (Qy : V → Hp → Prop) (Qn : Hp → Prop), (keep d = true → ∀ y H0'' H4, Ext H0' Hc H0'' H4 → Tp H0'' y (dat d) → Qy y H4) → (keep d = false → ∀ H0'' H3, Ext H0' Hc H0'' H3 → Qn H3) →
    g x (wipe σ vs) Hc fun σ2 H2 => wipe σ2 vs = wipe σ vs ∧ tt σ2 H2 fun b H3 => if b = true then te σ2 H3 Qy else Qn H3
theorem lc_step_t {α : Type} {H0 H1 : Hp} {D : Addr} {L : List α} {keep : α → Bool} {dat : α → PyData} {g : TG} {tt : TT} {te : TE} {vs : List Nat} {σ : L2.St} {i : Nat} {x : V} {d : α} {Hc : Hp}
    (hlen : L.length < 100000) (hd : L[i]? = some d) (hD : H1 D = none) (h : LcInv_t H0 H1 D L keep dat i Hc) (t : LcTurn_t H0 H1 g tt te vs σ keep dat d x) :
    g x (wipe σ vs) Hc fun σ2 H2 => wipe σ2 vs = wipe σ vs ∧ tt σ2 H2 fun b H3 =>
      if b = true then te σ2 H3 fun y H4 => ∃ acc, H4 D = some (.lst acc) ∧ acc.length < sizeLine ∧ LcInv_t H0 H1 D L keep dat (i + 1) (upd H4 D (.lst (acc ++ [y]))) else LcInv_t H0 H1 D L keep dat (i + 1) H3 := by
  obtain ⟨H0', acc, e, n0, eD, da⟩ := h
  have hacc : acc.length < 100000 := by
    rw [TpAll.length da, List.length_map]
    have h1 := List.length_filter_le keep (L.take i)
    have h2 := List.length_take_le i L
    have h3 : (L.take i).length ≤ L.length := by rw [List.length_take]; exact Nat.min_le_right _ _
    omega
  refine t H0' Hc e _ _ (fun hk y H0'' H4 e2 dy => ⟨acc, e2.same D _ eD, sz_lt hacc, H0'', acc ++ [y], ?_, ?_, upd_same, ?_⟩) (fun hk H0'' H3 e2 => ⟨H0'', acc, e.trans e2, ?_, e2.same D _ eD, ?_⟩)
  · exact (e.trans e2).mut _ hD (e2.out (by rw [eD]; simp) n0)
  · exact e2.out (by rw [eD]; simp) n0
  · rw [take_more hd, List.filter_append, List.map_append]
    refine TpAll.app (TpAll.mono e2.grow da) ?_
    rw [show [d].filter keep = [d] by simp [hk]]
    exact TpAll.one dy
  · exact e2.out (by rw [eD]; simp) n0
  · rw [take_more hd, List.filter_append, List.map_append, show [d].filter keep = [] by simp [hk], List.map_nil, List.append_nil]
    exact TpAll.mono e2.grow da
/-- a comprehension over a list: the items stand for the data L -/
theorem lcL_t {α : Type} (keep : α → Bool) (dat : α → PyData) {tl : TE} {g : TG} {tt : TT} {te : TE} {vs : List Nat} {σ : L2.St} {H : Hp} {Q : VK}
    (h : tl σ H fun v H1 => ∃ (L : List α) (a : Addr) (xs : List V) (H0 : Hp), v = .ref a ∧ SqL K H1 a xs ∧ Same H0 H1 ∧ L.length = xs.length ∧ L.length < 100000 ∧
      (∀ (i : Nat) (x : V) (d : α), xs[i]? = some x → L[i]? = some d → LcTurn_t H0 H1 g tt te vs σ keep dat d x) ∧
      (∀ (D : Addr) (H0' H' : Hp) (ys : List V), H1 D = none → Ext H0 H1 H0' H' → H0' D = none → H' D = some (.lst ys) → TpAll H0' ys ((L.filter keep).map dat) → Q (.ref D) H'))
    (mono : ∀ (Q1 Q2 : VK), (∀ v H', Q1 v H' → Q2 v H') → tl σ H Q1 → tl σ H Q2) : tLc (iList K tl) g tt te vs σ H Q := by
  show tl σ H _
  refine mono _ _ ?_ h
  rintro v H1 ⟨L, a, xs, H0, rfl, hS, s0, hl, hlen, ht, hq⟩
  refine ⟨a, rfl, ⟨xs, hS⟩, fun D hD => ?_⟩
  refine lc_list (K := K) (a := a) (xs := xs) (LcInv_t H0 H1 D L keep dat) (lcInv_start_t s0 hD) (fun i Hc _ ⟨H0', acc, e, _⟩ => e.same.seq hS) (fun i x Hc hx hinv => ?_) (fun H' hinv => ?_)
  · have hi : i < L.length := by rw [hl]; exact (List.getElem?_eq_some_iff.mp hx).1
    have hd : L[i]? = some L[i] := List.getElem?_eq_getElem hi
    exact lc_step_t hlen hd hD hinv (ht i x _ hx hd)
  · obtain ⟨H0', acc, e, n0, eD, da⟩ := hinv
    rw [← hl, List.take_length] at da
    exact hq D H0' H' acc hD e n0 eD da
theorem lcLv_t {α : Type} (L : List α) (keep : α → Bool) (dat : α → PyData) {j : Nat} {g : TG} {tt : TT} {te : TE} {vs : List Nat} {σ : L2.St} {H1 : Hp} {Q : VK} {a : Addr} {xs : List V} {H0 : Hp}
    (hv : σ[j]? = some (some (.ref a))) (hS : SqL K H1 a xs) (s0 : Same H0 H1) (hl : L.length = xs.length) (hlen : L.length < 100000)
    (ht : ∀ (i : Nat) (x : V) (d : α), xs[i]? = some x → L[i]? = some d → LcTurn_t H0 H1 g tt te vs σ keep dat d x)
    (hq : ∀ (D : Addr) (H0' H' : Hp) (ys : List V), H1 D = none → Ext H0 H1 H0' H' → H0' D = none → H' D = some (.lst ys) → TpAll H0' ys ((L.filter keep).map dat) → Q (.ref D) H') :
    tLc (iList K (tVar j)) g tt te vs σ H1 Q :=
  lcL_t keep dat ⟨_, hv, L, a, xs, H0, rfl, hS, s0, hl, hlen, ht, hq⟩ (fun Q1 Q2 h ⟨v, e, q⟩ => ⟨v, e, h _ _ q⟩)
/-- .. over a tuple -/
theorem lcT_t {α : Type} (L : List α) (keep : α → Bool) (dat : α → PyData) {tl : TE} {g : TG} {tt : TT} {te : TE} {vs : List Nat} {σ : L2.St} {H : Hp} {Q : VK}
    (h : tl σ H fun v H1 => ∃ (a : Addr) (xs : List V) (H0 : Hp), v = .ref a ∧ SqT K H1 a xs ∧ Same H0 H1 ∧ L.length = xs.length ∧ L.length < 100000 ∧
      (∀ (i : Nat) (x : V) (d : α), xs[i]? = some x → L[i]? = some d → LcTurn_t H0 H1 g tt te vs σ keep dat d x) ∧
      (∀ (D : Addr) (H0' H' : Hp) (ys : List V), H1 D = none → Ext H0 H1 H0' H' → H0' D = none → H' D = some (.lst ys) → TpAll H0' ys ((L.filter keep).map dat) → Q (.ref D) H'))
    (mono : ∀ (Q1 Q2 : VK), (∀ v H', Q1 v H' → Q2 v H') → tl σ H Q1 → tl σ H Q2) : tLc (iTup K tl) g tt te vs σ H Q := by
  show tl σ H _
  refine mono _ _ ?_ h
  rintro v H1 ⟨a, xs, H0, rfl, hS, s0, hl, hlen, ht, hq⟩
  refine ⟨a, rfl, ⟨xs, hS⟩, fun D hD => ?_⟩
  refine lc_tup (K := K) (a := a) (xs := xs) (LcInv_t H0 H1 D L keep dat) (lcInv_start_t s0 hD) (fun i Hc _ ⟨H0', acc, e, _⟩ => sqt_same e.same hS) (fun i x Hc hx hinv => ?_) (fun H' hinv => ?_)
  · have hi : i < L.length := by rw [hl]; exact (List.getElem?_eq_some_iff.mp hx).1
    have hd : L[i]? = some L[i] := List.getElem?_eq_getElem hi
    exact lc_step_t hlen hd hD hinv (ht i x _ hx hd)
  · obtain ⟨H0', acc, e, n0, eD, da⟩ := hinv
    rw [← hl, List.take_length] at da
    exact hq D H0' H' acc hD e n0 eD da
/-- .. over range(n) -/
theorem lcR_t {keep : Nat → Bool} {dat : Nat → PyData} {ta : TA} {g : TG} {tt : TT} {te : TE} {vs : List Nat} {σ : L2.St} {H : Hp} {Q : VK}
    (h : ta σ H fun us H1 => ∃ (n : Nat) (H0 : Hp), us = [.int (n : Int)] ∧ n < 100000 ∧ Same H0 H1 ∧
      (∀ i, i < n → LcTurn_t H0 H1 g tt te vs σ keep dat i (.int (i : Int))) ∧
      (∀ (D : Addr) (H0' H' : Hp) (ys : List V), H1 D = none → Ext H0 H1 H0' H' → H0' D = none → H' D = some (.lst ys) → TpAll H0' ys (((List.range n).filter keep).map dat) → Q (.ref D) H'))
    (mono : ∀ (Q1 Q2 : List V → Hp → Prop), (∀ v H', Q1 v H' → Q2 v H') → ta σ H Q1 → ta σ H Q2) : tLc (iRng1 ta) g tt te vs σ H Q := by
  show ta σ H _
  refine mono _ _ ?_ h
  rintro us H1 ⟨n, H0, rfl, hn, s0, ht, hq⟩
  refine ⟨(n : Int), rfl, by omega, by omega, fun D hD => ?_⟩
  rw [Int.toNat_natCast]
  have hr : (List.range n).length = n := List.length_range
  refine lc_range (lo := 0) (n := n) (LcInv_t H0 H1 D (List.range n) keep dat) (lcInv_start_t s0 hD) (fun i Hc hi hinv => ?_) (fun H' hinv => ?_)
  · have hd : (List.range n)[i]? = some i := by rw [List.getElem?_range hi]
    rw [Int.zero_add]
    exact lc_step_t (by rw [hr]; exact hn) hd hD hinv (ht i hi)
  · obtain ⟨H0', acc, e, n0, eD, da⟩ := hinv
    rw [show (List.range n).take n = List.range n by conv => lhs; arg 1; rw [← hr]
                                                     exact List.take_length] at da
    exact hq D H0' H' acc hD e n0 eD da
end
end Fv

namespace Fv
open PySem PySem.Spec PyProof.Rows L2
/-! ### isinstance of data, and the text of data -/
theorem Tp.isi {K : PySem.W.Frag} {H : Hp} {v : V} {d : PyData} (h : Tp H v d) : TyX K H v (.type (tyD d)) := by
  cases h with
  | non => exact .base .non
  | bl b => exact .base (.bl b)
  | int i => exact .base (.int i)
  | str x => exact .base (.str x)
  | lst h _ => exact .base (.lst h)
  | tup h _ => exact .base (.tup h)
theorem kit_tup {K : PySem.W.Frag} (d : PyData) : PySem.W.kitOne K (.type (tyD d)) (.type "tuple") = some (decide (tyD d = "tuple")) := by
  have key : ∀ s : String, s ∈ ["NoneType", "bool", "int", "str", "list", "tuple", "dict"] → kitB s "tuple" = some (decide (s = "tuple")) := by decide +kernel
  exact kit_ty (key _ (by cases d <;> simp [tyD]))
theorem kit_lst {K : PySem.W.Frag} (d : PyData) : PySem.W.kitOne K (.type (tyD d)) (.type "list") = some (decide (tyD d = "list")) := by
  have key : ∀ s : String, s ∈ ["NoneType", "bool", "int", "str", "list", "tuple", "dict"] → kitB s "list" = some (decide (s = "list")) := by decide +kernel
  exact kit_ty (key _ (by cases d <;> simp [tyD]))
def rLenSq (K : PySem.W.Frag) : List V → Hp → VK → Prop := fun xs H Q => ∃ p ys, xs = [V.ref p] ∧ (SqL K H p ys ∨ SqT K H p ys) ∧ Q (.int (ys.length : Int)) H
def rReprD (K : PySem.W.Frag) : List V → Hp → VK → Prop := fun xs H Q => ∃ x d, xs = [x] ∧ Dp K H x d ∧ d.showable = true ∧ d.hasDict = false ∧ d.depth ≤ 64 ∧ d.shown.length ≤ sizeLine ∧ Q (.str d.shown) H
section
variable {X : Cx}
theorem call_reprD (hg : X.A.guards = some []) (hu : X.A.units + 66 < cLine) : CallR X (.builtin "repr") (rReprD X.K) := by
  intro pins s σ H xs us Q I r h
  obtain ⟨x, d, rfl, hd, hs, hn, hdep, hz, q⟩ := h
  obtain ⟨u, rfl, rx⟩ := vals1 r
  have fin : ∀ (h' : Heap) (u' : Tok) (tk : Nat), (∀ b o, s.heap.get? b = some o → h'.get? b = some o) → EP X pins σ Q (.str d.shown u') { s with heap := h', toks := tk } := fun h' u' tk kp =>
    ⟨.str d.shown, H, I.kept (t' := tk) kp, ⟨_, rfl⟩, q⟩
  cases hd with
  | non => cases rx; exact P.repr_of_none (fin s.heap _ _ fun _ _ e => e)
  | bl b =>
    cases rx
    refine P.repr_of_bool ?_
    have := fin s.heap s.toks (s.toks + 1) fun _ _ e => e
    cases b <;> exact this
  | int i =>
    obtain ⟨t, rfl⟩ := rx
    have hi : i.natAbs.log2 < 1920 := by simpa [PyData.showable] using hs
    exact P.repr_of_int hi (fin s.heap _ _ fun _ _ e => e)
  | str y =>
    obtain ⟨t, rfl⟩ := rx
    exact P.repr_of_str (fin s.heap _ _ fun _ _ e => e) hz
  | @lst a ys ds h r' =>
    cases rx
    obtain ⟨as, hr⟩ := Dp.reads I _ _ _ (.lst h r') rfl
    exact repr_of_reads' (h₀ := s.heap) hr hs (PyData.noDict_hsm hn) hg (by omega) (fun _ _ e => e) (fun h' u tk kp => fin h' u tk kp) hz
  | @tup a ys ds h r' =>
    cases rx
    obtain ⟨as, hr⟩ := Dp.reads I _ _ _ (.tup h r') rfl
    exact repr_of_reads' (h₀ := s.heap) hr hs (PyData.noDict_hsm hn) hg (by omega) (fun _ _ e => e) (fun h' u tk kp => fin h' u tk kp) hz
end
end Fv

/-! A def run where it is known what runs around it (no text of an object is being written), and a law's def called so. -/
namespace Fv
open PySem PySem.Spec PyProof.Rows L2
section
variable {P : Program} {w : World} {K : PySem.W.Frag} {mg : Str → Option Value} {base : Heap}
theorem run_def {nm : Str} {st : Stmt} {N ps : List Str} {k : Nat} {f : Addr} {fd : FuncData} {A : Around} {outer : List Env} {s : Shared} {H : Hp} {args : Args} {us : List Value} {vs : List V} {Q : VK}
    (F : Fun K nm nm st f fd) (S : FnScope N ps (defScope st)) (room : Room (k + 1) A) (en : Env0 P w K mg base A outer s H) (bind : BindsTo s fd args (ps.zip us)) (rel : Vals vs us) (hlen : vs.length = ps.length)
    (body : ∀ cdv : Value, Room k (A.deeper (envOfC nm (defScope st) s.heap.objs.size f cdv)) → ∃ t, PSs (cxOf CX0 P w K mg base N nm (defScope st) f cdv A outer s H E0).nox (defBody st) t ∧ t { nx := fun _ H' => Q .non H', rt := Q } (start N vs) H) :
    codeAny (model P w) A (.call (.ref f) args) (CR CX0 outer P w H s Q E0) s := by
  obtain ⟨oc, od, kV, doc, pm, an, cdv, ct, osl, rfl, hlook, hcode⟩ := F.ex
  have kin : K.In s.heap := e_kin en
  have nolim : s.heap.NoLimit := e_lim en
  have kinds : ∀ z ∈ ps.zip us, (defScope st).names.lookup z.1 = some .local ∨ ((defScope st).names.lookup z.1 = some .cell ∧ ((cellsFrom (s.heap.objs.size + 1) (defScope st).names []).lookup z.1).isSome = true) := by
    rintro ⟨n, u⟩ hz
    have hn : n ∈ ps := (List.of_mem_zip hz).1
    cases S.par n hn with
    | inl l => exact Or.inl l
    | inr c => exact Or.inr ⟨c, PySem.W.cellsFrom_some _ _ _ (Or.inl c)⟩
  apply codeAny_call_function room.depth (kin _ _ hlook) rfl S.co S.gen rfl (PySem.W.codeRec_of kin hcode)
  apply bind
  refine wpAny_newFunctionEnv_cells S.kind kinds ?_
  rintro env rfl s2 inCall
  constructor
  · exact nolim.keeps inCall.toInCall.keep
  · apply codeAny_func
    obtain ⟨t, term, read⟩ := body cdv (room.deeper _)
    have inv := inv_start (CX := CX0) (E := E0) S room.hd en hlen rel inCall
    apply wpAny_mono (term.nox.run [] s2 (start N vs) H _ inv read)
    · intro fl s3 hs
      cases fl with
      | ret u =>
        obtain ⟨v, σ', H', J, rv, q⟩ := hs
        exact ⟨v, H', J.os, J.bare, J.base, J.hok, rv, q⟩
      | next =>
        obtain ⟨σ', H', J, q⟩ := hs
        exact ⟨V.non, H', J.os, J.bare, J.base, J.hok, rfl, q⟩
      | brk => obtain ⟨_, _, _, z⟩ := hs; exact z.elim
      | cont => obtain ⟨_, _, _, z⟩ := hs; exact z.elim
    · intro e s3 hs
      exact hs
where
  e_kin {A : Around} {outer : List Env} {s : Shared} {H : Hp} (en : Env0 P w K mg base A outer s H) : K.In s.heap := en.mod.kin.keeps (fun b o z => (en.bs b o z).1)
  e_lim {A : Around} {outer : List Env} {s : Shared} {H : Hp} (en : Env0 P w K mg base A outer s H) : s.heap.NoLimit := en.mod.nolimit.keeps (fun b o z => (en.bs b o z).1)
end
end Fv
namespace Fv
open PySem PySem.Spec PyProof.Rows L2
/-- the ground beneath a law's call: what the top left, the script apart -/
theorem law_top {P : Program} {w : World} {K : PySem.W.Frag} {mg mb : Str → Option Value} {fa a : Addr} {s1 : Shared} {us : List Value} {ns : List Int}
    (kin : K.In s1.heap) (gl : s1.heap.Ns mainGlobals mg) (bl : s1.heap.Ns builtinsNs mb) (bm : ∀ x : Str, x ≠ "__name__" → mb x = bootBuiltins x) (nolim : s1.heap.NoLimit) (nogen : s1.gens = #[])
    (obj : s1.heap.get? a = some { cls := .type "list", data := .seq us.toArray }) (hints : IntsAre us ns) (few : ns.length ≤ sizeLine)
    (run : ∀ (base : Heap) (H : Hp), K.In base → base.Ns mainGlobals mg → Only H → SqL K H a (ns.map V.int) → Env0 P w K mg base callerA [] s1 H →
      codeAny (model P w) callerA (.call (.ref fa) ⟨[.ref a], []⟩) (CR CX0 [] P w H s1 (fun v _ => v = .bl true) E0) s1) :
    codeAny (model P w) callerA (.call (.ref fa) ⟨[.ref a], []⟩) (fun r s' => r = .ok (.ret (.bool true)) ∧ OldK s1.heap s'.heap ∧ s'.os = s1.os ∧ AllBare s'.gens) s1 := by
  have rel := vals_ints hints
  have size := hints.length
  -- whatever H tracks: the script at most
  suffices go : ∀ H : Hp, Only H → SqL K H a (ns.map V.int) → HOk P w H s1.heap → (∀ b, H b ≠ none → b = a ∧ K.lookup a = none) →
      codeAny (model P w) callerA (.call (.ref fa) ⟨[.ref a], []⟩) (fun r s' => r = .ok (.ret (.bool true)) ∧ OldK s1.heap s'.heap ∧ s'.os = s1.os ∧ AllBare s'.gens) s1 by
    cases look : K.lookup a with
    | some o =>
      have same := kin a o look
      rw [obj] at same
      cases same
      exact go (fun _ => none) (fun _ => Or.inl rfl) (Or.inr ⟨_, us.toArray, _, look, rfl, rfl, rfl, by rw [List.size_toArray, size]; exact few, by simpa using rel⟩) (fun b u z => nomatch (show (none : Option HO) = some u from z)) (fun b z => absurd rfl z)
    | none =>
      have atA : (fun b => if b = a then some (HO.frz { cls := .type "list", data := .seq us.toArray } (.lst (ns.map V.int))) else none : Hp) a = some (.frz { cls := .type "list", data := .seq us.toArray } (.lst (ns.map V.int))) := if_pos rfl
      refine go (fun b => if b = a then some (.frz { cls := .type "list", data := .seq us.toArray } (.lst (ns.map V.int))) else none) ?_ (Or.inl (Or.inr ⟨_, atA⟩)) ?_ ?_
      · intro b
        by_cases e : b = a
        · subst e; exact Or.inr ⟨_, _, atA⟩
        · exact Or.inl (if_neg e)
      · intro b u z
        by_cases e : b = a
        · subst e
          rw [atA] at z
          obtain rfl := (Option.some.inj z)
          exact ⟨obj, by rw [List.length_map]; exact few, us, _, rel, obj⟩
        · have z2 : (none : Option HO) = some u := (if_neg e).symm.trans z
          cases z2
      · intro b z
        by_cases e : b = a
        · exact ⟨e, look⟩
        · exact absurd (if_neg e) z
  intro H only script hok alone
  have plain : ∀ {b : Addr} {o : Obj} {es : Array DictEntry} {ep : Nat}, s1.heap.get? b = some o → o.data = .dict es ep → H b = none := by
    intro b o es ep e d
    by_cases z : H b = none
    · exact z
    · obtain ⟨rfl, _⟩ := alone b z
      rw [obj] at e
      cases e
      cases (show Data.seq us.toArray _ = Data.dict es ep from d)
  have spaces : ∀ {b : Addr} {m : Str → Option Value}, s1.heap.Ns b m → (hidT s1.heap H).Ns b m := by
    rintro b m ⟨o, es, ep, e, d, r⟩
    exact ⟨o, es, ep, hidT_get e (plain e d), d, r⟩
  have kbase : K.In (hidT s1.heap H) := by
    intro b o e
    refine hidT_get (kin b o e) ?_
    by_cases z : H b = none
    · exact z
    · obtain ⟨rfl, n⟩ := alone b z
      rw [n] at e; cases e
  obtain ⟨mc, c1, c2⟩ := nolim
  have mod : Mod K mg (hidT s1.heap H) := ⟨kbase, spaces gl, ⟨mb, spaces bl, bm⟩, ⟨mc, spaces c1, c2⟩⟩
  have en : Env0 P w K mg (hidT s1.heap H) callerA [] s1 H := ⟨rfl, mod, fun b o e => of_hidT e, Nat.le_of_eq (hidT_size _ _), trivial, fun b hb => absurd (show b ∈ ([] : List Addr) from hb) (by simp), hok, .of_eq nogen⟩
  apply codeAny_mono (run _ H kbase (spaces gl) only script en)
  intro r s' res
  cases r with
  | error e => exact (show False from res).elim
  | ok fl =>
    cases fl with
    | next => exact (show False from res).elim
    | brk => exact (show False from res).elim
    | cont => exact (show False from res).elim
    | ret u =>
      obtain ⟨v, H', os, bare, un, hok', rv, rfl⟩ := res
      obtain rfl : u = Value.bool true := rv
      refine ⟨rfl, OldK.of_keep ?_, os, bare⟩
      intro b o e
      by_cases z : H b = none
      · exact un.keep b o e z (fun y => absurd (show b ∈ ([] : List Addr) from y) (by simp)) (by simp)
      · rcases only b with y | ⟨ob, xs, y⟩
        · exact absurd y z
        · have e1 := (hok b _ y).1
          have e2 := (hok' b _ (un.frzs b ob _ y)).1
          rw [e1] at e
          cases e
          exact e2
end Fv

namespace Fv
open PySem PySem.Spec PyProof.Rows L2
/-! the text -/
def topS (i : Nat) : Stmt := PySem.Challenge.pw_foldvat_k10_lines_near.main.body.getD i (.Pass ⟨0, 0, 0, 0⟩)
namespace D_is_from
abbrev st : Stmt := topS 9
abbrev ps : List Str := ["thing", "least"]
abbrev N : List Str := ["thing", "least"]
theorem sc : FnScope N ps (defScope st) := ⟨rfl, rfl, rfl, by decide +kernel, rfl, by decide +kernel, by decide +kernel⟩
end D_is_from
namespace D_is_among
abbrev st : Stmt := topS 10
abbrev ps : List Str := ["thing", "least", "most"]
abbrev N : List Str := ["thing", "least", "most"]
theorem sc : FnScope N ps (defScope st) := ⟨rfl, rfl, rfl, by decide +kernel, rfl, by decide +kernel, by decide +kernel⟩
end D_is_among
namespace D_is_listing
abbrev st : Stmt := topS 11
abbrev ps : List Str := ["thing"]
abbrev N : List Str := ["thing"]
theorem sc : FnScope N ps (defScope st) := ⟨rfl, rfl, rfl, by decide +kernel, rfl, by decide +kernel, by decide +kernel⟩
end D_is_listing
namespace D_check_places
abbrev st : Stmt := topS 12
abbrev ps : List Str := ["places"]
abbrev N : List Str := ["places"]
theorem sc : FnScope N ps (defScope st) := ⟨rfl, rfl, rfl, by decide +kernel, rfl, by decide +kernel, by decide +kernel⟩
end D_check_places
namespace D_shift_of
abbrev st : Stmt := topS 13
abbrev ps : List Str := ["ground", "line"]
abbrev N : List Str := ["ground", "line"]
theorem sc : FnScope N ps (defScope st) := ⟨rfl, rfl, rfl, by decide +kernel, rfl, by decide +kernel, by decide +kernel⟩
end D_shift_of
namespace D_layers_at
abbrev st : Stmt := topS 14
abbrev ps : List Str := ["ground", "column"]
abbrev N : List Str := ["ground", "column", "width", "steps", "at", "change"]
theorem sc : FnScope N ps (defScope st) := ⟨rfl, rfl, rfl, by decide +kernel, rfl, by decide +kernel, by decide +kernel⟩
end D_layers_at
namespace D_ground_behind
abbrev st : Stmt := topS 15
abbrev ps : List Str := ["ground", "line"]
abbrev N : List Str := ["ground", "line", "width", "steps", "shift", "last", "changes", "at", "change", "new", "left"]
theorem sc : FnScope N ps (defScope st) := ⟨rfl, rfl, rfl, by decide +kernel, rfl, by decide +kernel, by decide +kernel⟩
end D_ground_behind
namespace D_is_deed
abbrev st : Stmt := topS 16
abbrev ps : List Str := ["thing", "width"]
abbrev N : List Str := ["thing", "width", "word"]
theorem sc : FnScope N ps (defScope st) := ⟨rfl, rfl, rfl, by decide +kernel, rfl, by decide +kernel, by decide +kernel⟩
end D_is_deed
namespace D_line_of
abbrev st : Stmt := topS 17
abbrev ps : List Str := ["deed"]
abbrev N : List Str := ["deed"]
theorem sc : FnScope N ps (defScope st) := ⟨rfl, rfl, rfl, by decide +kernel, rfl, by decide +kernel, by decide +kernel⟩
end D_line_of
namespace D_folds_of
abbrev st : Stmt := topS 18
abbrev ps : List Str := ["row"]
abbrev N : List Str := ["row", "deed"]
theorem sc : FnScope N ps (defScope st) := ⟨rfl, rfl, rfl, by decide +kernel, rfl, by decide +kernel, by decide +kernel⟩
end D_folds_of
namespace D_grounds_or_none
abbrev st : Stmt := topS 19
abbrev ps : List Str := ["places", "thing"]
abbrev N : List Str := ["places", "thing", "found", "deed", "ground"]
theorem sc : FnScope N ps (defScope st) := ⟨rfl, rfl, rfl, by decide +kernel, rfl, by decide +kernel, by decide +kernel⟩
end D_grounds_or_none
namespace D_grounds_of
abbrev st : Stmt := topS 20
abbrev ps : List Str := ["places", "row"]
abbrev N : List Str := ["places", "row", "found"]
theorem sc : FnScope N ps (defScope st) := ⟨rfl, rfl, rfl, by decide +kernel, rfl, by decide +kernel, by decide +kernel⟩
end D_grounds_of
namespace D_check_place
abbrev st : Stmt := topS 22
abbrev ps : List Str := ["places", "place"]
abbrev N : List Str := ["places", "place"]
theorem sc : FnScope N ps (defScope st) := ⟨rfl, rfl, rfl, by decide +kernel, rfl, by decide +kernel, by decide +kernel⟩
end D_check_place
namespace D_carried
abbrev st : Stmt := topS 23
abbrev ps : List Str := ["run", "fold", "ground"]
abbrev N : List Str := ["run", "fold", "ground", "column", "above", "beneath", "turned", "line", "over", "rides", "mirrored", "met"]
theorem sc : FnScope N ps (defScope st) := ⟨rfl, rfl, rfl, by decide +kernel, rfl, by decide +kernel, by decide +kernel⟩
end D_carried
namespace D_runs_of
abbrev st : Stmt := topS 24
abbrev ps : List Str := ["run", "folds", "grounds"]
abbrev N : List Str := ["run", "folds", "grounds", "found", "fold", "ground"]
theorem sc : FnScope N ps (defScope st) := ⟨rfl, rfl, rfl, by decide +kernel, rfl, by decide +kernel, by decide +kernel⟩
end D_runs_of
namespace D_line_to
abbrev st : Stmt := topS 25
abbrev ps : List Str := ["places", "row", "place", "other"]
abbrev N : List Str := ["places", "row", "place", "other", "grounds", "ends", "both", "one"]
theorem sc : FnScope N ps (defScope st) := ⟨rfl, rfl, rfl, by decide +kernel, rfl, by decide +kernel, by decide +kernel⟩
end D_line_to
namespace D__law_reel
abbrev st : Stmt := topS 27
abbrev ps : List Str := ["script"]
abbrev N : List Str := ["script", "stir", "cell", "great"]
theorem sc : FnScope N ps (defScope st) := ⟨rfl, rfl, rfl, by decide +kernel, rfl, by decide +kernel, by decide +kernel⟩
end D__law_reel
namespace D__law_draw
abbrev st : Stmt := topS 28
abbrev ps : List Str := ["reel", "many"]
abbrev N : List Str := ["reel", "many", "rest", "told", "stir"]
theorem sc : FnScope N ps (defScope st) := ⟨rfl, rfl, rfl, by decide +kernel, rfl, by decide +kernel, by decide +kernel⟩
end D__law_draw
namespace D__law_about
abbrev st : Stmt := topS 29
abbrev ps : List Str := ["pile"]
abbrev N : List Str := ["pile", "place", "face"]
theorem sc : FnScope N ps (defScope st) := ⟨rfl, rfl, rfl, by decide +kernel, rfl, by decide +kernel, by decide +kernel⟩
end D__law_about
namespace D__law_done
abbrev st : Stmt := topS 30
abbrev ps : List Str := ["piles", "deed"]
abbrev N : List Str := ["piles", "deed", "line", "found", "far", "rest", "comes", "pile"]
theorem sc : FnScope N ps (defScope st) := ⟨rfl, rfl, rfl, by decide +kernel, rfl, by decide +kernel, by decide +kernel⟩
end D__law_done
namespace D__law_piles
abbrev st : Stmt := topS 31
abbrev ps : List Str := ["places", "row"]
abbrev N : List Str := ["places", "row", "found", "deed", "place"]
theorem sc : FnScope N ps (defScope st) := ⟨rfl, rfl, rfl, by decide +kernel, rfl, by decide +kernel, by decide +kernel⟩
end D__law_piles
namespace D__law_wide
abbrev st : Stmt := topS 32
abbrev ps : List Str := ["wide", "deed"]
abbrev N : List Str := ["wide", "deed"]
theorem sc : FnScope N ps (defScope st) := ⟨rfl, rfl, rfl, by decide +kernel, rfl, by decide +kernel, by decide +kernel⟩
end D__law_wide
namespace D__law_deed
abbrev st : Stmt := topS 33
abbrev ps : List Str := ["reel", "wide"]
abbrev N : List Str := ["reel", "wide", "some"]
theorem sc : FnScope N ps (defScope st) := ⟨rfl, rfl, rfl, by decide +kernel, rfl, by decide +kernel, by decide +kernel⟩
end D__law_deed
namespace D__law_row
abbrev st : Stmt := topS 34
abbrev ps : List Str := ["reel", "places", "most"]
abbrev N : List Str := ["reel", "places", "most", "found", "wide", "k"]
theorem sc : FnScope N ps (defScope st) := ⟨rfl, rfl, rfl, by decide +kernel, rfl, by decide +kernel, by decide +kernel⟩
end D__law_row
namespace D__law_dressed
abbrev st : Stmt := topS 35
abbrev ps : List Str := ["reel", "thing"]
abbrev N : List Str := ["reel", "thing", "found", "one"]
theorem sc : FnScope N ps (defScope st) := ⟨rfl, rfl, rfl, by decide +kernel, rfl, by decide +kernel, by decide +kernel⟩
end D__law_dressed
namespace D__law_columns
abbrev st : Stmt := topS 36
abbrev ps : List Str := ["piles"]
abbrev N : List Str := ["piles", "found", "column", "place", "face"]
theorem sc : FnScope N ps (defScope st) := ⟨rfl, rfl, rfl, by decide +kernel, rfl, by decide +kernel, by decide +kernel⟩
end D__law_columns
namespace D__law_lines
abbrev st : Stmt := topS 37
abbrev ps : List Str := ["piles"]
abbrev N : List Str := ["piles", "found", "now", "line", "later", "one", "other"]
theorem sc : FnScope N ps (defScope st) := ⟨rfl, rfl, rfl, by decide +kernel, rfl, by decide +kernel, by decide +kernel⟩
end D__law_lines
namespace D_law
abbrev st : Stmt := topS 38
abbrev ps : List Str := ["script"]
abbrev N : List Str := ["script", "reel", "k", "places", "row", "due", "handed", "stays", "one", "told", "other"]
theorem sc : FnScope N ps (defScope st) := ⟨rfl, rfl, rfl, by decide +kernel, rfl, by decide +kernel, by decide +kernel⟩
end D_law

end Fv

namespace Fv
open PySem PySem.Spec PyProof.Rows L2
local macro_rules | `(tactic| walk_at "vc") => `(tactic| simp only [tRet, tRetN, tAndV, tOrV, tNotV, tAnd, tOr, tNot, tB, tTest, tOp, tUn, tCB, rTyp, tCons, tNil, tVar, tC, tChain, rI0, rI, rU, tSeq, tNext, tIfS, tIf, tAsg, gName, gCons, gNil, gTup, tDrop, tTup, tLst, tCall, tIsN, tNotN, tPar, tAug, tYes, rLenSq, rIsi, rReprD, L2.tSl, tPart, tNoPart, rSlL, rCat, rRep, gSub, tRevL, CPow, rEqD, rNeD, Int.reduceToNat, tBM, rAppend, wipe, StX.tStar, sDPut, tDGet, tDGet2, tDNewK, List.map_cons, List.map_nil, rEq, rNe, rIxT, rIxL, cxK, cxKn,
  List.getElem?_cons_zero, List.getElem?_cons_succ, List.set_cons_zero, List.set_cons_succ, List.append_nil, List.nil_append, List.cons_append, List.length_cons, List.length_nil, List.cons.injEq, Option.some.injEq, V.int.injEq, V.ty.injEq, V.bl.injEq, V.ref.injEq, V.str.injEq,
  and_true, true_and, and_assoc, exists_eq_left', exists_eq_left, exists_and_left, exists_eq', exists_eq, exists_eq_right, exists_eq_right', decide_eq_true_eq, Bool.not_eq_true', Bool.false_eq_true, if_true, if_false, reduceCtorEq, false_and, and_false, exists_false, decide_true, decide_false, Nat.zero_add, ite_true, ite_false, V.int.injEq, decide_eq_false_iff_not])

def amongD (d : PyData) (lo hi : Int) : Bool := match d with
  | .int i => decide (lo ≤ i) && decide (i ≤ hi)
  | _ => false
def isSeqD : PyData → Bool | .list _ => true | .tuple _ => true | _ => false
def pD (p : Int × Int) : PyData := .tuple [.int p.1, .int p.2]
def gD (w : Int) (s : Steps) : PyData := .tuple [.int w, .list (s.map pD)]
def fromD (d : PyData) (lo : Int) : Bool := match d with
  | .int i => decide (lo ≤ i)
  | _ => false
def sp_is_from (K : PySem.W.Frag) : Sp := fun vs H Q _ => ∃ (v : V) (d : PyData) (lo : Int), vs = [v, .int lo] ∧ Dp K H v d ∧ Q (.bl (fromD d lo)) H
def sp_shift_of (K : PySem.W.Frag) : Sp := fun vs H Q _ => ∃ (v : V) (w : Int) (s : Steps) (c : Int), vs = [v, .int c] ∧ Dp K H v (gD w s) ∧ Q (.int (shiftOf w c)) H
def sp_check_number (K : PySem.W.Frag) : Sp := fun vs H Q _ => ∃ (i m : Int), vs = [.int i, .int m] ∧ 0 ≤ i ∧ i ≤ m ∧ Q .non H
def sp_is_among (K : PySem.W.Frag) : Sp := fun vs H Q _ => ∃ (v : V) (d : PyData) (lo hi : Int), vs = [v, .int lo, .int hi] ∧ Dp K H v d ∧ Q (.bl (amongD d lo hi)) H
def sp_is_listing (K : PySem.W.Frag) : Sp := fun vs H Q _ => ∃ (v : V) (d : PyData), vs = [v] ∧ Dp K H v d ∧ ∀ H', Same H H' → Q (.bl (isSeqD d)) H'
def sp_check_places (K : PySem.W.Frag) : Sp := fun vs H Q _ => ∃ (n : Int), vs = [.int n] ∧ 1 ≤ n ∧ n ≤ 10 ^ 30 ∧ Q .non H
def sp_check_column (K : PySem.W.Frag) : Sp := fun vs H Q _ => ∃ (v : V) (w : Int) (s : Steps) (c : Int), vs = [v, .int c] ∧ Dp K H v (gD w s) ∧ 0 ≤ c ∧ c < w ∧ Q .non H
def sp_layers_at (K : PySem.W.Frag) : Sp := fun vs H Q _ => ∃ (v : V) (w : Int) (s : Steps) (c : Int), vs = [v, .int c] ∧ Dp K H v (gD w s) ∧ s.length ≤ 1000 ∧ ∀ H', Same H H' → Q (.int (if 0 ≤ c ∧ c < w then psum s c else 0)) H'
section
variable {P : Program} {w : World} {K : PySem.W.Frag} {mg : Str → Option Value} {base : Heap}
theorem good_is_from (D : DefAt K mg "is_from" D_is_from.st D_is_from.ps) (T : Bi mg) : Good P w K mg base 1 "is_from" D_is_from.ps (sp_is_from K) := by
  refine Good.of (N := D_is_from.N) D D_is_from.sc (fun vs H Q E h => ?_) (fun f cdv A outer s H vs Q E hr h => ?_)
  · obtain ⟨v, d, lo, rfl, _⟩ := h; rfl
  · obtain ⟨v, d, lo, rfl, hd, q⟩ := h
    have nd := D_is_from.sc.nd; have hu := hu_of hr; refine ⟨_, (pss_one (ps_ret (pe_and (pe_cmpR op_isTyB (pe_callTy call_type1 (by rfl) T.n_type (by decide +kernel) (pa_cons (pv 0) pa_nil)) (pe_bltn (v := .ty "int") (u := .type "int") (by rfl) T.n_int (by decide +kernel) (by rfl)) (nomark _)) (pe_one (pe_cmpR op_ge (pv 0) (pv 1) (nomark _)))))), ?_⟩
    rw [show L2.start D_is_from.N [v, .int lo] = [some (v), some (.int lo)] from rfl]
    walk_at "vc"
    refine ⟨_, Dp.ty hd, ?_⟩
    cases hd <;> simp_all [tyD, fromD]
theorem good_is_among (D : DefAt K mg "is_among" D_is_among.st D_is_among.ps) (T : Bi mg) (h_is_from : Good P w K mg base 1 "is_from" D_is_from.ps (sp_is_from K)) : Good P w K mg base 2 "is_among" D_is_among.ps (sp_is_among K) := by
  refine Good.of (N := D_is_among.N) D D_is_among.sc (fun vs H Q E h => ?_) (fun f cdv A outer s H vs Q E hr h => ?_)
  · obtain ⟨v, d, lo, hi, rfl, _⟩ := h; rfl
  · obtain ⟨v, d, lo, hi, rfl, hd, q⟩ := h
    obtain ⟨f_is_from, fd_is_from, m_is_from, k_is_from, b_is_from, G_is_from⟩ := h_is_from
    have nd := D_is_among.sc.nd; have hu := hu_of hr; refine ⟨_, (pss_one (ps_ret (pe_and (pe_call G_is_from (hr.mono (by decide)) (by rfl) m_is_from k_is_from b_is_from .nil pass0 (pa_cons (pv 0) (pa_cons (pv 1) pa_nil))) (pe_one (pe_cmpR op_le (pv 0) (pv 2) (nomark _)))))), ?_⟩
    rw [show L2.start D_is_among.N [v, .int lo, .int hi] = [some (v), some (.int lo), some (.int hi)] from rfl]
    walk_at "vc"
    refine ⟨v, d, lo, rfl, hd, ?_⟩
    cases hd <;> simp_all [fromD, amongD]
    split <;> simp_all
theorem good_is_listing (D : DefAt K mg "is_listing" D_is_listing.st D_is_listing.ps) (T : Bi mg) : Good P w K mg base 1 "is_listing" D_is_listing.ps (sp_is_listing K) := by
  refine Good.of (N := D_is_listing.N) D D_is_listing.sc (fun vs H Q E h => ?_) (fun f cdv A outer s H vs Q E hr h => ?_)
  · obtain ⟨v, d, rfl, _⟩ := h; rfl
  · obtain ⟨v, d, rfl, hd, q⟩ := h
    have nd := D_is_listing.sc.nd; have hu := hu_of hr; refine ⟨_, (pss_one (ps_ret (pe_or (pe_cmpR op_isTyB (pe_callTy call_type1 (by rfl) T.n_type (by decide +kernel) (pa_cons (pv 0) pa_nil)) (pe_bltn (v := .ty "list") (u := .type "list") (by rfl) T.n_list (by decide +kernel) (by rfl)) (nomark _)) (pe_one (pe_cmpR op_isTyB (pe_callTy call_type1 (by rfl) T.n_type (by decide +kernel) (pa_cons (pv 0) pa_nil)) (pe_bltn (v := .ty "tuple") (u := .type "tuple") (by rfl) T.n_tuple (by decide +kernel) (by rfl)) (nomark _)))))), ?_⟩
    rw [show L2.start D_is_listing.N [v] = [some (v)] from rfl]
    walk_at "vc"
    have q := q H (Same.refl H)
    refine ⟨_, Dp.ty hd, ?_⟩
    by_cases e : tyD d = "list"
    · refine (if_pos e).mpr ?_
      have : isSeqD d = true := by cases d <;> first | rfl | (simp [tyD] at e)
      rw [this] at q; exact q
    · refine (if_neg e).mpr ⟨_, Dp.ty hd, ?_⟩
      have : decide (tyD d = "tuple") = isSeqD d := by cases d <;> first | rfl | (simp [tyD] at e)
      rw [this]; exact q
theorem good_check_places (D : DefAt K mg "check_places" D_check_places.st D_check_places.ps) (T : Bi mg) {tP tD : Tok} {aF : Addr} (C : Co K mg tP tD aF)
    (h_is_among : Good P w K mg base 2 "is_among" D_is_among.ps (sp_is_among K)) : Good P w K mg base 3 "check_places" D_check_places.ps (sp_check_places K) := by
  refine Good.of (N := D_check_places.N) D D_check_places.sc (fun vs H Q E h => ?_) (fun f cdv A outer s H vs Q E hr h => ?_)
  · obtain ⟨n, rfl, _⟩ := h; rfl
  · obtain ⟨n, rfl, h1, h2, q⟩ := h
    obtain ⟨f_is_among, fd_is_among, m_is_among, k_is_among, b_is_among, G_is_among⟩ := h_is_among
    have nd := D_check_places.sc.nd; have hu := hu_of hr; refine ⟨_, (pss_one (ps_if (pt_not (pt_val (pe_call G_is_among (hr.mono (by decide)) (by rfl) m_is_among k_is_among b_is_among .nil pass0 (pa_cons (pv 0) (pa_cons pe_int (pa_cons (pe_glob (v := V.int (10 ^ 30)) (by rfl) C.c_MOST_PLACES ⟨_, rfl⟩) pa_nil)))))) (pss_one ps_never) pss_nil)), ?_⟩
    rw [show L2.start D_check_places.N [.int n] = [some (.int n)] from rfl]
    walk_at "vc"
    refine ⟨_, .int n, _, _, rfl, .int n, ?_⟩
    simp only [amongD, h1, h2, decide_true, Bool.and_true, V.bl.injEq, exists_eq_left', Bool.not_true, Bool.false_eq_true, if_false]
    exact q
theorem gD_inv {H : Hp} {v : V} {w : Int} {s : Steps} (h : Dp K H v (gD w s)) : ∃ a b ys, v = .ref a ∧ SqT K H a [.int w, .ref b] ∧ SqL K H b ys ∧ DpAll K H ys (s.map pD) := by
  obtain ⟨a, xs, rfl, hS, hA⟩ := Dp.inv_tup h
  obtain ⟨x1, r1, rfl, d1, hB⟩ := DpAll.inv_cons hA
  obtain ⟨x2, r2, rfl, d2, hC⟩ := DpAll.inv_cons hB
  obtain rfl := Dp.inv_int d1
  obtain rfl := DpAll.inv_nil hC
  obtain ⟨b, ys, rfl, hL, hB⟩ := Dp.inv_lst d2
  exact ⟨a, b, ys, rfl, hS, hL, hB⟩
theorem pD_inv {H : Hp} {v : V} {p : Int × Int} (h : Dp K H v (pD p)) : ∃ a, v = .ref a ∧ SqT K H a [.int p.1, .int p.2] := by
  obtain ⟨a, xs, rfl, hS, hA⟩ := Dp.inv_tup h
  obtain ⟨x1, r1, rfl, d1, hB⟩ := DpAll.inv_cons hA
  obtain ⟨x2, r2, rfl, d2, hC⟩ := DpAll.inv_cons hB
  obtain rfl := Dp.inv_int d1
  obtain rfl := Dp.inv_int d2
  obtain rfl := DpAll.inv_nil hC
  exact ⟨a, rfl, hS⟩
theorem good_shift_of (D : DefAt K mg "shift_of" D_shift_of.st D_shift_of.ps) (T : Bi mg) : Good P w K mg base 1 "shift_of" D_shift_of.ps (sp_shift_of K) := by
  refine Good.of (N := D_shift_of.N) D D_shift_of.sc (fun vs H Q E h => ?_) (fun f cdv A outer s H vs Q E hr h => ?_)
  · obtain ⟨v, w, s, c, rfl, _⟩ := h; rfl
  · obtain ⟨v, w, s, c, rfl, hd, q⟩ := h
    obtain ⟨a, b, ys, rfl, hS, hL, hB⟩ := gD_inv hd
    have nd := D_shift_of.sc.nd; have hu := hu_of hr; refine ⟨_, (pss_one (ps_ret (pe_callB (call_max2 rfl) (by rfl) T.n_max (by decide +kernel) (pa_cons pe_int (pa_cons (pe_op op_sub (pe_ix ix_tup (pv 0) pe_int (fun _ _ => rfl)) (pe_op op_mul pe_int (pv 1))) pa_nil))))), ?_⟩
    rw [show L2.start D_shift_of.N [.ref a, .int c] = [some (.ref a), some (.int c)] from rfl]
    walk_at "vc"
    refine ⟨_, hS, _, rfl, .inl ⟨by decide, by decide⟩, w, rfl, ?_⟩
    exact q
theorem good_layers_at (D : DefAt K mg "layers_at" D_layers_at.st D_layers_at.ps) (T : Bi mg) : Good P w K mg base 1 "layers_at" D_layers_at.ps (sp_layers_at K) := by
  refine Good.of (N := D_layers_at.N) D D_layers_at.sc (fun vs H Q E h => ?_) (fun f cdv A outer s H vs Q E hr h => ?_)
  · obtain ⟨v, w, s, c, rfl, _⟩ := h; rfl
  · obtain ⟨v, w, s, c, rfl, hd, hl, q⟩ := h
    obtain ⟨a, b, ys, rfl, hS, hL, hB⟩ := gD_inv hd
    have nd := D_layers_at.sc.nd; have hu := hu_of hr; refine ⟨_, (pss_cons (ps_asg (pv 0) (pg_tup (by rfl) (pgs_cons (pg_name (i := 2) nd rfl (Or.inl rfl)) (pgs_cons (pg_name (i := 3) nd rfl (Or.inl rfl)) pgs_nil))))       (pss_cons (ps_if (pt_not (pt_chain op_le op_lt pe_int (pv 1) (pv 2))) (pss_one (ps_ret pe_int)) pss_nil)       (pss_one (ps_ret (pe_callB (cr_sum rfl) (by rfl) T.n_sum (by decide +kernel) (pa_cons (pe_lc (own := [("at", 4), ("change", 5)]) (g := (gTup K 2 (gCons (gName 4) (gCons (gName 5) gNil)))) (tt := (tTest (tOp (rI0 fun i j => .bl (decide (i ≤ j))) (tVar 4) (tVar 1)))) (te := (tVar 5)) (by rfl) nd (pi_list (pv 3)) (blkOk_by (own := [("at", 4), ("change", 5)]) (N := D_layers_at.N) (sc := defScope D_layers_at.st) (by decide +kernel)) (fun _ _ _ _ _ => (pg_tup (by rfl) (pgs_cons (pg_name (i := 4) nd rfl (Or.inl rfl)) (pgs_cons (pg_name (i := 5) nd rfl (Or.inl rfl)) pgs_nil)))) (fun _ _ _ _ _ => (pts_one (pt_cmpR op_le (pv 4) (pv 1) (nomark _)))) (fun _ _ _ _ _ => (pv 5))) pa_nil)))))), ?_⟩
    rw [show L2.start D_layers_at.N [.ref a, .int c] = [some (.ref a), some (.int c), none, none, none, none] from rfl]
    walk_at "vc"
    refine ⟨_, hS, rfl, _, _, rfl, _, _, rfl, rfl, ?_⟩
    walk_at "vc"
    by_cases h0 : 0 ≤ c
    · rw [if_pos h0]
      by_cases h1 : c < w
      · rw [if_neg (by omega)]
        rw [if_pos ⟨h0, h1⟩] at q
        refine lcLv s (fun p => decide (p.1 ≤ c)) (fun p => .int p.2) rfl hL (Same.refl _) (by rw [DpAll.length hB, List.length_map]) (by omega) (fun i x p hx hp H0' Hc e Qy Qn hy hn => ?_) (fun D' H0' H' zs nD e n0 eD da => ?_)
        · obtain ⟨d, hd', hdp⟩ := DpAll.at hB hx
          rw [List.getElem?_map, hp] at hd'
          obtain rfl := (Option.some.inj hd').symm
          obtain ⟨t, rfl, hT⟩ := pD_inv hdp
          walk_at "vc"
          refine ⟨_, sqt_same e.same hT, rfl, _, _, rfl, _, _, rfl, rfl, ?_⟩
          walk_at "vc"
          by_cases hc : p.1 ≤ c
          · rw [if_pos hc]
            exact hy (decide_eq_true hc) _ _ _ (Ext.refl e.sub) (.int _)
          · rw [if_neg hc]
            exact hn (decide_eq_false hc) _ _ (Ext.refl e.sub)
        · have ez := DpAll.ints_inv (ns := (s.filter fun p => decide (p.1 ≤ c)).map (·.2)) (by rw [List.map_map]; exact da)
          subst ez
          refine ⟨D', _, rfl, SqL.of eD, ?_⟩
          rw [psum_filter]
          exact q _ e.same
      · rw [if_pos h1]
        rw [if_neg (by omega)] at q
        exact q _ (Same.refl _)
    · rw [if_neg h0]
      rw [if_neg (by omega)] at q
      exact q _ (Same.refl _)
end
end Fv

namespace Fv
open PySem PySem.Spec PyProof.Rows L2
local macro_rules | `(tactic| walk_at "vc") => `(tactic| simp only [tRet, tRetN, tAndV, tOrV, tNotV, tAnd, tOr, tNot, tB, tTest, tOp, tUn, tCB, rTyp, tCons, tNil, tVar, tC, tChain, rI0, rI, rU, tSeq, tNext, tIfS, tIf, tAsg, gName, gCons, gNil, gTup, tDrop, tTup, tLst, tCall, tIsN, tNotN, tPar, tAug, tYes, rLenSq, rIsi, rReprD, L2.tSl, tPart, tNoPart, rSlL, rCat, rRep, gSub, tRevL, CPow, rEqD, rNeD, Int.reduceToNat, tBM, rAppend, wipe, StX.tStar, sDPut, tDGet, tDGet2, tDNewK, List.map_cons, List.map_nil, rEq, rNe, rIxT, rIxL, cxK, cxKn,
  List.getElem?_cons_zero, List.getElem?_cons_succ, List.set_cons_zero, List.set_cons_succ, List.append_nil, List.nil_append, List.cons_append, List.length_cons, List.length_nil, List.cons.injEq, Option.some.injEq, V.int.injEq, V.ty.injEq, V.bl.injEq, V.ref.injEq, V.str.injEq,
  and_true, true_and, and_assoc, exists_eq_left', exists_eq_left, exists_and_left, exists_eq', exists_eq, exists_eq_right, exists_eq_right', decide_eq_true_eq, Bool.not_eq_true', Bool.false_eq_true, if_true, if_false, reduceCtorEq, false_and, and_false, exists_false, decide_true, decide_false, Nat.zero_add, ite_true, ite_false, V.int.injEq, decide_eq_false_iff_not])

def emb (c : Steps) : List (Key × V) := c.map fun p => ((Sum.inl p.1 : Key), V.int p.2)
theorem emb_val (k : Int) : ∀ c : Steps, valV (emb c) (Sum.inl k : Key) = (getI c k).map V.int
  | [] => rfl
  | p :: r => by
    show valV (((Sum.inl p.1 : Key), V.int p.2) :: emb r) (Sum.inl k) = _
    by_cases h : p.1 = k
    · rw [valV_pos (by show (Sum.inl p.1 : Key) = Sum.inl k; rw [h]), getI_pos h]; rfl
    · rw [valV_neg (by intro e; exact h (Sum.inl.inj e)), getI_neg h, emb_val k r]
theorem emb_put (c : Steps) (k v : Int) : putK (emb c) (Sum.inl k : Key) (V.int v) = emb (putI c k v) := by
  unfold putK putI
  rw [valV_any, emb_val, getI_any]
  have e : ((getI c k).map V.int).isSome = (getI c k).isSome := by cases getI c k <;> rfl
  rw [e]
  split
  · unfold emb
    rw [List.map_map, List.map_map]
    refine List.map_congr_left fun p _ => ?_
    show (if (Sum.inl p.1 : Key) = Sum.inl k then ((Sum.inl p.1 : Key), V.int v) else (Sum.inl p.1, V.int p.2)) = _
    by_cases h : p.1 = k
    · rw [if_pos (by rw [h])]
      show _ = ((Sum.inl (if p.1 = k then (p.1, v) else p).1 : Key), V.int (if p.1 = k then (p.1, v) else p).2)
      rw [if_pos h]
    · rw [if_neg (by intro e; exact h (Sum.inl.inj e))]
      show _ = ((Sum.inl (if p.1 = k then (p.1, v) else p).1 : Key), V.int (if p.1 = k then (p.1, v) else p).2)
      rw [if_neg h]
  · unfold emb
    rw [List.map_append]; rfl
theorem emb_keys (c : Steps) : (emb c).map (·.1) = (c.map (·.1)).map (Sum.inl : Int → Key) := by
  unfold emb
  rw [List.map_map, List.map_map]; rfl
def sp_ground_behind (K : PySem.W.Frag) : Sp := fun vs H Q _ => ∃ (v : V) (w : Int) (s : Steps) (h : Ht) (c : Int) (H0 : Hp), vs = [v, .int c] ∧ Same H0 H ∧ Dp K H0 v (gD w s) ∧ GOk w h s ∧ 0 ≤ c ∧ c < w ∧ s.length ≤ 50 ∧
  ∀ (H0' H' : Hp) (v' : V) (s' : Steps), Ext H0 H H0' H' → Dp K H0' v' (gD (foldW w c) s') → GOk (foldW w c) (foldH w h c) s' → s'.length ≤ s.length + 1 → Q v' H'
section
variable {P : Program} {w : World} {K : PySem.W.Frag} {mg : Str → Option Value} {base : Heap}
theorem good_ground_behind (D : DefAt K mg "ground_behind" D_ground_behind.st D_ground_behind.ps) (T : Bi mg)
    (h_layers_at : Good P w K mg base 1 "layers_at" D_layers_at.ps (sp_layers_at K)) (h_shift_of : Good P w K mg base 1 "shift_of" D_shift_of.ps (sp_shift_of K)) : Good P w K mg base 2 "ground_behind" D_ground_behind.ps (sp_ground_behind K) := by
  refine Good.of (N := D_ground_behind.N) D D_ground_behind.sc (fun vs H Q E h => ?_) (fun f cdv A outer s H vs Q E hr h => ?_)
  · obtain ⟨v, w, s, h, c, H0, rfl, _⟩ := h; rfl
  · obtain ⟨v, w, s, h, c, H0, rfl, sH, hd, g, hc, hw, hl, q⟩ := h
    obtain ⟨a, b, ys, rfl, hS, hL, hB⟩ := gD_inv hd
    obtain ⟨f_layers_at, fd_layers_at, m_layers_at, k_layers_at, b_layers_at, G_layers_at⟩ := h_layers_at; obtain ⟨f_shift_of, fd_shift_of, m_shift_of, k_shift_of, b_shift_of, G_shift_of⟩ := h_shift_of
    have nd := D_ground_behind.sc.nd; have hu := hu_of hr; refine ⟨_, (pss_cons (ps_asg (pv 0) (pg_tup (by rfl) (pgs_cons (pg_name (i := 2) nd rfl (Or.inl rfl)) (pgs_cons (pg_name (i := 3) nd rfl (Or.inl rfl)) pgs_nil))))       (pss_cons (ps_set (i := 4) nd rfl (Or.inl rfl) (pe_call G_shift_of (hr.mono (by decide)) (by rfl) m_shift_of k_shift_of b_shift_of .nil pass0 (pa_cons (pv 0) (pa_cons (pv 1) pa_nil))))       (pss_cons (ps_set (i := 5) nd rfl (Or.inl rfl) (pe_tup (pa_cons (pv 2) (pa_cons (pe_un un_neg (pe_call G_layers_at (hr.mono (by decide)) (by rfl) m_layers_at k_layers_at b_layers_at .nil pass0 (pa_cons (pv 0) (pa_cons (pe_op op_sub (pv 2) pe_int) pa_nil)))) pa_nil))))       (pss_cons (ps_set (i := 6) nd rfl (Or.inr rfl) pe_dnewK)       (pss_cons (ps_for PassesOwn.never (by rfl) (pi_list (pe_lst (StX.pa_star (pv 3) (pa_cons (pv 5) pa_nil)))) (pg_tup (by rfl) (pgs_cons (pg_name (i := 7) nd rfl (Or.inl rfl)) (pgs_cons (pg_name (i := 8) nd rfl (Or.inl rfl)) pgs_nil))) (pss_one (ps_if (pt_cmpR op_lt (pv 7) (pv 1) (nomark _)) (pss_cons (ps_set (i := 9) nd rfl (Or.inl rfl) (pe_op op_add (pv 7) (pv 4)))       (pss_one (ps_dput hu (pv 6) (pv 9) (pe_op op_add (pe_dget2 hu (pv 6) (pv 9) pe_int ⟨by rfl, by rfl, by rfl, by rfl⟩) (pv 8)) (by rfl)))) (pss_one (ps_if (pt_cmpR op_gt (pv 7) (pv 1) (nomark _)) (pss_cons (ps_set (i := 9) nd rfl (Or.inl rfl) (pe_op op_add (pe_op op_sub (pe_op op_mul pe_int (pv 1)) (pv 7)) (pv 4)))       (pss_one (ps_dput hu (pv 6) (pv 9) (pe_op op_sub (pe_dget2 hu (pv 6) (pv 9) pe_int ⟨by rfl, by rfl, by rfl, by rfl⟩) (pv 8)) (by rfl)))) pss_nil)))))       (pss_cons (ps_setLc (i := 10) (own := [("at", 7)]) (g := (gName 7)) (tt := (tTest (tOp rNe (tDGet (tVar 6) (tVar 7)) (tC (.int 0))))) (te := (tTup (tCons (tVar 7) (tCons (tDGet (tVar 6) (tVar 7)) tNil)))) (by rfl) nd rfl rfl (sw_true rfl rfl rfl (by decide +kernel)) (pi_list (pe_callB (call_sortedDI rfl) (by rfl) T.n_sorted (by decide +kernel) (pa_cons (pv 6) pa_nil))) (blkOk_by (own := [("at", 7)]) (N := D_ground_behind.N) (sc := defScope D_ground_behind.st) (by decide +kernel)) (fun _ _ _ _ _ => (pg_name (i := 7) nd rfl (Or.inl rfl))) (fun _ _ _ _ _ => (pts_one (pt_cmpR op_ne (pe_dget hu (pv 6) (pv 7) (fun _ _ => rfl)) pe_int (nomark _)))) (fun _ _ _ _ _ => (pe_tup (pa_cons (pv 7) (pa_cons (pe_dget hu (pv 6) (pv 7) (fun _ _ => rfl)) pa_nil)))))       (pss_one (ps_ret (pe_tup (pa_cons (pe_callB (call_max2 rfl) (by rfl) T.n_max (by decide +kernel) (pa_cons (pv 1) (pa_cons (pe_op op_sub (pv 2) (pv 1)) pa_nil))) (pa_cons (pv 10) pa_nil))))))))))), ?_⟩
    rw [show L2.start D_ground_behind.N [.ref a, .int c] = [some (.ref a), some (.int c), none, none, none, none, none, none, none, none, none] from rfl]
    walk_at "vc"
    have ew : (if 0 ≤ w - 1 ∧ w - 1 < w then psum s (w - 1) else 0) = h (w - 1) := by
      rw [if_pos (by omega), g.sum _ (by omega) (by omega)]
    have hys : ys.length = s.length := by rw [DpAll.length hB, List.length_map]
    refine ⟨_, sqt_same sH hS, rfl, _, _, rfl, _, _, rfl, rfl, _, w, s, c, rfl, Dp.mono sH hd, w, rfl, _, w, s, _, rfl, Dp.mono sH hd, by omega, fun H1 s1 => ⟨h (w - 1), by rw [ew], by decide, fun T hT d hdn => ?_⟩⟩
    have e0 : Ext H0 H H0 H1 := Ext.of sH s1
    have eT := e0.alloc (.tup [V.int w, V.int (-h (w - 1))]) hT
    have ed := eT.make (.dK []) hdn
    have nHd : H d = none := eT.same.free hdn
    have nTd : (upd H0 T (.tup [V.int w, V.int (-h (w - 1))])) d = none := eT.sub.free hdn
    refine ⟨.ref b, rfl, b, ys, rfl, .inr (ed.same.seq (sH.seq hL)), .ref T, rfl, sz_of (by rw [List.length_append, hys]; show s.length + 1 ≤ 100000; omega), fun l hl' => ?_⟩
    have el := ed.alloc (.lst (ys ++ [V.ref T])) hl'
    have ndl : d ≠ l := fun e => by rw [← e, upd_same] at hl'; cases hl'
    generalize hHS : upd (upd H0 T (.tup [V.int w, V.int (-h (w - 1))])) l (.lst (ys ++ [V.ref T])) = HS at el
    have nSd : HS d = none := by rw [← hHS, upd_ne ndl]; exact nTd
    have sHS : Same H0 HS := el.grow
    have hTS : HS T = some (.tup [V.int w, V.int (-h (w - 1))]) := by
      have : T ≠ l := fun e => by
        rw [← e] at hl'
        by_cases z : T = d
        · rw [z, upd_same] at hl'; cases hl'
        · rw [upd_ne z, upd_same] at hl'; cases hl'
      rw [← hHS, upd_ne this, upd_same]
    have hB' : DpAll K HS (ys ++ [V.ref T]) ((s ++ [(w, -h (w - 1))]).map pD) := by
      rw [List.map_append]
      exact DpAll.app (DpAll.mono sHS hB) (DpAll.one (Dp.tup_of hTS (.cons (.int _) (DpAll.one (.int _)))))
    refine ⟨l, rfl, ⟨_, SqL.of upd_same⟩, for_list (K := K) (a := l) (xs := ys ++ [V.ref T]) (fun i σ H' => ∃ x7 x8 x9, σ = [some (.ref a), some (.int c), some (.int w), some (.ref b), some (.int (shiftOf w c)), some (.ref T), some (.ref d), x7, x8, x9, none] ∧
      Ext H0 H HS H' ∧ H' d = some (.dK (emb (changesOf c (shiftOf w c) ((s ++ [(w, -h (w - 1))]).take i))))) ⟨none, none, none, rfl, el, ?_⟩ ?_ ?_ ?_⟩
    · rw [upd_ne ndl, upd_same]; rfl
    · rintro i σ H' _ ⟨x7, x8, x9, rfl, e, _⟩
      exact SqL.of (e.sub l _ (by rw [← hHS, upd_same]))
    · rintro i x σ H' hx ⟨x7, x8, x9, rfl, e, ed'⟩
      obtain ⟨dd, hdd, hp⟩ := DpAll.at hB' hx
      rw [List.getElem?_map] at hdd
      obtain ⟨p, hpi, rfl⟩ := Option.map_eq_some_iff.mp hdd
      obtain ⟨t, rfl, hTt⟩ := pD_inv hp
      have hstep : changesOf c (shiftOf w c) ((s ++ [(w, -h (w - 1))]).take (i + 1)) = turnOf c (shiftOf w c) (changesOf c (shiftOf w c) ((s ++ [(w, -h (w - 1))]).take i)) p := by
        unfold changesOf
        rw [take_more hpi, List.foldl_append]; rfl
      have hlen : (emb (changesOf c (shiftOf w c) ((s ++ [(w, -h (w - 1))]).take i))).length < sizeLine := by
        have g1 := (gath_all c (shiftOf w c) ((s ++ [(w, -h (w - 1))]).take i)).len
        have g2 : ((s ++ [(w, -h (w - 1))]).take i).length ≤ s.length + 1 := by
          rw [List.length_take, List.length_append]; exact Nat.min_le_right _ _
        refine sz_lt ?_
        unfold emb
        rw [List.length_map]; omega
      walk_at "vc"
      refine ⟨_, sqt_same e.sub hTt, rfl, _, _, rfl, _, _, rfl, rfl, ?_⟩
      walk_at "vc"
      generalize hC : changesOf c (shiftOf w c) ((s ++ [(w, -h (w - 1))]).take i) = C at *
      have fin : ∀ (k v : Int), turnOf c (shiftOf w c) C p = putI C k v →
          Ext H0 H HS (upd H' d (.dK (putK (emb C) (Sum.inl k : Key) (V.int v)))) ∧ (upd H' d (.dK (putK (emb C) (Sum.inl k : Key) (V.int v)))) d = some (.dK (emb (changesOf c (shiftOf w c) ((s ++ [(w, -h (w - 1))]).take (i + 1))))) := fun k v hk =>
        ⟨e.mut _ nHd nSd, by rw [upd_same, hstep, hk, emb_put]⟩
      have gd : ∀ k : Int, (valV (emb C) (Sum.inl k : Key)).getD (V.int 0) = V.int ((getI C k).getD 0) := fun k => by
        rw [emb_val]; cases getI C k <;> rfl
      by_cases h1 : p.1 < c
      · rw [if_pos h1]
        exact ⟨.inl ⟨_, .inl ed'⟩, _, DGet.k (k := (Sum.inl (p.1 + shiftOf w c) : Key)) ed', _, gd _, _, DPut.k (k := (Sum.inl (p.1 + shiftOf w c) : Key)) ed' hlen, fin _ _ (if_pos h1)⟩
      · rw [if_neg h1]
        by_cases h2 : c < p.1
        · rw [if_pos h2]
          exact ⟨.inl ⟨by decide, by decide⟩, .inl ⟨_, .inl ed'⟩, _, DGet.k (k := (Sum.inl (2 * c - p.1 + shiftOf w c) : Key)) ed', _, gd _, _, DPut.k (k := (Sum.inl (2 * c - p.1 + shiftOf w c) : Key)) ed' hlen,
            fin _ _ (by unfold turnOf; rw [if_neg h1, if_pos h2]; unfold addI; rw [← Int.sub_eq_add_neg])⟩
        · rw [if_neg h2]
          refine ⟨e, ?_⟩
          rw [ed', hstep]
          unfold turnOf
          rw [if_neg h1, if_neg h2]
    · rintro σ H' ⟨x7, x8, x9, rfl, e, ed'⟩
      rw [show (s ++ [(w, -h (w - 1))]).take (ys ++ [V.ref T]).length = s ++ [(w, -h (w - 1))] by
        rw [List.length_append, hys]
        exact List.take_of_length_le (by rw [List.length_append]; exact Nat.le_refl _)] at ed'
      have G := gath_all c (shiftOf w c) (s ++ [(w, -h (w - 1))])
      have hlen : (changesOf c (shiftOf w c) (s ++ [(w, -h (w - 1))])).length ≤ s.length + 1 := by
        have := G.len
        rw [List.length_append] at this; exact this
      generalize hC : changesOf c (shiftOf w c) (s ++ [(w, -h (w - 1))]) = C at *
      walk_at "vc"
      refine lcL (fun k => decide ((getI C k).getD 0 ≠ 0)) (fun k => pD (k, (getI C k).getD 0)) ⟨_, rfl, d, rfl, _, .inl ed', C.map (·.1), emb_keys C, by rw [List.length_map]; omega, fun zs p hp hs np => ?_⟩ ?_
      · have ep := e.alloc (.lst (zs.map V.int)) np
        have ndp : d ≠ p := fun z => by rw [← z, ed'] at np; cases np
        refine ⟨zs, p, zs.map V.int, _, rfl, SqL.of upd_same, ep.sub, by rw [List.length_map], by rw [hp.length_eq, List.length_map]; omega, fun i x k hx hk H0' Hc e2 Qy Qn hy hn => ?_, fun D2 H0' H2 zz nD e2 n0 eD da => ?_⟩
        · rw [List.getElem?_map, hk] at hx
          obtain rfl := (Option.some.inj hx).symm
          have hd2 : Hc d = some (.dK (emb C)) := e2.same d _ (by rw [upd_ne ndp]; exact ed')
          have hmem : k ∈ C.map (·.1) := hp.mem_iff.mp (List.mem_of_getElem? hk)
          have hg : valV (emb C) (Sum.inl k : Key) = some (V.int ((getI C k).getD 0)) := by
            rw [emb_val]
            cases z : getI C k with
            | none => exact absurd hmem (getI_none C k z)
            | some v => rfl
          have dg : DGet Hc d (V.int k) (some (V.int ((getI C k).getD 0))) := by
            have := DGet.k (k := (Sum.inl k : Key)) hd2
            rw [hg] at this; exact this
          walk_at "vc"
          refine ⟨_, dg, rfl, ?_⟩
          by_cases hz : (getI C k).getD 0 = 0
          · rw [if_neg (by rw [hz]; exact fun z => z rfl)]
            exact hn (decide_eq_false fun z => z hz) _ _ (Ext.refl e2.sub)
          · rw [if_pos (fun z => hz (V.int.inj z))]
            exact ⟨_, dg, by decide, fun q' hq' => hy (decide_eq_true hz) _ _ _ ((Ext.refl e2.sub).alloc _ hq') (Dp.tup_of upd_same (.cons (.int _) (DpAll.one (.int _))))⟩
        · have eK := (ep.trans e2).keep (ep.same.free nD) n0 eD
          refine ⟨by decide, fun T2 hT2 => ?_⟩
          have hok := fold_ok (ys := zs) g hc hw (by rw [hC]; exact hp) hs
          rw [hC] at hok
          have hlf : (leftOf C zs).length ≤ s.length + 1 := Nat.le_trans (leftOf_length hp) hlen
          refine q _ _ _ (leftOf C zs) (eK.alloc _ hT2) ?_ hok hlf
          have nTD : D2 ≠ T2 := fun z => by rw [← z, eD] at hT2; cases hT2
          have n0T : H0' T2 = none := (ep.trans e2).sub.free hT2
          refine Dp.tup_of upd_same (.cons (.int _) (DpAll.one (Dp.lst_of (by rw [upd_ne nTD, upd_same]) ?_)))
          have em : (leftOf C zs).map pD = (zs.filter fun k => decide ((getI C k).getD 0 ≠ 0)).map fun k => pD (k, (getI C k).getD 0) := by
            unfold leftOf
            rw [List.filter_map, List.map_map]; rfl
          rw [em]
          exact DpAll.mono ((same_new n0).trans (same_new (by rw [upd_ne (Ne.symm nTD)]; exact n0T))) da
      · rintro Q1 Q2 hQ ⟨v, ev, a', e1, kv, r, ks, ek, hl2, k⟩
        exact ⟨v, ev, a', e1, kv, r, ks, ek, hl2, fun ys p h1 h2 h3 => hQ _ _ (k ys p h1 h2 h3)⟩
end
end Fv

namespace Fv
open PySem PySem.Spec PyProof.Rows L2
local macro_rules | `(tactic| walk_at "vc") => `(tactic| simp only [tRet, tRetN, tAndV, tOrV, tNotV, tAnd, tOr, tNot, tB, tTest, tOp, tUn, tCB, rTyp, tCons, tNil, tVar, tC, tChain, rI0, rI, rU, tSeq, tNext, tIfS, tIf, tAsg, gName, gCons, gNil, gTup, tDrop, tTup, tLst, tCall, tIsN, tNotN, tPar, tAug, tYes, rLenSq, rIsi, rReprD, L2.tSl, tPart, tNoPart, rSlL, rCat, rRep, gSub, tRevL, CPow, rEqD, rNeD, Int.reduceToNat, tBM, rAppend, wipe, StX.tStar, sDPut, tDGet, tDGet2, tDNewK, List.map_cons, List.map_nil, rEq, rNe, rIxT, rIxL, cxK, cxKn,
  List.getElem?_cons_zero, List.getElem?_cons_succ, List.set_cons_zero, List.set_cons_succ, List.append_nil, List.nil_append, List.cons_append, List.length_cons, List.length_nil, List.cons.injEq, Option.some.injEq, V.int.injEq, V.ty.injEq, V.bl.injEq, V.ref.injEq, V.str.injEq,
  and_true, true_and, and_assoc, exists_eq_left', exists_eq_left, exists_and_left, exists_eq', exists_eq, exists_eq_right, exists_eq_right', decide_eq_true_eq, Bool.not_eq_true', Bool.false_eq_true, if_true, if_false, reduceCtorEq, false_and, and_false, exists_false, decide_true, decide_false, Nat.zero_add, ite_true, ite_false, V.int.injEq, decide_eq_false_iff_not])

inductive Deed
  | turn
  | fold (over : Bool) (c : Int)
def seqOf : PyData → Option (List PyData)
  | .list ds => some ds
  | .tuple ds => some ds
  | _ => none
def deedOfs : List PyData → Option Deed
  | [.str x] => if x = "turn" then some .turn else none
  | [.str x, .int c] => if x = "turn" then none else if x = "over" then some (.fold true c) else if x = "under" then some (.fold false c) else none
  | _ => none
def deedOf (d : PyData) : Option Deed := (seqOf d).bind deedOfs
def okDeed (w : Int) : Option Deed → Bool
  | some .turn => true
  | some (.fold _ c) => decide (1 ≤ c) && decide (c ≤ w - 1)
  | none => false
def lineD : Deed → Int
  | .turn => 0
  | .fold _ c => c
/-- a list or a tuple of such data -/
def SeqD (K : PySem.W.Frag) (H : Hp) (v : V) (ds : List PyData) : Prop := ∃ (a : Addr) (xs : List V), v = .ref a ∧ (SqL K H a xs ∨ SqT K H a xs) ∧ DpAll K H xs ds
def sp_is_deed (K : PySem.W.Frag) : Sp := fun vs H Q _ => ∃ (v : V) (d : PyData) (w : Int), vs = [v, .int w] ∧ Dp K H v d ∧ ∀ H', Same H H' → Q (.bl (okDeed w (deedOf d))) H'
def sp_line_of (K : PySem.W.Frag) : Sp := fun vs H Q _ => ∃ (v : V) (d : PyData) (dd : Deed), vs = [v] ∧ Dp K H v d ∧ deedOf d = some dd ∧ Q (.int (lineD dd)) H
section
variable {P : Program} {w : World} {K : PySem.W.Frag} {mg : Str → Option Value} {base : Heap}
theorem seqD_of {H : Hp} {v : V} {d : PyData} {ds : List PyData} (h : Dp K H v d) (e : seqOf d = some ds) : SeqD K H v ds := by
  cases d with
  | list es => obtain rfl := Option.some.inj e; obtain ⟨a, xs, rfl, h1, h2⟩ := Dp.inv_lst h; exact ⟨a, xs, rfl, .inl h1, h2⟩
  | tuple es => obtain rfl := Option.some.inj e; obtain ⟨a, xs, rfl, h1, h2⟩ := Dp.inv_tup h; exact ⟨a, xs, rfl, .inr h1, h2⟩
  | _ => cases e
theorem sq_same {H H' : Hp} {a : Addr} {xs : List V} (e : Same H H') (h : SqL K H a xs ∨ SqT K H a xs) : SqL K H' a xs ∨ SqT K H' a xs := h.imp e.seq (sqt_same e)
theorem rix_at {H : Hp} {a : Addr} {xs : List V} {i : Int} {v : V} {Q : VK} (h : SqL K H a xs ∨ SqT K H a xs) (e : atI xs i = some v) (q : Q v H) : rIx K (.ref a) (.int i) H Q := by
  rcases h with h | h
  · exact .inl ⟨a, xs, i, v, rfl, rfl, h, e, q⟩
  · exact .inr (.inl ⟨a, xs, i, v, rfl, rfl, h, e, q⟩)
theorem atI_0 {v : V} {r : List V} : atI (v :: r) 0 = some v := by
  unfold atI ixN
  rw [if_pos (by omega), if_pos (by rw [List.length_cons]; omega)]; rfl
theorem atI_1 {v u : V} {r : List V} : atI (v :: u :: r) 1 = some u := by
  unfold atI ixN
  rw [if_pos (by omega), if_pos (by rw [List.length_cons, List.length_cons]; omega)]; rfl
theorem isSeqD_iff (d : PyData) : isSeqD d = (seqOf d).isSome := by cases d <;> rfl
theorem str_flip (x y : Str) : (x == y) = decide (y = x) := by
  rw [Bool.eq_iff_iff, beq_iff_eq, decide_eq_true_eq]
  exact ⟨fun h => h.symm, fun h => h.symm⟩
theorem good_is_deed (D : DefAt K mg "is_deed" D_is_deed.st D_is_deed.ps) (T : Bi mg) {tP tD : Tok} {aF : Addr} (C : Co K mg tP tD aF)
    (h_is_among : Good P w K mg base 2 "is_among" D_is_among.ps (sp_is_among K)) (h_is_listing : Good P w K mg base 1 "is_listing" D_is_listing.ps (sp_is_listing K)) :
    Good P w K mg base 3 "is_deed" D_is_deed.ps (sp_is_deed K) := by
  refine Good.of (N := D_is_deed.N) D D_is_deed.sc (fun vs H Q E h => ?_) (fun f cdv A outer s H vs Q E hr h => ?_)
  · obtain ⟨v, d, w, rfl, _⟩ := h; rfl
  · obtain ⟨v, d, w, rfl, hd, q⟩ := h
    obtain ⟨f_is_among, fd_is_among, m_is_among, k_is_among, b_is_among, G_is_among⟩ := h_is_among; obtain ⟨f_is_listing, fd_is_listing, m_is_listing, k_is_listing, b_is_listing, G_is_listing⟩ := h_is_listing
    have nd := D_is_deed.sc.nd; have hu := hu_of hr; refine ⟨_, (pss_cons (ps_if (PW.pt (pw_or (pt_not (pt_val (pe_call G_is_listing (hr.mono (by decide)) (by rfl) m_is_listing k_is_listing b_is_listing .nil pass0 (pa_cons (pv 0) pa_nil)))) (pw_or1 (pt_cmpR op_eq (pe_callB call_len_seq (by rfl) T.n_len (by decide +kernel) (pa_cons (pv 0) pa_nil)) pe_int (nomark _))))) (pss_one (ps_ret pe_bl)) pss_nil)       (pss_cons (ps_set (i := 2) nd rfl (Or.inl rfl) (pe_ix ix_seq (pv 0) pe_int (fun _ _ => rfl)))       (pss_cons (ps_if (pt_cmpR op_notTyB (pe_callTy call_type1 (by rfl) T.n_type (by decide +kernel) (pa_cons (pv 2) pa_nil)) (pe_bltn (v := .ty "str") (u := .type "str") (by rfl) T.n_str (by decide +kernel) (by rfl)) (nomark _)) (pss_one (ps_ret pe_bl)) pss_nil)       (pss_cons (ps_if (pt_cmpR op_eq (pv 2) pe_str (nomark _)) (pss_one (ps_ret (pe_cmpR op_eq (pe_callB call_len_seq (by rfl) T.n_len (by decide +kernel) (pa_cons (pv 0) pa_nil)) pe_int (nomark _)))) pss_nil)       (pss_one (ps_ret (pe_and (pe_cmpR op_in_seq (pv 2) (pe_glob (v := V.ref aF) (by rfl) C.c_FOLDS rfl) (by rfl)) (pe_and (pe_cmpR op_eq (pe_callB call_len_seq (by rfl) T.n_len (by decide +kernel) (pa_cons (pv 0) pa_nil)) pe_int (nomark _)) (pe_one (pe_call G_is_among (hr.mono (by decide)) (by rfl) m_is_among k_is_among b_is_among .nil pass0 (pa_cons (pe_ix ix_seq (pv 0) pe_int (fun _ _ => rfl)) (pa_cons pe_int (pa_cons (pe_op op_sub (pv 1) pe_int) pa_nil))))))))))))), ?_⟩
    rw [show L2.start D_is_deed.N [v, .int w] = [some (v), some (.int w), none] from rfl]
    walk_at "vc"
    refine ⟨v, d, rfl, hd, fun H1 s1 => ⟨_, rfl, ?_⟩⟩
    have hd1 := Dp.mono s1 hd
    have q1 := fun H' (e : Same H1 H') => q H' (s1.trans e)
    cases hq : seqOf d with
    | none =>
      rw [isSeqD_iff, hq, if_pos (by rfl)]
      have e : deedOf d = none := by unfold deedOf; rw [hq]; rfl
      rw [e] at q1
      exact q1 _ (Same.refl _)
    | some ds =>
      have e : deedOf d = deedOfs ds := by unfold deedOf; rw [hq]; rfl
      rw [e] at q1
      obtain ⟨a, xs, rfl, hS, hA⟩ := seqD_of hd1 hq
      rw [isSeqD_iff, hq, if_neg (by simp)]
      refine ⟨a, rfl, xs, hS, rfl, ?_⟩
      cases ds with
      | nil =>
        obtain rfl := DpAll.inv_nil hA
        rw [if_pos (by rfl)]
        exact q1 _ (Same.refl _)
      | cons d0 r =>
        obtain ⟨v0, xr, rfl, h0, hA'⟩ := DpAll.inv_cons hA
        have hlen := DpAll.length hA'
        rw [if_neg (by rw [List.length_cons]; omega)]
        refine rix_at hS atI_0 ?_
        walk_at "vc"
        refine ⟨_, Dp.ty h0, ?_⟩
        refine ⟨_, _, rfl, rfl, _, rfl, ?_⟩
        cases h0 with
        | str x =>
          refine (if_neg (show ¬ (!decide ("str" = "str")) = true by decide)).mpr ⟨rfl, ?_⟩
          by_cases hx : x = "turn"
          · subst hx
            rw [if_pos rfl]
            refine ⟨_, hS, rfl, ?_⟩
            have e3 : okDeed w (deedOfs (.str "turn" :: r)) = decide ((((V.str "turn" :: xr : List V).length : Nat) : Int) = 1) := by
              rw [List.length_cons, hlen]
              cases r with
              | nil => rfl
              | cons d1 r1 =>
                have e4 : okDeed w (deedOfs (.str "turn" :: d1 :: r1)) = false := by
                  cases r1 with
                  | nil => cases d1 <;> rfl
                  | cons => cases d1 <;> rfl
                rw [e4]
                exact (decide_eq_false (by rw [List.length_cons]; omega)).symm
            rw [← e3]
            exact q1 _ (Same.refl _)
          · rw [if_neg (fun z => hx (V.str.inj z))]
            refine ⟨aF, _, rfl, .inr (C.folds _), rfl, rfl, _, rfl, ?_⟩
            rw [if_neg Bool.false_ne_true]
            have e3 : inV (V.str x) [V.str "over", V.str "under"] = (decide (x = "over") || decide (x = "under")) := by
              show (((("over" : Str) == x) || ((("under" : Str) == x) || false)) : Bool) = _
              rw [str_flip, str_flip, Bool.or_false]
            rw [e3]
            by_cases ho : (decide (x = "over") || decide (x = "under")) = true
            · rw [if_pos ho]
              refine ⟨_, hS, rfl, ?_⟩
              cases r with
              | nil =>
                obtain rfl := DpAll.inv_nil hA'
                refine (if_neg (show ¬ (((1 : Nat) : Int) = 2) by decide)).mpr ?_
                have e4 : okDeed w (deedOfs [.str x]) = false := by
                  show okDeed w (if x = "turn" then some .turn else none) = false
                  rw [if_neg hx]; rfl
                rw [e4] at q1
                exact q1 _ (Same.refl _)
              | cons d1 r1 =>
                obtain ⟨v1, xr1, rfl, h1, hA2⟩ := DpAll.inv_cons hA'
                have hl2 := DpAll.length hA2
                cases r1 with
                | nil =>
                  obtain rfl := DpAll.inv_nil hA2
                  rw [if_pos (by rfl)]
                  refine rix_at hS atI_1 ⟨_, d1, _, _, rfl, h1, ?_⟩
                  have e4 : okDeed w (deedOfs [.str x, d1]) = amongD d1 1 (w - 1) := by
                    cases d1 with
                    | int c =>
                      show okDeed w (if x = "turn" then none else if x = "over" then some (.fold true c) else if x = "under" then some (.fold false c) else none) = _
                      rw [if_neg hx]
                      by_cases h1 : x = "over"
                      · rw [if_pos h1]; rfl
                      · rw [if_neg h1]
                        have h2 : x = "under" := by simpa [h1] using ho
                        rw [if_pos h2]; rfl
                    | _ => rfl
                  rw [← e4]
                  exact q1 _ (Same.refl _)
                | cons d2 r2 =>
                  rw [if_neg (by rw [List.length_cons, List.length_cons, hl2, List.length_cons]; omega)]
                  have e4 : okDeed w (deedOfs (.str x :: d1 :: d2 :: r2)) = false := by cases d1 <;> rfl
                  rw [e4] at q1
                  exact q1 _ (Same.refl _)
            · rw [if_neg ho]
              have hno : x ≠ "over" ∧ x ≠ "under" := by simpa using ho
              have e4 : okDeed w (deedOfs (.str x :: r)) = false := by
                cases r with
                | nil =>
                  show okDeed w (if x = "turn" then some .turn else none) = false
                  rw [if_neg hx]; rfl
                | cons d1 r1 =>
                  cases r1 with
                  | nil =>
                    cases d1 with
                    | int c =>
                      show okDeed w (if x = "turn" then none else if x = "over" then some (.fold true c) else if x = "under" then some (.fold false c) else none) = _
                      rw [if_neg hx, if_neg hno.1, if_neg hno.2]; rfl
                    | _ => rfl
                  | cons => cases d1 <;> rfl
              rw [e4] at q1
              exact q1 _ (Same.refl _)
        | non => exact (if_pos (show (!decide ("NoneType" = "str")) = true by decide)).mpr (q1 _ (Same.refl _))
        | bl b => exact (if_pos (show (!decide ("bool" = "str")) = true by decide)).mpr (q1 _ (Same.refl _))
        | int i => exact (if_pos (show (!decide ("int" = "str")) = true by decide)).mpr (q1 _ (Same.refl _))
        | lst => exact (if_pos (show (!decide ("list" = "str")) = true by decide)).mpr (q1 _ (Same.refl _))
        | tup => exact (if_pos (show (!decide ("tuple" = "str")) = true by decide)).mpr (q1 _ (Same.refl _))
theorem deedOf_inv {H : Hp} {v : V} {d : PyData} {dd : Deed} (hd : Dp K H v d) (h : deedOf d = some dd) :
    ∃ (a : Addr) (xs : List V), v = .ref a ∧ (SqL K H a xs ∨ SqT K H a xs) ∧ ((dd = .turn ∧ xs = [.str "turn"]) ∨ ∃ o c, dd = .fold o c ∧ xs = [.str (if o then "over" else "under"), .int c]) := by
  unfold deedOf at h
  cases hq : seqOf d with
  | none => rw [hq] at h; cases h
  | some ds =>
    rw [hq] at h
    have h : deedOfs ds = some dd := h
    obtain ⟨a, xs, rfl, hS, hA⟩ := seqD_of hd hq
    refine ⟨a, xs, rfl, hS, ?_⟩
    cases ds with
    | nil => cases h
    | cons d0 r =>
      cases d0 with
      | str x =>
        cases r with
        | nil =>
          obtain ⟨v0, xr, rfl, h0, hA'⟩ := DpAll.inv_cons hA
          obtain rfl := Dp.inv_str h0
          obtain rfl := DpAll.inv_nil hA'
          have h : (if x = "turn" then some Deed.turn else none) = some dd := h
          by_cases e : x = "turn"
          · rw [if_pos e] at h
            exact .inl ⟨(Option.some.inj h).symm, by rw [e]⟩
          · rw [if_neg e] at h; cases h
        | cons d1 r1 =>
          cases r1 with
          | nil =>
            cases d1 with
            | int c =>
              obtain ⟨v0, xr, rfl, h0, hA'⟩ := DpAll.inv_cons hA
              obtain ⟨v1, xr1, rfl, h1, hA2⟩ := DpAll.inv_cons hA'
              obtain rfl := Dp.inv_str h0
              obtain rfl := Dp.inv_int h1
              obtain rfl := DpAll.inv_nil hA2
              have h : (if x = "turn" then none else if x = "over" then some (Deed.fold true c) else if x = "under" then some (Deed.fold false c) else none) = some dd := h
              by_cases e : x = "turn"
              · rw [if_pos e] at h; cases h
              · rw [if_neg e] at h
                by_cases e1 : x = "over"
                · rw [if_pos e1] at h
                  exact .inr ⟨true, c, (Option.some.inj h).symm, by rw [e1]; rfl⟩
                · rw [if_neg e1] at h
                  by_cases e2 : x = "under"
                  · rw [if_pos e2] at h
                    exact .inr ⟨false, c, (Option.some.inj h).symm, by rw [e2]; rfl⟩
                  · rw [if_neg e2] at h; cases h
            | _ => cases h
          | cons => cases d1 <;> cases h
      | _ => cases h
theorem good_line_of (D : DefAt K mg "line_of" D_line_of.st D_line_of.ps) (T : Bi mg) : Good P w K mg base 1 "line_of" D_line_of.ps (sp_line_of K) := by
  refine Good.of (N := D_line_of.N) D D_line_of.sc (fun vs H Q E h => ?_) (fun f cdv A outer s H vs Q E hr h => ?_)
  · obtain ⟨v, d, dd, rfl, _⟩ := h; rfl
  · obtain ⟨v, d, dd, rfl, hd, hdd, q⟩ := h
    have nd := D_line_of.sc.nd; have hu := hu_of hr; refine ⟨_, (pss_one (ps_ret (pe_ifExp (pt_cmpR op_eq (pe_ix ix_seq (pv 0) pe_int (fun _ _ => rfl)) pe_str (nomark _)) pe_int (pe_ix ix_seq (pv 0) pe_int (fun _ _ => rfl))))), ?_⟩
    rw [show L2.start D_line_of.N [v] = [some (v)] from rfl]
    walk_at "vc"
    obtain ⟨a, xs, rfl, hS, hc⟩ := deedOf_inv hd hdd
    rcases hc with ⟨rfl, rfl⟩ | ⟨o, c, rfl, rfl⟩
    · exact rix_at hS rfl ⟨rfl, by rw [if_pos rfl]; exact q⟩
    · refine rix_at hS rfl ⟨rfl, ?_⟩
      rw [if_neg (by cases o <;> (intro z; exact absurd (V.str.inj z) (by decide)))]
      exact rix_at hS rfl q
end
end Fv

namespace Fv
open PySem PySem.Spec PyProof.Rows L2
local macro_rules | `(tactic| walk_at "vc") => `(tactic| simp only [tRet, tRetN, tAndV, tOrV, tNotV, tAnd, tOr, tNot, tB, tTest, tOp, tUn, tCB, rTyp, tCons, tNil, tVar, tC, tChain, rI0, rI, rU, tSeq, tNext, tIfS, tIf, tAsg, gName, gCons, gNil, gTup, tDrop, tTup, tLst, tCall, tIsN, tNotN, tPar, tAug, tYes, rLenSq, rIsi, rReprD, L2.tSl, tPart, tNoPart, rSlL, rCat, rRep, gSub, tRevL, CPow, rEqD, rNeD, Int.reduceToNat, tBM, rAppend, wipe, StX.tStar, sDPut, tDGet, tDGet2, tDNewK, List.map_cons, List.map_nil, rEq, rNe, rIxT, rIxL, cxK, cxKn,
  List.getElem?_cons_zero, List.getElem?_cons_succ, List.set_cons_zero, List.set_cons_succ, List.append_nil, List.nil_append, List.cons_append, List.length_cons, List.length_nil, List.cons.injEq, Option.some.injEq, V.int.injEq, V.ty.injEq, V.bl.injEq, V.ref.injEq, V.str.injEq,
  and_true, true_and, and_assoc, exists_eq_left', exists_eq_left, exists_and_left, exists_eq', exists_eq, exists_eq_right, exists_eq_right', decide_eq_true_eq, Bool.not_eq_true', Bool.false_eq_true, if_true, if_false, reduceCtorEq, false_and, and_false, exists_false, decide_true, decide_false, Nat.zero_add, ite_true, ite_false, V.int.injEq, decide_eq_false_iff_not])

/-! ### rows: what lies there behind none, one .. all deeds -/
def stepS (st : Int × Ht) (d : Deed) : Int × Ht := (foldW st.1 (lineD d), foldH st.1 st.2 (lineD d))
def stAt (st : Int × Ht) (ds : List Deed) : Int × Ht := ds.foldl stepS st
def flatH (n : Int) : Ht := fun x => if x < 0 ∨ n ≤ x then 0 else 1
def st0 (n : Int) : Int × Ht := (n, flatH n)
/-- each deed is let by what lies there -/
def okRow (st : Int × Ht) : List Deed → Prop
  | [] => True
  | d :: r => okDeed st.1 (some d) = true ∧ okRow (stepS st d) r
/-- the data of a row of a strip of n places -/
structure RowD (n : Int) (d : PyData) (deeds : List Deed) : Prop where
  lo : 1 ≤ n
  hi : n ≤ 10 ^ 30
  seq : ∃ ds, seqOf d = some ds ∧ ds.map deedOf = deeds.map some
  len : deeds.length ≤ 40
  ok : okRow (st0 n) deeds
/-- the grounds behind none, one .. so many deeds: their steps -/
def GsTo (n : Int) (deeds : List Deed) (k : Nat) (ss : List Steps) : Prop :=
  ss.length = k + 1 ∧ ∀ i, i ≤ k → ∃ s, ss[i]? = some s ∧ GOk (stAt (st0 n) (deeds.take i)).1 (stAt (st0 n) (deeds.take i)).2 s ∧ s.length ≤ i + 1
def GsOk (n : Int) (deeds : List Deed) (ss : List Steps) : Prop := GsTo n deeds deeds.length ss
def gsD (n : Int) (deeds : List Deed) (ss : List Steps) : List PyData := ss.mapIdx fun i s => gD (stAt (st0 n) (deeds.take i)).1 s
theorem gsD_at {n : Int} {deeds : List Deed} {ss : List Steps} {i : Nat} {s : Steps} (h : ss[i]? = some s) : (gsD n deeds ss)[i]? = some (gD (stAt (st0 n) (deeds.take i)).1 s) := by
  unfold gsD
  rw [List.getElem?_mapIdx, h]; rfl
theorem gsD_more {n : Int} {deeds : List Deed} {ss : List Steps} {s : Steps} : gsD n deeds (ss ++ [s]) = gsD n deeds ss ++ [gD (stAt (st0 n) (deeds.take ss.length)).1 s] := by
  unfold gsD
  rw [List.mapIdx_append]
  congr 1
  show [gD (stAt (st0 n) (deeds.take (0 + ss.length))).1 s] = _
  rw [Nat.zero_add]
theorem gsTo_more {n : Int} {deeds : List Deed} {k : Nat} {ss : List Steps} {s : Steps} (h : GsTo n deeds k ss) (g : GOk (stAt (st0 n) (deeds.take (k + 1))).1 (stAt (st0 n) (deeds.take (k + 1))).2 s) (hl : s.length ≤ k + 2) : GsTo n deeds (k + 1) (ss ++ [s]) := by
  refine ⟨by rw [List.length_append, h.1]; rfl, fun i hi => ?_⟩
  by_cases e : i = k + 1
  · subst e
    exact ⟨s, by rw [List.getElem?_append_right (by rw [h.1]; exact Nat.le_refl _), h.1, Nat.sub_self]; rfl, g, hl⟩
  · obtain ⟨t, h1, h2, h3⟩ := h.2 i (by omega)
    exact ⟨t, by rw [List.getElem?_append_left (by rw [h.1]; omega)]; exact h1, h2, h3⟩
theorem atI_m1 {xs : List V} {v : V} (h : xs[xs.length - 1]? = some v) : atI xs (-1) = some v := by
  have hl : xs.length - 1 < xs.length := (List.getElem?_eq_some_iff.mp h).1
  unfold atI ixN
  rw [if_neg (by decide), if_pos (by omega)]
  show xs[((-1 : Int) + (xs.length : Int)).toNat]? = some v
  rw [show ((-1 : Int) + (xs.length : Int)).toNat = xs.length - 1 by omega]
  exact h
theorem stAt_pos {n : Int} (hn : 1 ≤ n) : ∀ (deeds : List Deed) (st : Int × Ht), 1 ≤ st.1 → 1 ≤ (stAt st deeds).1
  | [], st, h => h
  | d :: r, st, h => stAt_pos hn r (stepS st d) (by show 1 ≤ foldW st.1 (lineD d); unfold foldW; split <;> omega)
theorem okDeed_line {w : Int} {d : Deed} (hw : 1 ≤ w) (h : okDeed w (some d) = true) : 0 ≤ lineD d ∧ lineD d < w := by
  cases d with
  | turn => exact ⟨Int.le_refl 0, by show (0 : Int) < w; omega⟩
  | fold o c =>
    have h : (decide (1 ≤ c) && decide (c ≤ w - 1)) = true := h
    simp only [Bool.and_eq_true, decide_eq_true_eq] at h
    exact ⟨by show (0 : Int) ≤ c; omega, by show c < w; omega⟩
theorem okRow_at : ∀ (deeds : List Deed) (st : Int × Ht), okRow st deeds → ∀ {i : Nat} {d : Deed}, deeds[i]? = some d → okDeed (stAt st (deeds.take i)).1 (some d) = true
  | [], _, _, _, _, h => by simp at h
  | e :: r, st, ⟨h1, h2⟩, 0, d, h => by
    obtain rfl := Option.some.inj h
    exact h1
  | e :: r, st, ⟨h1, h2⟩, i + 1, d, h => okRow_at r (stepS st e) h2 (i := i) h
theorem stAt_more {st : Int × Ht} {deeds : List Deed} {i : Nat} {d : Deed} (h : deeds[i]? = some d) : stAt st (deeds.take (i + 1)) = stepS (stAt st (deeds.take i)) d := by
  unfold stAt
  rw [take_more h, List.foldl_append]; rfl
def sp_grounds_or_none (K : PySem.W.Frag) : Sp := fun vs H Q _ => ∃ (n : Int) (v : V) (d : PyData) (deeds : List Deed) (H0 : Hp), vs = [.int n, v] ∧ Same H0 H ∧ Dp K H0 v d ∧ RowD n d deeds ∧
  ∀ (H0' H' : Hp) (a : Addr) (xs : List V) (ss : List Steps), Ext H0 H H0' H' → H0' a = some (.lst xs) → H a = none → DpAll K H0' xs (gsD n deeds ss) → GsOk n deeds ss → Q (.ref a) H'
def sp_grounds_of (K : PySem.W.Frag) : Sp := sp_grounds_or_none K
def sp_columns (K : PySem.W.Frag) : Sp := fun vs H Q _ => ∃ (n : Int) (v : V) (d : PyData) (deeds : List Deed), vs = [.int n, v] ∧ Dp K H v d ∧ RowD n d deeds ∧ ∀ H', Same H H' → Q (.int (stAt (st0 n) deeds).1) H'
def sp_layers (K : PySem.W.Frag) : Sp := fun vs H Q _ => ∃ (n : Int) (v : V) (d : PyData) (deeds : List Deed) (c : Int), vs = [.int n, v, .int c] ∧ Dp K H v d ∧ RowD n d deeds ∧ 0 ≤ c ∧ c < (stAt (st0 n) deeds).1 ∧
  ∀ H', Same H H' → Q (.int ((stAt (st0 n) deeds).2 c)) H'
section
variable {P : Program} {w : World} {K : PySem.W.Frag} {mg : Str → Option Value} {base : Heap}
theorem good_grounds_or_none (D : DefAt K mg "grounds_or_none" D_grounds_or_none.st D_grounds_or_none.ps) (T : Bi mg) {tP tD : Tok} {aF : Addr} (C : Co K mg tP tD aF)
    (h_is_listing : Good P w K mg base 1 "is_listing" D_is_listing.ps (sp_is_listing K)) (h_is_deed : Good P w K mg base 3 "is_deed" D_is_deed.ps (sp_is_deed K))
    (h_ground_behind : Good P w K mg base 2 "ground_behind" D_ground_behind.ps (sp_ground_behind K)) (h_line_of : Good P w K mg base 1 "line_of" D_line_of.ps (sp_line_of K)) :
    Good P w K mg base 4 "grounds_or_none" D_grounds_or_none.ps (sp_grounds_or_none K) := by
  refine Good.of (N := D_grounds_or_none.N) D D_grounds_or_none.sc (fun vs H Q E h => ?_) (fun f cdv A outer s H vs Q E hr h => ?_)
  · obtain ⟨n, v, d, deeds, H0, rfl, _⟩ := h; rfl
  · obtain ⟨n, v, d, deeds, H0, rfl, sH, hd, R, q⟩ := h
    obtain ⟨f_is_listing, fd_is_listing, m_is_listing, k_is_listing, b_is_listing, G_is_listing⟩ := h_is_listing; obtain ⟨f_is_deed, fd_is_deed, m_is_deed, k_is_deed, b_is_deed, G_is_deed⟩ := h_is_deed; obtain ⟨f_ground_behind, fd_ground_behind, m_ground_behind, k_ground_behind, b_ground_behind, G_ground_behind⟩ := h_ground_behind; obtain ⟨f_line_of, fd_line_of, m_line_of, k_line_of, b_line_of, G_line_of⟩ := h_line_of
    obtain ⟨ds, hseq, hds⟩ := R.seq
    have hlen : ds.length = deeds.length := by have := congrArg List.length hds; simpa using this
    have hl40 := R.len
    obtain ⟨a, xs, rfl, hS, hA⟩ := seqD_of hd hseq
    -- one turn, and the start
    have turn : ∀ (F : Addr) (i : Nat) (x : V) (H' H0' : Hp) (ss : List Steps) (acc : List V), H F = none → xs[i]? = some x →
        Ext H0 H H0' H' → H0' F = none → H' F = some (.lst acc) → DpAll K H0' acc (gsD n deeds ss) → GsTo n deeds i ss →
        ∃ z1, SqL K H' F z1 ∧ ∃ z2, atI z1 (-1) = some z2 ∧ ∃ p, z2 = V.ref p ∧ ∃ z3, SqT K H' p z3 ∧ ∃ z4, atI z3 0 = some z4 ∧ sp_is_deed K [x, z4] H' (fun z5 H1 => ∃ c, z5 = V.bl c ∧ if c = false then Q V.non H1 else
          tyV K "list" (V.ref F) H1 ∧ sp_line_of K [x] H1 (fun y H1 => sp_ground_behind K [z2, y] H1 (fun y H1 => ∃ z6, H1 F = some (HO.lst z6) ∧ z6.length < sizeLine ∧ ∃ z7, Ext H0 H z7 (upd H1 F (HO.lst (z6 ++ [y]))) ∧ z7 F = none ∧
            ∃ z8 z9, upd H1 F (HO.lst (z6 ++ [y])) F = some (HO.lst z9) ∧ DpAll K z7 z9 (gsD n deeds z8) ∧ GsTo n deeds (i + 1) z8) E0) E0) E0 := by
      intro F i x H' H0' ss acc nHF hx e nF eF da gs
      obtain ⟨dd, hdd, hxd⟩ := DpAll.at hA hx
      have hi : i < deeds.length := by rw [← hlen]; exact (List.getElem?_eq_some_iff.mp hdd).1
      have hdeed : deeds[i]? = some deeds[i] := List.getElem?_eq_getElem hi
      generalize hdg : deeds[i] = deed at hdeed
      have hdo : deedOf dd = some deed := by
        have h1 : (ds.map deedOf)[i]? = (deeds.map some)[i]? := by rw [hds]
        rw [List.getElem?_map, List.getElem?_map, hdd, hdeed] at h1
        exact Option.some.inj h1
      obtain ⟨s, hs, gok, gl⟩ := gs.2 i (Nat.le_refl _)
      obtain ⟨v0, hv0, dv0⟩ := DpAll.of da (gsD_at (n := n) (deeds := deeds) hs)
      have hacc : acc.length = i + 1 := by
        rw [DpAll.length da]; unfold gsD; rw [List.length_mapIdx, gs.1]
      obtain ⟨ga, gb, gys, rfl, gS, gL, gB⟩ := gD_inv dv0
      have hok := okRow_at deeds (st0 n) R.ok hdeed
      have hln := okDeed_line gok.pos hok
      have hl1 : acc[acc.length - 1]? = some (.ref ga) := by rw [hacc]; exact hv0
      refine ⟨_, SqL.of eF, _, atI_m1 hl1, _, rfl, _, sqt_same e.sub gS, _, rfl, x, dd, _, rfl, Dp.mono (e.grow.trans e.sub) hxd, fun H2 s2 => ⟨true, by rw [hdo, hok], ?_⟩⟩
      rw [if_neg (by simp)]
      refine ⟨.inl ⟨rfl, _, SqL.of (s2 F _ eF)⟩, x, dd, deed, rfl, Dp.mono ((e.grow.trans e.sub).trans s2) hxd, hdo, ?_⟩
      refine ⟨_, _, s, _, lineD deed, H0', rfl, e.sub.trans s2, dv0, gok, hln.1, hln.2, by omega, fun H0'' H3 v' s' e3 gd gok' gl' => ?_⟩
      have e13 : Ext H0 H H0'' H3 := (e.trans (Ext.of e.sub s2)).trans e3
      have eF3 : H3 F = some (.lst acc) := e3.same F _ (s2 F _ eF)
      have nF3 : H0'' F = none := e3.out (by rw [s2 F _ eF]; simp) nF
      refine ⟨acc, eF3, sz_lt (by omega), H0'', e13.mut _ nHF nF3, nF3, ss ++ [s'], _, upd_same, ?_, ?_⟩
      · rw [gsD_more, gs.1, stAt_more hdeed]
        exact DpAll.app (DpAll.mono e3.grow da) (DpAll.one gd)
      · refine gsTo_more gs ?_ (by omega)
        rw [stAt_more hdeed]
        exact gok'
    have fin : ∀ (F : Addr) (H' H0' : Hp) (ss : List Steps) (acc : List V), H F = none → Ext H0 H H0' H' → H0' F = none → H' F = some (.lst acc) → DpAll K H0' acc (gsD n deeds ss) → GsTo n deeds xs.length ss → Q (.ref F) H' := by
      intro F H' H0' ss acc nHF e nF eF da gs
      rw [DpAll.length hA, hlen] at gs
      exact q _ _ F acc ss (e.keep nHF nF eF) upd_same nHF (DpAll.mono (same_new nF) da) gs
    have beg : ∀ (H1 : Hp) (T0 l0 g0 F : Addr), Same H H1 → H1 T0 = none → upd H1 T0 (.tup [V.int 0, V.int 1]) l0 = none → upd (upd H1 T0 (.tup [V.int 0, V.int 1])) l0 (.lst [V.ref T0]) g0 = none →
        upd (upd (upd H1 T0 (.tup [V.int 0, V.int 1])) l0 (.lst [V.ref T0])) g0 (.tup [V.int n, V.ref l0]) F = none →
        H F = none ∧ ∃ (H0' : Hp) (ss : List Steps) (acc : List V), Ext H0 H H0' (upd (upd (upd (upd H1 T0 (.tup [V.int 0, V.int 1])) l0 (.lst [V.ref T0])) g0 (.tup [V.int n, V.ref l0])) F (.lst [V.ref g0])) ∧ H0' F = none ∧
          (upd (upd (upd (upd H1 T0 (.tup [V.int 0, V.int 1])) l0 (.lst [V.ref T0])) g0 (.tup [V.int n, V.ref l0])) F (.lst [V.ref g0])) F = some (.lst acc) ∧ DpAll K H0' acc (gsD n deeds ss) ∧ GsTo n deeds 0 ss := by
      intro H1 T0 l0 g0 F s1 hT hl hg hF
      have e0 : Ext H0 H H0 H1 := Ext.of sH s1
      have e1 := e0.alloc (.tup [V.int 0, V.int 1]) hT
      have e2 := e1.alloc (.lst [V.ref T0]) hl
      have e3 := e2.alloc (.tup [V.int n, V.ref l0]) hg
      have e4 := e3.make (.lst [V.ref g0]) hF
      refine ⟨e3.same.free hF, _, [[(0, 1)]], [.ref g0], e4, e3.sub.free hF, upd_same, DpAll.one ?_, rfl, fun i hi => ⟨[(0, 1)], by rw [show i = 0 by omega]; rfl, ?_, by show 1 ≤ i + 1; omega⟩⟩
      · have n0 : l0 ≠ g0 := fun z => by rw [← z, upd_same] at hg; cases hg
        have n1 : T0 ≠ l0 := fun z => by rw [← z, upd_same] at hl; cases hl
        have n2 : T0 ≠ g0 := fun z => by rw [← z, upd_ne n1, upd_same] at hg; cases hg
        have f1 : (upd (upd (upd H0 T0 (.tup [V.int 0, V.int 1])) l0 (.lst [V.ref T0])) g0 (.tup [V.int n, V.ref l0])) T0 = some (.tup [V.int 0, V.int 1]) := by rw [upd_ne n2, upd_ne n1, upd_same]
        have f2 : (upd (upd (upd H0 T0 (.tup [V.int 0, V.int 1])) l0 (.lst [V.ref T0])) g0 (.tup [V.int n, V.ref l0])) l0 = some (.lst [V.ref T0]) := by rw [upd_ne n0, upd_same]
        exact Dp.tup_of upd_same (.cons (.int _) (DpAll.one (Dp.lst_of f2 (DpAll.one (Dp.tup_of f1 (.cons (.int _) (DpAll.one (.int _))))))))
      · rw [show i = 0 by omega]
        exact flat_ok R.lo
    rcases hS with hS | hS
    · have nd := D_grounds_or_none.sc.nd; have hu := hu_of hr; refine ⟨_, (pss_cons (ps_if (PW.pt (pw_or (pt_not (pt_val (pe_call G_is_listing (hr.mono (by decide)) (by rfl) m_is_listing k_is_listing b_is_listing .nil pass0 (pa_cons (pv 1) pa_nil)))) (pw_or1 (pt_cmpR op_gt (pe_callB call_len_seq (by rfl) T.n_len (by decide +kernel) (pa_cons (pv 1) pa_nil)) (pe_glob (v := V.int 40) (by rfl) C.c_MOST_DEEDS ⟨_, rfl⟩) (nomark _))))) (pss_one (ps_ret pe_non)) pss_nil)       (pss_cons (ps_set (i := 2) nd rfl (Or.inl rfl) (pe_lst (pa_cons (pe_tup (pa_cons (pv 0) (pa_cons (pe_lst (pa_cons (pe_tup (pa_cons pe_int (pa_cons pe_int pa_nil))) pa_nil)) pa_nil))) pa_nil)))       (pss_cons (ps_for PassesOwn.never (by rfl) (pi_list (pv 1)) (pg_name (i := 3) nd rfl (Or.inl rfl)) (pss_cons (ps_set (i := 4) nd rfl (Or.inl rfl) (pe_ix ix_list (pv 2) (pe_un un_neg pe_int) (fun _ _ => rfl)))       (pss_cons (ps_if (pt_not (pt_val (pe_call G_is_deed (hr.mono (by decide)) (by rfl) m_is_deed k_is_deed b_is_deed .nil pass0 (pa_cons (pv 3) (pa_cons (pe_ix ix_tup (pv 4) pe_int (fun _ _ => rfl)) pa_nil))))) (pss_one (ps_ret pe_non)) pss_nil)       (pss_one (ps_expr (pe_bm PySem.F.plainAttrs_list PySem.F.slot_list_append PySem.F.type_list_append mt_append (pv 2) (pa_cons (pe_call G_ground_behind (hr.mono (by decide)) (by rfl) m_ground_behind k_ground_behind b_ground_behind .nil pass0 (pa_cons (pv 4) (pa_cons (pe_call G_line_of (hr.mono (by decide)) (by rfl) m_line_of k_line_of b_line_of .nil pass0 (pa_cons (pv 3) pa_nil)) pa_nil))) pa_nil)))))))       (pss_one (ps_ret (pv 2)))))), ?_⟩
      rw [show L2.start D_grounds_or_none.N [.int n, .ref a] = [some (.int n), some (.ref a), none, none, none] from rfl]
      walk_at "vc"
      refine ⟨_, d, rfl, Dp.mono sH hd, fun H1 s1 => ⟨true, by rw [isSeqD_iff, hseq]; rfl, ?_⟩⟩
      rw [if_neg (by simp)]
      refine ⟨xs, .inl (s1.seq (sH.seq hS)), ?_⟩
      rw [if_neg (by rw [DpAll.length hA]; omega)]
      refine ⟨by decide, fun T0 hT => ⟨by decide, fun l0 hl => ⟨by decide, fun g0 hg => ⟨by decide, fun F hF => ?_⟩⟩⟩⟩
      obtain ⟨nHF, H00, ss0, acc0, e4, b2, b3, b4, b5⟩ := beg H1 T0 l0 g0 F s1 hT hl hg hF
      refine ⟨_, rfl, a, rfl, ⟨_, e4.same.seq (sH.seq hS)⟩, for_list (K := K) (a := a) (xs := xs) (fun i σ H' => ∃ (y3 y4 : Option V) (H0' : Hp) (ss : List Steps) (acc : List V), σ = [some (.int n), some (.ref a), some (.ref F), y3, y4] ∧ Ext H0 H H0' H' ∧ H0' F = none ∧ H' F = some (.lst acc) ∧ DpAll K H0' acc (gsD n deeds ss) ∧ GsTo n deeds i ss)
        ⟨none, none, _, _, _, rfl, e4, b2, b3, b4, b5⟩ (fun i σ H' _ ⟨_, _, _, _, _, _, e, _⟩ => e.same.seq (sH.seq hS)) ?_ ?_⟩
      · rintro i x σ H' hx ⟨y3, y4, H0', ss, acc, rfl, e, nF, eF, da, gs⟩
        walk_at "vc"
        exact turn F i x H' H0' ss acc nHF hx e nF eF da gs
      · rintro σ H' ⟨y3, y4, H0', ss, acc, rfl, e, nF, eF, da, gs⟩
        exact ⟨_, rfl, fin F H' H0' ss acc nHF e nF eF da gs⟩
    · have nd := D_grounds_or_none.sc.nd; have hu := hu_of hr; refine ⟨_, (pss_cons (ps_if (PW.pt (pw_or (pt_not (pt_val (pe_call G_is_listing (hr.mono (by decide)) (by rfl) m_is_listing k_is_listing b_is_listing .nil pass0 (pa_cons (pv 1) pa_nil)))) (pw_or1 (pt_cmpR op_gt (pe_callB call_len_seq (by rfl) T.n_len (by decide +kernel) (pa_cons (pv 1) pa_nil)) (pe_glob (v := V.int 40) (by rfl) C.c_MOST_DEEDS ⟨_, rfl⟩) (nomark _))))) (pss_one (ps_ret pe_non)) pss_nil)       (pss_cons (ps_set (i := 2) nd rfl (Or.inl rfl) (pe_lst (pa_cons (pe_tup (pa_cons (pv 0) (pa_cons (pe_lst (pa_cons (pe_tup (pa_cons pe_int (pa_cons pe_int pa_nil))) pa_nil)) pa_nil))) pa_nil)))       (pss_cons (ps_for PassesOwn.never (by rfl) (pi_tup (pv 1)) (pg_name (i := 3) nd rfl (Or.inl rfl)) (pss_cons (ps_set (i := 4) nd rfl (Or.inl rfl) (pe_ix ix_list (pv 2) (pe_un un_neg pe_int) (fun _ _ => rfl)))       (pss_cons (ps_if (pt_not (pt_val (pe_call G_is_deed (hr.mono (by decide)) (by rfl) m_is_deed k_is_deed b_is_deed .nil pass0 (pa_cons (pv 3) (pa_cons (pe_ix ix_tup (pv 4) pe_int (fun _ _ => rfl)) pa_nil))))) (pss_one (ps_ret pe_non)) pss_nil)       (pss_one (ps_expr (pe_bm PySem.F.plainAttrs_list PySem.F.slot_list_append PySem.F.type_list_append mt_append (pv 2) (pa_cons (pe_call G_ground_behind (hr.mono (by decide)) (by rfl) m_ground_behind k_ground_behind b_ground_behind .nil pass0 (pa_cons (pv 4) (pa_cons (pe_call G_line_of (hr.mono (by decide)) (by rfl) m_line_of k_line_of b_line_of .nil pass0 (pa_cons (pv 3) pa_nil)) pa_nil))) pa_nil)))))))       (pss_one (ps_ret (pv 2)))))), ?_⟩
      rw [show L2.start D_grounds_or_none.N [.int n, .ref a] = [some (.int n), some (.ref a), none, none, none] from rfl]
      walk_at "vc"
      refine ⟨_, d, rfl, Dp.mono sH hd, fun H1 s1 => ⟨true, by rw [isSeqD_iff, hseq]; rfl, ?_⟩⟩
      rw [if_neg (by simp)]
      refine ⟨xs, .inr (sqt_same s1 (sqt_same sH hS)), ?_⟩
      rw [if_neg (by rw [DpAll.length hA]; omega)]
      refine ⟨by decide, fun T0 hT => ⟨by decide, fun l0 hl => ⟨by decide, fun g0 hg => ⟨by decide, fun F hF => ?_⟩⟩⟩⟩
      obtain ⟨nHF, H00, ss0, acc0, e4, b2, b3, b4, b5⟩ := beg H1 T0 l0 g0 F s1 hT hl hg hF
      refine ⟨_, rfl, a, rfl, ⟨_, sqt_same e4.same (sqt_same sH hS)⟩, for_tup (K := K) (a := a) (xs := xs) (fun i σ H' => ∃ (y3 y4 : Option V) (H0' : Hp) (ss : List Steps) (acc : List V), σ = [some (.int n), some (.ref a), some (.ref F), y3, y4] ∧ Ext H0 H H0' H' ∧ H0' F = none ∧ H' F = some (.lst acc) ∧ DpAll K H0' acc (gsD n deeds ss) ∧ GsTo n deeds i ss)
        ⟨none, none, _, _, _, rfl, e4, b2, b3, b4, b5⟩ (fun i σ H' _ ⟨_, _, _, _, _, _, e, _⟩ => sqt_same e.same (sqt_same sH hS)) ?_ ?_⟩
      · rintro i x σ H' hx ⟨y3, y4, H0', ss, acc, rfl, e, nF, eF, da, gs⟩
        walk_at "vc"
        exact turn F i x H' H0' ss acc nHF hx e nF eF da gs
      · rintro σ H' ⟨y3, y4, H0', ss, acc, rfl, e, nF, eF, da, gs⟩
        exact ⟨_, rfl, fin F H' H0' ss acc nHF e nF eF da gs⟩
theorem good_grounds_of (D : DefAt K mg "grounds_of" D_grounds_of.st D_grounds_of.ps) (T : Bi mg)
    (h_check_places : Good P w K mg base 3 "check_places" D_check_places.ps (sp_check_places K)) (h_grounds_or_none : Good P w K mg base 4 "grounds_or_none" D_grounds_or_none.ps (sp_grounds_or_none K)) :
    Good P w K mg base 5 "grounds_of" D_grounds_of.ps (sp_grounds_of K) := by
  refine Good.of (N := D_grounds_of.N) D D_grounds_of.sc (fun vs H Q E h => ?_) (fun f cdv A outer s H vs Q E hr h => ?_)
  · obtain ⟨n, v, d, deeds, H0, rfl, _⟩ := h; rfl
  · obtain ⟨n, v, d, deeds, H0, rfl, sH, hd, R, q⟩ := h
    obtain ⟨f_check_places, fd_check_places, m_check_places, k_check_places, b_check_places, G_check_places⟩ := h_check_places; obtain ⟨f_grounds_or_none, fd_grounds_or_none, m_grounds_or_none, k_grounds_or_none, b_grounds_or_none, G_grounds_or_none⟩ := h_grounds_or_none
    have nd := D_grounds_of.sc.nd; have hu := hu_of hr; refine ⟨_, (pss_cons (ps_expr (pe_call G_check_places (hr.mono (by decide)) (by rfl) m_check_places k_check_places b_check_places .nil pass0 (pa_cons (pv 0) pa_nil)))       (pss_cons (ps_set (i := 2) nd rfl (Or.inl rfl) (pe_call G_grounds_or_none (hr.mono (by decide)) (by rfl) m_grounds_or_none k_grounds_or_none b_grounds_or_none .nil pass0 (pa_cons (pv 0) (pa_cons (pv 1) pa_nil))))       (pss_cons (ps_if (pt_cmpR op_isN (pv 2) pe_non (nomark _)) (pss_one ps_never) pss_nil)       (pss_one (ps_ret (pv 2)))))), ?_⟩
    rw [show L2.start D_grounds_of.N [.int n, v] = [some (.int n), some (v), none] from rfl]
    walk_at "vc"
    refine ⟨n, rfl, R.lo, R.hi, n, v, d, deeds, H0, rfl, sH, hd, R, fun H0' H' a xs ss e h1 h2 h3 h4 => ?_⟩
    walk_at "vc"
    exact q _ _ a xs ss e h1 h2 h3 h4
theorem gsOk_last {H : Hp} {n : Int} {deeds : List Deed} {ss : List Steps} {xs : List V} (h : GsOk n deeds ss) (da : DpAll K H xs (gsD n deeds ss)) :
    ∃ v s, xs[xs.length - 1]? = some v ∧ Dp K H v (gD (stAt (st0 n) deeds).1 s) ∧ GOk (stAt (st0 n) deeds).1 (stAt (st0 n) deeds).2 s ∧ s.length ≤ deeds.length + 1 := by
  obtain ⟨s, hs, g, hl⟩ := h.2 deeds.length (Nat.le_refl _)
  obtain ⟨v, hv, dv⟩ := DpAll.of da (gsD_at (n := n) (deeds := deeds) hs)
  rw [List.take_length] at g dv
  have hx : xs.length = deeds.length + 1 := by
    rw [DpAll.length da]; unfold gsD; rw [List.length_mapIdx, h.1]
  exact ⟨v, s, by rw [hx]; exact hv, dv, g, hl⟩
end
end Fv

namespace Fv
open PySem PySem.Spec PyProof.Rows L2
local macro_rules | `(tactic| walk_at "vc") => `(tactic| simp only [tRet, tRetN, tAndV, tOrV, tNotV, tAnd, tOr, tNot, tB, tTest, tOp, tUn, tCB, rTyp, tCons, tNil, tVar, tC, tChain, rI0, rI, rU, tSeq, tNext, tIfS, tIf, tAsg, gName, gCons, gNil, gTup, tDrop, tTup, tLst, tCall, tIsN, tNotN, tPar, tAug, tYes, rLenSq, rIsi, rReprD, L2.tSl, tPart, tNoPart, rSlL, rCat, rRep, gSub, tRevL, CPow, rEqD, rNeD, Int.reduceToNat, tBM, rAppend, wipe, StX.tStar, sDPut, tDGet, tDGet2, tDNewK, List.map_cons, List.map_nil, rEq, rNe, rIxT, rIxL, cxK, cxKn,
  List.getElem?_cons_zero, List.getElem?_cons_succ, List.set_cons_zero, List.set_cons_succ, List.append_nil, List.nil_append, List.cons_append, List.length_cons, List.length_nil, List.cons.injEq, Option.some.injEq, V.int.injEq, V.ty.injEq, V.bl.injEq, V.ref.injEq, V.str.injEq,
  and_true, true_and, and_assoc, exists_eq_left', exists_eq_left, exists_and_left, exists_eq', exists_eq, exists_eq_right, exists_eq_right', decide_eq_true_eq, Bool.not_eq_true', Bool.false_eq_true, if_true, if_false, reduceCtorEq, false_and, and_false, exists_false, decide_true, decide_false, Nat.zero_add, ite_true, ite_false, V.int.injEq, decide_eq_false_iff_not])


/-! ### the reel that is drawn from -/
/-- all but the reel is as it was -/
def SB (r : Addr) (H H' : Hp) : Prop := ∀ b o, b ≠ r → H b = some o → H' b = some o
theorem SB.refl (r : Addr) (H : Hp) : SB r H H := fun _ _ _ h => h
theorem SB.trans {r : Addr} {H H1 H2 : Hp} (a : SB r H H1) (b : SB r H1 H2) : SB r H H2 := fun c o n h => b c o n (a c o n h)
theorem SB.of {r : Addr} {H H' : Hp} (e : Same H H') : SB r H H' := fun b o _ h => e b o h
theorem SB.new {r : Addr} {H : Hp} {p : Addr} {o : HO} (h : H p = none) : SB r H (upd H p o) := SB.of (same_new h)
theorem SB.at {r : Addr} {H : Hp} {o : HO} : SB r H (upd H r o) := fun b x n e => by rw [upd_ne n]; exact e
/-- the reel stands at r; its lists, and all else that H0 tells, are never changed again -/
structure RIn (r : Addr) (H0 H : Hp) : Prop where
  sub : Same H0 H
  out : H0 r = none
  ex : ∃ (g t : Addr) (gs ts : List Int) (k s : Int), H r = some (.lst [.ref g, .ref t, .int k, .int s]) ∧ H0 g = some (.lst (gs.map V.int)) ∧ H0 t = some (.lst (ts.map V.int)) ∧ gs.length ≤ 63 ∧ 0 < ts.length ∧ ts.length ≤ 64 ∧ 0 ≤ k ∧ 0 ≤ s ∧ s < 2 ^ 127
theorem RIn.live {r : Addr} {H0 H : Hp} (a : RIn r H0 H) : H r ≠ none := by
  obtain ⟨g, t, gs, ts, k, s, h, _⟩ := a.ex
  rw [h]; simp
theorem RIn.ne {r : Addr} {H0 H : Hp} (a : RIn r H0 H) {p : Addr} (h : H p = none) : p ≠ r := fun e => a.live (by rw [← e]; exact h)
structure ExtR (r : Addr) (H0 H H0' H' : Hp) : Prop where
  grow : Same H0 H0'
  same : SB r H H'
  new : ∀ a, H0 a = none → H0' a ≠ none → H a = none
  fin : RIn r H0' H'
theorem ExtR.sub {r : Addr} {H0 H H1 H' : Hp} (a : ExtR r H0 H H1 H') : Same H1 H' := a.fin.sub
theorem ExtR.refl {r : Addr} {H0 H : Hp} (a : RIn r H0 H) : ExtR r H0 H H0 H := ⟨Same.refl _, SB.refl _ _, fun _ h1 h2 => absurd h1 h2, a⟩
theorem SB.free {r : Addr} {H H' : Hp} (a : SB r H H') {p : Addr} (n : p ≠ r) (h : H' p = none) : H p = none := by
  cases e : H p with
  | none => rfl
  | some o => rw [a p o n e] at h; cases h
theorem ExtR.trans {r : Addr} {H0 H H1 H' H2 H'' : Hp} (a : ExtR r H0 H H1 H') (b : ExtR r H1 H' H2 H'') : ExtR r H0 H H2 H'' :=
  ⟨a.grow.trans b.grow, a.same.trans b.same, fun p h1 h2 => by
    by_cases h : H1 p = none
    · exact a.same.free (fun e => by rw [e] at h2; exact h2 b.fin.out) (b.new p h h2)
    · exact a.new p h1 h, b.fin⟩
theorem RIn.ext {r : Addr} {H1 H' H2 H'' : Hp} (a : RIn r H1 H') (b : Ext H1 H' H2 H'') : RIn r H2 H'' := by
  obtain ⟨g, t, gs, ts, k, s, h1, h2, h3, h4⟩ := a.ex
  exact ⟨b.sub, b.out a.live a.out, g, t, gs, ts, k, s, b.same _ _ h1, b.grow _ _ h2, b.grow _ _ h3, h4⟩
theorem ExtR.ext {r : Addr} {H0 H H1 H' H2 H'' : Hp} (a : ExtR r H0 H H1 H') (b : Ext H1 H' H2 H'') : ExtR r H0 H H2 H'' :=
  ⟨a.grow.trans b.grow, a.same.trans (SB.of b.same), fun p h1 h2 => by
    by_cases h : H1 p = none
    · exact a.same.free (fun e => by rw [e] at h2; exact h2 (a.fin.ext b).out) (b.new p h h2)
    · exact a.new p h1 h, a.fin.ext b⟩
theorem ExtR.alloc {r : Addr} {H0 H H1 H' : Hp} (a : ExtR r H0 H H1 H') {p : Addr} (o : HO) (h : H' p = none) : ExtR r H0 H (upd H1 p o) (upd H' p o) := a.ext ((Ext.refl a.sub).alloc o h)
theorem ExtR.make {r : Addr} {H0 H H1 H' : Hp} (a : ExtR r H0 H H1 H') {p : Addr} (o : HO) (h : H' p = none) : ExtR r H0 H H1 (upd H' p o) := a.ext ((Ext.refl a.sub).make o h)
theorem ExtR.mut {r : Addr} {H0 H H1 H' : Hp} (a : ExtR r H0 H H1 H') {p : Addr} (o : HO) (h : H p = none) (h1 : H1 p = none) (n : p ≠ r) : ExtR r H0 H H1 (upd H' p o) := by
  obtain ⟨g, t, gs, ts, k, s, e1, e2, e3, e4⟩ := a.fin.ex
  exact ⟨a.grow, fun b x nb e => by rw [upd_ne (ne_of_none e h)]; exact a.same b x nb e, a.new,
    fun b x e => by rw [upd_ne (ne_of_none e h1)]; exact a.sub b x e, a.fin.out, g, t, gs, ts, k, s, by rw [upd_ne (Ne.symm n)]; exact e1, e2, e3, e4⟩
theorem ExtR.keep {r : Addr} {H0 H H1 H' : Hp} (a : ExtR r H0 H H1 H') {p : Addr} {o : HO} (h : H p = none) (h1 : H1 p = none) (n : p ≠ r) (e : H' p = some o) : ExtR r H0 H (upd H1 p o) H' := by
  obtain ⟨g, t, gs, ts, k, s, e1, e2, e3, e4⟩ := a.fin.ex
  refine ⟨a.grow.trans (same_new h1), a.same, fun b n1 m => ?_, fun b x q => ?_, by rw [upd_ne (Ne.symm n)]; exact a.fin.out, g, t, gs, ts, k, s, e1, same_new h1 _ _ e2, same_new h1 _ _ e3, e4⟩
  · by_cases hb : b = p
    · subst hb; exact h
    · rw [upd_ne hb] at m; exact a.new b n1 m
  · by_cases hb : b = p
    · subst hb; rw [upd_same] at q; rw [← q]; exact e
    · rw [upd_ne hb] at q; exact a.sub b x q
theorem ExtR.out {r : Addr} {H0 H H1 H' : Hp} (a : ExtR r H0 H H1 H') {p : Addr} (h : H p ≠ none) (h0 : H0 p = none) : H1 p = none := by
  cases e : H1 p with
  | none => rfl
  | some o => exact absurd (a.new p h0 (by rw [e]; simp)) h
def sp__law_reel (K : PySem.W.Frag) : Sp := fun vs H Q _ => ∃ (a : Addr) (ns : List Int) (H0 : Hp), vs = [.ref a] ∧ Same H0 H ∧ SqL K H0 a (ns.map V.int) ∧ ns.length ≤ 63 ∧ ∀ (H0' H' : Hp) (r : Addr), Ext H0 H H0' H' → H r = none → RIn r H0' H' → Q (.ref r) H'
def sp__law_draw (K : PySem.W.Frag) : Sp := fun vs H Q _ => ∃ (r : Addr) (m : Int) (H0 : Hp), vs = [.ref r, .int m] ∧ RIn r H0 H ∧ 1 ≤ m ∧ m ≤ 10 ^ 40 ∧ ∀ (H0' H' : Hp) (v : Int), ExtR r H0 H H0' H' → 0 ≤ v → v < m → Q (.int v) H'
section
variable {P : Program} {w : World} {K : PySem.W.Frag} {mg : Str → Option Value} {base : Heap}
theorem canLay_ints : ∀ gs : List Int, PyData.canLayAll0 (gs.map PyData.int) = true
  | [] => rfl
  | g :: r => by
    show (PyData.canLay0 (.int g) && PyData.canLayAll0 (r.map PyData.int)) = true
    rw [canLay_ints r]; rfl
theorem depth_ints : ∀ gs : List Int, PyData.depthAll (gs.map PyData.int) ≤ 1
  | [] => by simp [PyData.depthAll]
  | g :: r => by
    have := depth_ints r
    simp only [List.map_cons, PyData.depthAll, PyData.depth]
    omega
theorem shaped_ints (gs : List Int) : SeqAt.shaped (.list (gs.map PyData.int)) = true := by
  unfold SeqAt.shaped
  have h1 : PyData.canLay0 (.list (gs.map PyData.int)) = true := canLay_ints gs
  have h2 : PyData.depth (.list (gs.map PyData.int)) ≤ 64 := by
    have := depth_ints gs
    simp only [PyData.depth]; omega
  rw [h1, decide_eq_true h2]; rfl
theorem eqv_nil (gs : List Int) : PyData.eqv (.list (gs.map PyData.int)) (.list []) = gs.isEmpty := by
  cases gs <;> rfl
theorem cut_from (xs : List V) (a : Nat) : cutV xs (some (a : Int)) none = xs.drop a := by
  unfold cutV
  have h1 : HT.sIx xs.length 0 (some (a : Int)) = min a xs.length := HT.sIx_nat xs.length 0 a
  have h2 : HT.sIx xs.length xs.length none = xs.length := HT.sIx_none xs.length xs.length
  rw [h1, h2]
  by_cases h : a ≤ xs.length
  · rw [Nat.min_eq_left h]
    refine List.take_of_length_le ?_
    rw [List.length_drop]; exact Nat.le_refl _
  · have h3 : xs.length ≤ a := by omega
    rw [Nat.min_eq_right h3, Nat.sub_self, List.drop_eq_nil_of_le h3]; rfl
theorem cut_to (xs : List V) (b : Nat) : cutV xs none (some (b : Int)) = xs.take b := by
  unfold cutV
  have h1 : HT.sIx xs.length xs.length (some (b : Int)) = min b xs.length := HT.sIx_nat xs.length xs.length b
  have h2 : HT.sIx xs.length 0 none = 0 := HT.sIx_none xs.length 0
  rw [h1, h2, List.drop_zero, Nat.sub_zero]
  by_cases h : b ≤ xs.length
  · rw [Nat.min_eq_left h]
  · have h3 : xs.length ≤ b := by omega
    rw [Nat.min_eq_right h3, List.take_of_length_le (Nat.le_refl _), List.take_of_length_le h3]
theorem ne_ints {g t : Addr} {k s : Int} (ns : List Int) : [V.ref g, V.ref t, V.int k, V.int s] ≠ ns.map V.int := by
  cases ns with
  | nil => exact fun z => nomatch z
  | cons n r => exact fun z => nomatch (List.cons.inj z).1
theorem good__law_draw (D : DefAt K mg "_law_draw" D__law_draw.st D__law_draw.ps) (T : Bi mg) : Good P w K mg base 1 "_law_draw" D__law_draw.ps (sp__law_draw K) := by
  refine Good.of (N := D__law_draw.N) D D__law_draw.sc (fun vs H Q E h => ?_) (fun f cdv A outer s H vs Q E hr h => ?_)
  · obtain ⟨r, m, H0, rfl, _⟩ := h; rfl
  · obtain ⟨r, m, H0, rfl, ⟨sub, out, g, t, gs, ts, k, st, hr0, hg0, ht0, hgl, htl, htl2, hk, hs0, hs1⟩, hm1, hm2, q⟩ := h
    have hg := sub _ _ hg0
    have ht := sub _ _ ht0
    have sbs : ∀ {Hx : Hp}, SB r H Hx → Same H0 Hx := fun e b o z => e b o (fun y => by rw [y, out] at z; cases z) (sub b o z)
    have nd := D__law_draw.sc.nd; have hu := hu_of hr; refine ⟨_, (pss_cons (ps_if (pt_cmpR (op_neD (by have := hr.units0; first | exact hr.units | omega)) (pe_ix ix_list (pv 0) pe_int (fun _ _ => rfl)) (pe_lst pa_nil) (nomark _)) (pss_cons (ps_set (i := 2) nd rfl (Or.inl rfl) (pe_ix ix_list (pe_ix ix_list (pv 0) pe_int (fun _ _ => rfl)) pe_int (fun _ _ => rfl)))       (pss_cons (ps_asg (pe_op op_cat (pe_op op_rep (pe_lst (pa_cons (pe_op op_fdivW (pv 2) (pv 1)) pa_nil)) (pe_callTy call_int1 (by rfl) T.n_int (by decide +kernel) (pa_cons (pe_cmpR op_ge (pv 2) (pv 1) (nomark _)) pa_nil))) (pe_slice sl_list (pe_ix ix_list (pv 0) pe_int (fun _ _ => rfl)) (po_some pe_int) po_none)) (pg_sub (pv 0) pe_int set_list))       (pss_one (ps_ret (pe_op op_mod (pv 2) (pv 1)))))) pss_nil)       (pss_cons (ps_asg (pe_op op_add (pe_ix ix_list (pv 0) pe_int (fun _ _ => rfl)) pe_int) (pg_sub (pv 0) pe_int set_list))       (pss_cons (ps_set (i := 3) nd rfl (Or.inl rfl) (pe_ix ix_list (pe_ix ix_list (pv 0) pe_int (fun _ _ => rfl)) (pe_op op_mod (pe_ix ix_list (pv 0) pe_int (fun _ _ => rfl)) (pe_callB call_len_seq (by rfl) T.n_len (by decide +kernel) (pa_cons (pe_ix ix_list (pv 0) pe_int (fun _ _ => rfl)) pa_nil))) (fun _ _ => rfl)))       (pss_cons (ps_set (i := 4) nd rfl (Or.inl rfl) (pe_op op_add (pe_op op_add (pe_op op_mulW (pe_ix ix_list (pv 0) pe_int (fun _ _ => rfl)) (pe_ix ix_list (pv 0) pe_int (fun _ _ => rfl))) (pe_op op_mul (pe_op op_add (pv 3) pe_int) pe_int)) (pe_op op_mul (pe_ix ix_list (pv 0) pe_int (fun _ _ => rfl)) pe_int)))       (pss_cons (ps_asg (pe_op op_mod (pv 4) (pe_op op_sub (pe_op op_mul (pe_op op_pow pe_int pe_int) (pe_op op_pow pe_int pe_int)) pe_int)) (pg_sub (pv 0) pe_int set_list))       (pss_one (ps_ret (pe_op op_mod (pe_op op_fdivW (pe_ix ix_list (pv 0) pe_int (fun _ _ => rfl)) (pe_op op_pow pe_int pe_int)) (pv 1))))))))), ?_⟩
    rw [show L2.start D__law_draw.N [.ref r, .int m] = [some (.ref r), some (.int m), none, none, none] from rfl]
    walk_at "vc"
    have hdiv : ∀ x : Int, CDivW x m := fun x => wide_div (b := 140) (by omega) (by
      have h1 : (10 : Nat) ^ 40 < 2 ^ 140 := by decide
      have h2 : m.natAbs ≤ 10 ^ 40 := by omega
      exact Nat.lt_of_le_of_lt h2 h1) (by decide) (by decide)
    refine ⟨_, SqL.of hr0, _, rfl, by decide, fun p hp => ?_⟩
    have npr : r ≠ p := ne_of_none hr0 hp
    have npg : g ≠ p := ne_of_none hg hp
    have npt : t ≠ p := ne_of_none ht hp
    have hr1 : (upd H p (.lst [])) r = some (.lst [.ref g, .ref t, .int k, .int st]) := by rw [upd_ne npr]; exact hr0
    have hg1 : (upd H p (.lst [])) g = some (.lst (gs.map V.int)) := by rw [upd_ne npg]; exact hg
    have ht1 : (upd H p (.lst [])) t = some (.lst (ts.map V.int)) := by rw [upd_ne npt]; exact ht
    have s1 : SB r H (upd H p (.lst [])) := SB.new hp
    refine ⟨.list (gs.map PyData.int), .lst (SqL.of hg1) (DpAll.ints gs), .list [], Dp.lst_of upd_same .nil, shaped_ints gs, by decide +kernel, ?_⟩
    rw [eqv_nil]
    generalize hH1 : upd H p (.lst []) = H1 at *
    have ngr : g ≠ r := fun z => by
      rw [z, hr1] at hg1
      exact ne_ints gs (by injection hg1 with z1; injection z1)
    have ntr : t ≠ r := fun z => by
      rw [z, hr1] at ht1
      exact ne_ints ts (by injection ht1 with z1; injection z1)
    cases gs with
    | nil =>
      rw [if_neg (by simp)]
      have hr3 : (upd H1 r (.lst [.ref g, .ref t, .int (k + 1), .int st])) r = some (.lst [.ref g, .ref t, .int (k + 1), .int st]) := upd_same
      have ht3 : (upd H1 r (.lst [.ref g, .ref t, .int (k + 1), .int st])) t = some (.lst (ts.map V.int)) := by rw [upd_ne ntr]; exact ht1
      obtain ⟨j, hj, hjl⟩ : ∃ j : Nat, (k + 1) % (((ts.map V.int).length : Nat) : Int) = (j : Int) ∧ j < ts.length := by
        have h1 : (0 : Int) ≤ (k + 1) % (((ts.map V.int).length : Nat) : Int) := Int.emod_nonneg _ (by rw [List.length_map]; omega)
        have h2 : (k + 1) % (((ts.map V.int).length : Nat) : Int) < (((ts.map V.int).length : Nat) : Int) := Int.emod_lt_of_pos _ (by rw [List.length_map]; omega)
        rw [List.length_map] at h1 h2 ⊢
        exact ⟨((k + 1) % ((ts.length : Nat) : Int)).toNat, by omega, by omega⟩
      refine ⟨_, SqL.of hr1, _, rfl, k, rfl, r, _, 2, 2, rfl, rfl, hr1, rfl, ?_⟩
      simp only [List.set_cons_succ, List.set_cons_zero]
      refine ⟨_, SqL.of hr3, _, rfl, _, SqL.of hr3, _, rfl, _, SqL.of hr3, _, rfl, t, rfl, _, .inl (SqL.of ht3), k + 1, rfl, by rw [List.length_map]; omega, t, rfl, _, SqL.of ht3, .int ts[j], ?_, ?_⟩
      · rw [hj]
        exact atI_nat (by rw [List.getElem?_map, List.getElem?_eq_getElem hjl]; rfl)
      · have hstm : CMulW st st := wide_mul (a := 127) (b := 127) (by omega) (by omega) (by decide) (by decide) (by decide)
        refine ⟨_, SqL.of hr3, _, rfl, _, SqL.of hr3, _, rfl, st, rfl, st, rfl, hstm, ts[j], rfl, .inr ⟨by decide, by decide⟩, _, SqL.of hr3, _, rfl, k + 1, rfl, .inr ⟨by decide, by decide⟩, by decide, by decide, by decide, by decide, by decide, by decide, .inr ⟨by decide, by decide⟩, by decide, r, _, 3, 3, rfl, rfl, hr3, rfl, ?_⟩
        simp only [List.set_cons_succ, List.set_cons_zero]
        have hM : (2 : Int) ^ 64 * 2 ^ 63 - 1 = 170141183460469231731687303715884105727 := by decide
        rw [hM]
        generalize hs' : (st * st + (ts[j] + 7) * 69621 + (k + 1) * 1000003) % 170141183460469231731687303715884105727 = s'
        have b1 : 0 ≤ s' := by rw [← hs']; exact Int.emod_nonneg _ (by decide)
        have b2 : s' < 2 ^ 127 := by
          have : s' < 170141183460469231731687303715884105727 := by rw [← hs']; exact Int.emod_lt_of_pos _ (by decide)
          exact Int.lt_trans this (by decide)
        generalize hH3 : upd H1 r (.lst [.ref g, .ref t, .int (k + 1), .int st]) = H3 at *
        have s3 : SB r H H3 := by rw [← hH3]; exact s1.trans SB.at
        have hr4 : (upd H3 r (.lst [.ref g, .ref t, .int (k + 1), .int s'])) r = some (.lst [.ref g, .ref t, .int (k + 1), .int s']) := upd_same
        have hg3 : H3 g = some (.lst []) := by rw [← hH3, upd_ne ngr]; exact hg1
        refine ⟨_, SqL.of hr4, _, rfl, by decide, by decide, by decide, s', rfl, wide_div (b := 50) (by decide) (by decide) (by decide) (by decide), by omega, ?_⟩
        refine q H0 _ _ ⟨Same.refl _, s3.trans SB.at, fun _ h1 h2 => absurd h1 h2, sbs (s3.trans SB.at), out, g, t, [], ts, k + 1, s', hr4, hg0, ht0, by decide, htl, htl2, by omega, b1, b2⟩ (Int.emod_nonneg _ (by omega)) (Int.emod_lt_of_pos _ (by omega))
    | cons g0 gr =>
      rw [if_pos (by rfl)]
      refine ⟨_, SqL.of hr1, _, rfl, g, rfl, _, SqL.of hg1, _, atI_0, g0, rfl, hdiv g0, by decide, fun p2 hp2 => ⟨g0, rfl, .inr ?_⟩⟩
      generalize hb : (if m ≤ g0 then (1 : Int) else 0) = b
      have hb01 : b = 0 ∨ b = 1 := by
        rw [← hb]; split
        · exact .inr rfl
        · exact .inl rfl
      obtain ⟨ms, hms, hmsl⟩ : ∃ ms : List Int, (List.replicate b.toNat [V.int (g0 / m)]).flatten = ms.map V.int ∧ ms.length ≤ 1 := by
        rcases hb01 with rfl | rfl
        · exact ⟨[], rfl, by decide⟩
        · exact ⟨[g0 / m], rfl, Nat.le_refl 1⟩
      refine ⟨_, upd_same, by rcases hb01 with rfl | rfl <;> decide, by rcases hb01 with rfl | rfl <;> decide, (by rcases hb01 with rfl | rfl; exact (show 1 * 0 ≤ sizeLine by decide); exact (show 1 * 1 ≤ sizeLine by decide)), fun p3 hp3 => ?_⟩
      rw [hms]
      have n2r : r ≠ p2 := ne_of_none hr1 hp2
      have n2g : g ≠ p2 := ne_of_none hg1 hp2
      have n2t : t ≠ p2 := ne_of_none ht1 hp2
      have s2 : SB r H (upd H1 p2 (.lst [V.int (g0 / m)])) := s1.trans (SB.new hp2)
      have hr2 : (upd H1 p2 (.lst [V.int (g0 / m)])) r = some (.lst [.ref g, .ref t, .int k, .int st]) := by rw [upd_ne n2r]; exact hr1
      have hg2 : (upd H1 p2 (.lst [V.int (g0 / m)])) g = some (.lst ((g0 :: gr).map V.int)) := by rw [upd_ne n2g]; exact hg1
      have ht2 : (upd H1 p2 (.lst [V.int (g0 / m)])) t = some (.lst (ts.map V.int)) := by rw [upd_ne n2t]; exact ht1
      generalize upd H1 p2 (.lst [V.int (g0 / m)]) = H2 at *
      have n3r : r ≠ p3 := ne_of_none hr2 hp3
      have n3g : g ≠ p3 := ne_of_none hg2 hp3
      have n3t : t ≠ p3 := ne_of_none ht2 hp3
      have s3 : SB r H (upd H2 p3 (.lst (ms.map V.int))) := s2.trans (SB.new hp3)
      have hr3 : (upd H2 p3 (.lst (ms.map V.int))) r = some (.lst [.ref g, .ref t, .int k, .int st]) := by rw [upd_ne n3r]; exact hr2
      have hg3 : (upd H2 p3 (.lst (ms.map V.int))) g = some (.lst ((g0 :: gr).map V.int)) := by rw [upd_ne n3g]; exact hg2
      have ht3 : (upd H2 p3 (.lst (ms.map V.int))) t = some (.lst (ts.map V.int)) := by rw [upd_ne n3t]; exact ht2
      have h33 : (upd H2 p3 (.lst (ms.map V.int))) p3 = some (.lst (ms.map V.int)) := upd_same
      generalize upd H2 p3 (.lst (ms.map V.int)) = H3 at *
      refine ⟨_, SqL.of hr3, _, rfl, g, rfl, _, SqL.of hg3, fun p4 hp4 => ?_⟩
      rw [show cutV ((g0 :: gr).map V.int) (some 1) none = gr.map V.int from cut_from _ 1]
      have n4r : r ≠ p4 := ne_of_none hr3 hp4
      have n4t : t ≠ p4 := ne_of_none ht3 hp4
      have n43 : p3 ≠ p4 := ne_of_none h33 hp4
      have s4 : SB r H (upd H3 p4 (.lst (gr.map V.int))) := s3.trans (SB.new hp4)
      have hr4 : (upd H3 p4 (.lst (gr.map V.int))) r = some (.lst [.ref g, .ref t, .int k, .int st]) := by rw [upd_ne n4r]; exact hr3
      have ht4 : (upd H3 p4 (.lst (gr.map V.int))) t = some (.lst (ts.map V.int)) := by rw [upd_ne n4t]; exact ht3
      have h34 : (upd H3 p4 (.lst (gr.map V.int))) p3 = some (.lst (ms.map V.int)) := by rw [upd_ne n43]; exact h33
      have hgl' : gr.length + 1 ≤ 63 := hgl
      refine ⟨_, h34, _, upd_same, sz_of (by rw [List.length_map, List.length_map]; omega), fun p5 hp5 => ?_⟩
      generalize upd H3 p4 (.lst (gr.map V.int)) = H4 at *
      have n5r : r ≠ p5 := ne_of_none hr4 hp5
      have n5t : t ≠ p5 := ne_of_none ht4 hp5
      rw [← List.map_append]
      have s5 : SB r H (upd H4 p5 (.lst ((ms ++ gr).map V.int))) := s4.trans (SB.new hp5)
      have hr5 : (upd H4 p5 (.lst ((ms ++ gr).map V.int))) r = some (.lst [.ref g, .ref t, .int k, .int st]) := by rw [upd_ne n5r]; exact hr4
      have ht5 : (upd H4 p5 (.lst ((ms ++ gr).map V.int))) t = some (.lst (ts.map V.int)) := by rw [upd_ne n5t]; exact ht4
      have nH5 : H p5 = none := s4.free (Ne.symm n5r) hp5
      have n05 : H0 p5 = none := sub.free nH5
      refine ⟨r, _, 0, 0, rfl, rfl, hr5, rfl, g0, rfl, by omega, q (upd H0 p5 (.lst ((ms ++ gr).map V.int))) _ _ ⟨same_new n05, s5.trans SB.at, fun b n1 n2 => ?_, fun b o z => ?_, ?_, p5, t, ms ++ gr, ts, k, st, upd_same, upd_same, same_new n05 _ _ ht0, by rw [List.length_append]; omega, htl, htl2, hk, hs0, hs1⟩ (Int.emod_nonneg _ (by omega)) (Int.emod_lt_of_pos _ (by omega))⟩
      · by_cases hb : b = p5
        · rw [hb]; exact nH5
        · rw [upd_ne hb] at n2; exact absurd n1 n2
      · by_cases hb : b = p5
        · rw [hb] at z ⊢; rw [upd_same] at z; rw [← z, upd_ne (Ne.symm n5r), upd_same]
        · rw [upd_ne hb] at z; exact sbs (s5.trans SB.at) b o z
      · rw [upd_ne n5r]; exact out
end
end Fv

namespace Fv
open PySem PySem.Spec PyProof.Rows L2
local macro_rules | `(tactic| walk_at "vc") => `(tactic| simp only [tRet, tRetN, tAndV, tOrV, tNotV, tAnd, tOr, tNot, tB, tTest, tOp, tUn, tCB, rTyp, tCons, tNil, tVar, tC, tChain, rI0, rI, rU, tSeq, tNext, tIfS, tIf, tAsg, gName, gCons, gNil, gTup, tDrop, tTup, tLst, tCall, tIsN, tNotN, tPar, tAug, tYes, rLenSq, rIsi, rReprD, L2.tSl, tPart, tNoPart, rSlL, rCat, rRep, gSub, tRevL, CPow, rEqD, rNeD, Int.reduceToNat, tBM, rAppend, wipe, StX.tStar, sDPut, tDGet, tDGet2, tDNewK, List.map_cons, List.map_nil, rEq, rNe, rIxT, rIxL, cxK, cxKn,
  List.getElem?_cons_zero, List.getElem?_cons_succ, List.set_cons_zero, List.set_cons_succ, List.append_nil, List.nil_append, List.cons_append, List.length_cons, List.length_nil, List.cons.injEq, Option.some.injEq, V.int.injEq, V.ty.injEq, V.bl.injEq, V.ref.injEq, V.str.injEq,
  and_true, true_and, and_assoc, exists_eq_left', exists_eq_left, exists_and_left, exists_eq', exists_eq, exists_eq_right, exists_eq_right', decide_eq_true_eq, Bool.not_eq_true', Bool.false_eq_true, if_true, if_false, reduceCtorEq, false_and, and_false, exists_false, decide_true, decide_false, Nat.zero_add, ite_true, ite_false, V.int.injEq, decide_eq_false_iff_not])

def dD : Deed → PyData
  | .turn => .tuple [.str "turn"]
  | .fold o c => .tuple [.str (if o then "over" else "under"), .int c]
theorem deedOf_dD (d : Deed) : deedOf (dD d) = some d := by
  cases d with
  | turn => rfl
  | fold o c => cases o <;> rfl
theorem tD_inv {H : Hp} {v : V} {d : Deed} (h : Tp H v (dD d)) : ∃ a, v = .ref a ∧ ((d = .turn ∧ H a = some (.tup [.str "turn"])) ∨ ∃ o c, d = .fold o c ∧ H a = some (.tup [.str (if o then "over" else "under"), .int c])) := by
  cases d with
  | turn =>
    obtain ⟨a, xs, rfl, h1, h2⟩ := Tp.inv_tup h
    obtain ⟨v0, r, rfl, h3, h4⟩ := TpAll.inv_cons h2
    obtain rfl := Tp.inv_str h3
    obtain rfl := TpAll.inv_nil h4
    exact ⟨a, rfl, .inl ⟨rfl, h1⟩⟩
  | fold o c =>
    obtain ⟨a, xs, rfl, h1, h2⟩ := Tp.inv_tup h
    obtain ⟨v0, r, rfl, h3, h4⟩ := TpAll.inv_cons h2
    obtain ⟨v1, r1, rfl, h5, h6⟩ := TpAll.inv_cons h4
    obtain rfl := Tp.inv_str h3
    obtain rfl := Tp.inv_int h5
    obtain rfl := TpAll.inv_nil h6
    exact ⟨a, rfl, .inr ⟨o, c, rfl, h1⟩⟩
def sp__law_wide (K : PySem.W.Frag) : Sp := fun vs H Q _ => ∃ (w : Int) (v : V) (d : Deed), vs = [.int w, v] ∧ Tp H v (dD d) ∧ 1 ≤ w ∧ Q (.int (foldW w (lineD d))) H
def sp__law_deed (K : PySem.W.Frag) : Sp := fun vs H Q _ => ∃ (r : Addr) (w : Int) (H0 : Hp), vs = [.ref r, .int w] ∧ RIn r H0 H ∧ 1 ≤ w ∧ w ≤ 10 ^ 30 ∧
  ∀ (H0' H' : Hp) (v : V) (d : Deed), ExtR r H0 H H0' H' → Tp H0' v (dD d) → okDeed w (some d) = true → Q v H'
/-- the row that is drawn -/
def sp__law_row (K : PySem.W.Frag) : Sp := fun vs H Q _ => ∃ (r : Addr) (n : Int) (most : Nat) (H0 : Hp), vs = [.ref r, .int n, .int (most : Int)] ∧ RIn r H0 H ∧ 1 ≤ n ∧ n ≤ 10 ^ 30 ∧ most ≤ 40 ∧
  ∀ (H0' H' : Hp) (v : V) (deeds : List Deed), ExtR r H0 H H0' H' → Tp H0' v (.list (deeds.map dD)) → deeds.length ≤ most → okRow (st0 n) deeds → Q v H'
theorem foldW_le {w c : Int} (h0 : 0 ≤ c) (h1 : c ≤ w) : foldW w c ≤ w := by unfold foldW; split <;> omega
theorem okRow_app : ∀ (ds : List Deed) (st : Int × Ht) (d : Deed), okRow st ds → okDeed (stAt st ds).1 (some d) = true → okRow st (ds ++ [d])
  | [], st, d, _, h => ⟨h, trivial⟩
  | e :: r, st, d, ⟨h1, h2⟩, h => ⟨h1, okRow_app r (stepS st e) d h2 h⟩
theorem stAt_app (st : Int × Ht) (ds : List Deed) (d : Deed) : stAt st (ds ++ [d]) = stepS (stAt st ds) d := by
  unfold stAt; rw [List.foldl_append]; rfl
theorem stAt_w : ∀ (ds : List Deed) (st : Int × Ht), 1 ≤ st.1 → okRow st ds → 1 ≤ (stAt st ds).1 ∧ (stAt st ds).1 ≤ st.1
  | [], st, h, _ => ⟨h, Int.le_refl _⟩
  | d :: r, st, h, ⟨h1, h2⟩ => by
    have hl := okDeed_line h h1
    have h3 : 1 ≤ foldW st.1 (lineD d) := by unfold foldW; split <;> omega
    have h4 := stAt_w r (stepS st d) h3 h2
    have h5 : foldW st.1 (lineD d) ≤ st.1 := foldW_le hl.1 (by omega)
    exact ⟨h4.1, Int.le_trans h4.2 h5⟩
/-- an item of a list of whole numbers, at a place that is there -/
theorem atI_ints {ns : List Int} {i : Int} (h0 : 0 ≤ i) (h1 : i < ns.length) : ∃ x, x ∈ ns ∧ atI (ns.map V.int) i = some (.int x) := by
  obtain ⟨j, rfl⟩ : ∃ j : Nat, i = (j : Int) := ⟨i.toNat, by omega⟩
  have hj : j < ns.length := by omega
  exact ⟨ns[j], List.getElem_mem hj, atI_nat (by rw [List.getElem?_map, List.getElem?_eq_getElem hj]; rfl)⟩
section
variable {P : Program} {w : World} {K : PySem.W.Frag} {mg : Str → Option Value} {base : Heap}
theorem good__law_wide (D : DefAt K mg "_law_wide" D__law_wide.st D__law_wide.ps) (T : Bi mg) : Good P w K mg base 1 "_law_wide" D__law_wide.ps (sp__law_wide K) := by
  refine Good.of (N := D__law_wide.N) D D__law_wide.sc (fun vs H Q E h => ?_) (fun f cdv A outer s H vs Q E hr h => ?_)
  · obtain ⟨w, v, d, rfl, _⟩ := h; rfl
  · obtain ⟨w, v, d, rfl, hd, hw, q⟩ := h
    obtain ⟨a, rfl, hc⟩ := tD_inv hd
    have nd := D__law_wide.sc.nd; have hu := hu_of hr; refine ⟨_, (pss_one (ps_ret (pe_ifExp (pt_cmpR op_eq (pe_ix ix_tup (pv 1) pe_int (fun _ _ => rfl)) pe_str (nomark _)) (pv 0) (pe_callB (call_max2 rfl) (by rfl) T.n_max (by decide +kernel) (pa_cons (pe_ix ix_tup (pv 1) pe_int (fun _ _ => rfl)) (pa_cons (pe_op op_sub (pv 0) (pe_ix ix_tup (pv 1) pe_int (fun _ _ => rfl))) pa_nil)))))), ?_⟩
    rw [show L2.start D__law_wide.N [.int w, .ref a] = [some (.int w), some (.ref a)] from rfl]
    walk_at "vc"
    rcases hc with ⟨rfl, hc⟩ | ⟨o, c, rfl, hc⟩
    · refine ⟨_, SqT.of hc, _, rfl, rfl, ?_⟩
      rw [if_pos rfl]
      have e : foldW w (lineD .turn) = w := by
        show (if w - 0 > 0 then w - 0 else 0) = w
        rw [if_pos (by omega)]; omega
      rw [e] at q
      exact q
    · refine ⟨_, SqT.of hc, _, rfl, by cases o <;> rfl, ?_⟩
      rw [if_neg (by cases o <;> (intro z; exact absurd (V.str.inj z) (by decide)))]
      exact ⟨_, SqT.of hc, _, rfl, _, SqT.of hc, _, rfl, c, rfl, c, rfl, q⟩
theorem good__law_deed (D : DefAt K mg "_law_deed" D__law_deed.st D__law_deed.ps) (T : Bi mg)
    (h__law_draw : Good P w K mg base 1 "_law_draw" D__law_draw.ps (sp__law_draw K)) : Good P w K mg base 2 "_law_deed" D__law_deed.ps (sp__law_deed K) := by
  refine Good.of (N := D__law_deed.N) D D__law_deed.sc (fun vs H Q E h => ?_) (fun f cdv A outer s H vs Q E hr h => ?_)
  · obtain ⟨r, w, H0, rfl, _⟩ := h; rfl
  · obtain ⟨r, w, H0, rfl, hR, hw1, hw2, q⟩ := h
    obtain ⟨f__law_draw, fd__law_draw, m__law_draw, k__law_draw, b__law_draw, G__law_draw⟩ := h__law_draw
    have nd := D__law_deed.sc.nd; have hu := hu_of hr; refine ⟨_, (pss_cons (ps_if (PW.pt (pw_or (pt_cmpR op_eq (pv 1) pe_int (nomark _)) (pw_or1 (pt_cmpR op_eq (pe_call G__law_draw (hr.mono (by decide)) (by rfl) m__law_draw k__law_draw b__law_draw .nil pass0 (pa_cons (pv 0) (pa_cons pe_int pa_nil))) pe_int (nomark _))))) (pss_one (ps_ret (pe_tup (pa_cons pe_str pa_nil)))) pss_nil)       (pss_cons (ps_set (i := 2) nd rfl (Or.inl rfl) (pe_lst (pa_cons (pe_op op_add pe_int (pe_call G__law_draw (hr.mono (by decide)) (by rfl) m__law_draw k__law_draw b__law_draw .nil pass0 (pa_cons (pv 0) (pa_cons (pe_op op_sub (pv 1) pe_int) pa_nil)))) (pa_cons (pe_callB (call_max2 rfl) (by rfl) T.n_max (by decide +kernel) (pa_cons pe_int (pa_cons (pe_op op_fdivW (pv 1) pe_int) pa_nil))) (pa_cons (pe_op op_sub (pv 1) pe_int) (pa_cons pe_int (pa_cons (pe_callB (call_max2 rfl) (by rfl) T.n_max (by decide +kernel) (pa_cons pe_int (pa_cons (pe_op op_sub (pe_op op_fdivW (pv 1) pe_int) (pe_call G__law_draw (hr.mono (by decide)) (by rfl) m__law_draw k__law_draw b__law_draw .nil pass0 (pa_cons (pv 0) (pa_cons pe_int pa_nil)))) pa_nil))) pa_nil)))))))       (pss_one (ps_ret (pe_tup (pa_cons (pe_ix ix_list (pe_lst (pa_cons pe_str (pa_cons pe_str pa_nil))) (pe_call G__law_draw (hr.mono (by decide)) (by rfl) m__law_draw k__law_draw b__law_draw .nil pass0 (pa_cons (pv 0) (pa_cons pe_int pa_nil))) (fun _ _ => rfl)) (pa_cons (pe_ix ix_list (pv 2) (pe_call G__law_draw (hr.mono (by decide)) (by rfl) m__law_draw k__law_draw b__law_draw .nil pass0 (pa_cons (pv 0) (pa_cons pe_int pa_nil))) (fun _ _ => rfl)) pa_nil))))))), ?_⟩
    rw [show L2.start D__law_deed.N [.ref r, .int w] = [some (.ref r), some (.int w), none] from rfl]
    walk_at "vc"
    refine ⟨rfl, ?_⟩
    by_cases h1 : w = 1
    · rw [if_pos h1]
      exact ⟨by decide, fun p hp => q _ _ _ .turn ((ExtR.refl hR).alloc _ hp) (.tup upd_same (TpAll.one (.str _))) rfl⟩
    · rw [if_neg h1]
      refine ⟨r, 6, H0, rfl, hR, by decide, by decide, fun A1 H1 v1 e1 _ _ => ⟨rfl, ?_⟩⟩
      by_cases hz : V.int v1 = V.int 0
      · rw [if_pos hz]
        exact ⟨by decide, fun p hp => q _ _ _ .turn (e1.alloc _ hp) (.tup upd_same (TpAll.one (.str _))) rfl⟩
      · rw [if_neg hz]
        have c2 : CDivW w 2 := wide_div (b := 2) (by decide) (by decide) (by decide) (by decide)
        refine ⟨r, w - 1, A1, rfl, e1.fin, by omega, by omega, fun A2 H2 d e2 d0 d1 => ⟨d, rfl, c2, c2, r, 3, A2, rfl, e2.fin, by decide, by decide, fun A3 H3 x3 e3 x0 x1 => ⟨x3, rfl, by decide, fun p hp => ⟨by decide, fun p1 hp1 => ?_⟩⟩⟩⟩
        generalize hns : [1 + d, (if w / 2 > 1 then w / 2 else 1), w - 1, 1, (if w / 2 - x3 > 1 then w / 2 - x3 else 1)] = ns at *
        have hmap : [V.int (1 + d), V.int (if w / 2 > 1 then w / 2 else 1), V.int (w - 1), V.int 1, V.int (if w / 2 - x3 > 1 then w / 2 - x3 else 1)] = ns.map V.int := by rw [← hns]; rfl
        rw [hmap] at hp1 ⊢
        have hlen : ns.length = 5 := by rw [← hns]; rfl
        have eP := ((e1.trans e2).trans e3).alloc (.lst (ns.map V.int)) hp
        have eP1 := eP.alloc (.lst [V.str "over", V.str "under"]) hp1
        have hpp : p ≠ p1 := fun z => by rw [← z, upd_same] at hp1; cases hp1
        refine ⟨r, 2, _, rfl, eP1.fin, by decide, by decide, fun A4 H4 y e4 y0 y1 => ⟨_, y, rfl, SqL.of (e4.sub _ _ (e4.grow _ _ upd_same)), ?_⟩⟩
        obtain ⟨o, ho⟩ : ∃ o : Bool, atI [V.str "over", V.str "under"] y = some (V.str (if o then "over" else "under")) := by
          rcases (show y = 0 ∨ y = 1 by omega) with rfl | rfl
          · exact ⟨true, rfl⟩
          · exact ⟨false, rfl⟩
        refine ⟨_, ho, r, 5, A4, rfl, e4.fin, by decide, by decide, fun A5 H5 z e5 z0 z1 => ⟨ns.map V.int, z, rfl, SqL.of (e5.sub _ _ (e5.grow _ _ (e4.grow _ _ (by rw [upd_ne hpp, upd_same])))), ?_⟩⟩
        obtain ⟨x, hx, hat⟩ := atI_ints (ns := ns) z0 (by rw [hlen]; exact z1)
        refine ⟨_, hat, by decide, fun p2 hp2 => q _ _ _ (.fold o x) (((eP1.trans e4).trans e5).alloc _ hp2) (.tup upd_same (.cons (.str _) (TpAll.one (.int _)))) ?_⟩
        have hb : 1 ≤ x ∧ x ≤ w - 1 := by
          rw [← hns] at hx
          simp only [List.mem_cons, List.not_mem_nil, or_false] at hx
          rcases hx with rfl | rfl | rfl | rfl | rfl
          · omega
          · split <;> omega
          · omega
          · omega
          · split <;> omega
        show (decide (1 ≤ x) && decide (x ≤ w - 1)) = true
        rw [decide_eq_true hb.1, decide_eq_true hb.2]; rfl
theorem good__law_row (D : DefAt K mg "_law_row" D__law_row.st D__law_row.ps) (T : Bi mg)
    (h__law_draw : Good P w K mg base 1 "_law_draw" D__law_draw.ps (sp__law_draw K)) (h__law_deed : Good P w K mg base 2 "_law_deed" D__law_deed.ps (sp__law_deed K)) (h__law_wide : Good P w K mg base 1 "_law_wide" D__law_wide.ps (sp__law_wide K)) :
    Good P w K mg base 3 "_law_row" D__law_row.ps (sp__law_row K) := by
  refine Good.of (N := D__law_row.N) D D__law_row.sc (fun vs H Q E h => ?_) (fun f cdv A outer s H vs Q E hr h => ?_)
  · obtain ⟨r, n, most, H0, rfl, _⟩ := h; rfl
  · obtain ⟨r, n, most, H0, rfl, hR, hn1, hn2, hm, q⟩ := h
    obtain ⟨f__law_draw, fd__law_draw, m__law_draw, k__law_draw, b__law_draw, G__law_draw⟩ := h__law_draw; obtain ⟨f__law_deed, fd__law_deed, m__law_deed, k__law_deed, b__law_deed, G__law_deed⟩ := h__law_deed; obtain ⟨f__law_wide, fd__law_wide, m__law_wide, k__law_wide, b__law_wide, G__law_wide⟩ := h__law_wide
    have nd := D__law_row.sc.nd; have hu := hu_of hr; refine ⟨_, (pss_cons (ps_set (i := 3) nd rfl (Or.inl rfl) (pe_lst pa_nil))       (pss_cons (ps_set (i := 4) nd rfl (Or.inl rfl) (pv 1))       (pss_cons (ps_for PassesOwn.never (by rfl) (pi_range1 (by rfl) T.n_range (pa_cons (pe_call G__law_draw (hr.mono (by decide)) (by rfl) m__law_draw k__law_draw b__law_draw .nil pass0 (pa_cons (pv 0) (pa_cons (pe_op op_add (pv 2) pe_int) pa_nil))) pa_nil)) (pg_name (i := 5) nd rfl (Or.inl rfl)) (pss_cons (ps_expr (pe_bm PySem.F.plainAttrs_list PySem.F.slot_list_append PySem.F.type_list_append mt_append (pv 3) (pa_cons (pe_call G__law_deed (hr.mono (by decide)) (by rfl) m__law_deed k__law_deed b__law_deed .nil pass0 (pa_cons (pv 0) (pa_cons (pv 4) pa_nil))) pa_nil)))       (pss_one (ps_set (i := 4) nd rfl (Or.inl rfl) (pe_call G__law_wide (hr.mono (by decide)) (by rfl) m__law_wide k__law_wide b__law_wide .nil pass0 (pa_cons (pv 4) (pa_cons (pe_ix ix_list (pv 3) (pe_un un_neg pe_int) (fun _ _ => rfl)) pa_nil)))))))       (pss_one (ps_ret (pv 3)))))), ?_⟩
    rw [show L2.start D__law_row.N [.ref r, .int n, .int (most : Int)] = [some (.ref r), some (.int n), some (.int (most : Int)), none, none, none] from rfl]
    walk_at "vc"
    refine ⟨by decide, fun F hF => ?_⟩
    have eF := (ExtR.refl hR).make (.lst []) hF
    have n0F : H0 F = none := hR.sub.free hF
    have nFr : F ≠ r := hR.ne hF
    refine ⟨_, rfl, _, rfl, _, _, rfl, rfl, r, _, H0, rfl, eF.fin, by omega, by omega, fun A1 H1 v e1 v0 v1 => ⟨v, rfl, by omega, by omega, for_range (lo := 0) (n := v.toNat) (fun i σ H' => ∃ (x5 : Option V) (A' : Hp) (acc : List V) (deeds : List Deed),
      σ = [some (.ref r), some (.int n), some (.int (most : Int)), some (.ref F), some (.int (stAt (st0 n) deeds).1), x5] ∧ ExtR r H0 H A' H' ∧ A' F = none ∧ H' F = some (.lst acc) ∧ TpAll A' acc (deeds.map dD) ∧ deeds.length = i ∧ okRow (st0 n) deeds)
      ⟨none, A1, [], [], rfl, eF.trans e1, e1.out (by rw [upd_same]; simp) n0F, e1.same F _ nFr upd_same, .nil, rfl, trivial⟩ ?_ ?_⟩⟩
    · rintro i σ H' hi ⟨x5, A', acc, deeds, rfl, e, nF, eF', da, hl, hok⟩
      have hw := stAt_w deeds (st0 n) hn1 hok
      have hwn : (stAt (st0 n) deeds).1 ≤ n := hw.2
      walk_at "vc"
      have hal : acc.length = i := by rw [TpAll.length da, List.length_map, hl]
      refine ⟨.inl ⟨rfl, _, SqL.of eF'⟩, r, _, A', rfl, e.fin, hw.1, by omega, fun A2 H2 v2 d e2 dv hd => ?_⟩
      have eF2 : H2 F = some (.lst acc) := e2.same F _ nFr eF'
      have nF2 : A2 F = none := e2.out (by rw [eF']; simp) nF
      have em := (e.trans e2).mut (.lst (acc ++ [v2])) hF nF2 nFr
      refine ⟨acc, eF2, sz_lt (by omega), _, SqL.of upd_same, v2, atI_last acc v2, _, v2, d, rfl, Tp.mono em.sub dv, hw.1, ?_⟩
      exact ⟨_, A2, _, deeds ++ [d], by rw [stAt_app]; rfl, rfl, em, nF2, upd_same, by rw [List.map_append]; exact TpAll.app (TpAll.mono e2.grow da) (TpAll.one dv), by rw [List.length_append, hl]; rfl, okRow_app _ _ _ hok hd⟩
    · rintro σ H' ⟨x5, A', acc, deeds, rfl, e, nF, eF', da, hl, hok⟩
      exact ⟨_, rfl, q _ _ _ deeds (e.keep hF nF nFr eF') (.lst upd_same (TpAll.mono (same_new nF) da)) (by omega) hok⟩
end
end Fv

namespace Fv
open PySem PySem.Spec PyProof.Rows L2
local macro_rules | `(tactic| walk_at "vc") => `(tactic| simp only [tRet, tRetN, tAndV, tOrV, tNotV, tAnd, tOr, tNot, tB, tTest, tOp, tUn, tCB, rTyp, tCons, tNil, tVar, tC, tChain, rI0, rI, rU, tSeq, tNext, tIfS, tIf, tAsg, gName, gCons, gNil, gTup, tDrop, tTup, tLst, tCall, tIsN, tNotN, tPar, tAug, tYes, rLenSq, rIsi, rReprD, L2.tSl, tPart, tNoPart, rSlL, rCat, rRep, gSub, tRevL, CPow, rEqD, rNeD, Int.reduceToNat, tBM, rAppend, wipe, StX.tStar, sDPut, tDGet, tDGet2, tDNewK, List.map_cons, List.map_nil, rEq, rNe, rIxT, rIxL, cxK, cxKn,
  List.getElem?_cons_zero, List.getElem?_cons_succ, List.set_cons_zero, List.set_cons_succ, List.append_nil, List.nil_append, List.cons_append, List.length_cons, List.length_nil, List.cons.injEq, Option.some.injEq, V.int.injEq, V.ty.injEq, V.bl.injEq, V.ref.injEq, V.str.injEq,
  and_true, true_and, and_assoc, exists_eq_left', exists_eq_left, exists_and_left, exists_eq', exists_eq, exists_eq_right, exists_eq_right', decide_eq_true_eq, Bool.not_eq_true', Bool.false_eq_true, if_true, if_false, reduceCtorEq, false_and, and_false, exists_false, decide_true, decide_false, Nat.zero_add, ite_true, ite_false, V.int.injEq, decide_eq_false_iff_not])

def itD (p : Int × Bool) : PyData := .tuple [.int p.1, .bool p.2]
def pileD (p : Pile) : PyData := .list (p.map itD)
def pilesD (pls : List Pile) : PyData := .list (pls.map pileD)
def doneP (pls : List Pile) : Deed → List Pile
  | .turn => turnP pls
  | .fold o c => foldP pls o c.toNat
theorem tItD_inv {H : Hp} {v : V} {p : Int × Bool} (h : Tp H v (itD p)) : ∃ a, v = .ref a ∧ H a = some (.tup [.int p.1, .bl p.2]) := by
  obtain ⟨a, xs, rfl, h1, h2⟩ := Tp.inv_tup h
  obtain ⟨v0, r, rfl, h3, h4⟩ := TpAll.inv_cons h2
  obtain ⟨v1, r1, rfl, h5, h6⟩ := TpAll.inv_cons h4
  obtain rfl := Tp.inv_int h3
  obtain rfl := Tp.inv_bl h5
  obtain rfl := TpAll.inv_nil h6
  exact ⟨a, rfl, h1⟩
theorem filt {α : Type} (l : List α) : (l.filter fun _ => true) = l := by simp
def sp__law_about (K : PySem.W.Frag) : Sp := fun vs H Q _ => ∃ (v : V) (p : Pile) (H0 : Hp), vs = [v] ∧ Same H0 H ∧ Tp H0 v (pileD p) ∧ p.length ≤ 50000 ∧
  ∀ (H0' H' : Hp) (v' : V), Ext H0 H H0' H' → Tp H0' v' (pileD (aboutP p)) → Q v' H'
def sp__law_done (K : PySem.W.Frag) : Sp := fun vs H Q _ => ∃ (v v2 : V) (pls : List Pile) (d : Deed) (H0 : Hp), vs = [v, v2] ∧ Same H0 H ∧ Tp H0 v (pilesD pls) ∧ Tp H0 v2 (dD d) ∧ 1 ≤ pls.length ∧ okDeed pls.length (some d) = true ∧ pls.length ≤ 1000 ∧ Low 20000 pls ∧
  ∀ (H0' H' : Hp) (v' : V), Ext H0 H H0' H' → Tp H0' v' (pilesD (doneP pls d)) → Q v' H'
section
variable {P : Program} {w : World} {K : PySem.W.Frag} {mg : Str → Option Value} {base : Heap}
theorem good__law_about (D : DefAt K mg "_law_about" D__law_about.st D__law_about.ps) (T : Bi mg) : Good P w K mg base 1 "_law_about" D__law_about.ps (sp__law_about K) := by
  refine Good.of (N := D__law_about.N) D D__law_about.sc (fun vs H Q E h => ?_) (fun f cdv A outer s H vs Q E hr h => ?_)
  · obtain ⟨v, p, H0, rfl, _⟩ := h; rfl
  · obtain ⟨v, p, H0, rfl, sH, hd, hl, q⟩ := h
    obtain ⟨a, xs, rfl, hS, hA⟩ := Tp.inv_lst hd
    have nd := D__law_about.sc.nd; have hu := hu_of hr; refine ⟨_, (pss_one (ps_ret (pe_lc (own := [("place", 1), ("face", 2)]) (g := (gTup K 2 (gCons (gName 1) (gCons (gName 2) gNil)))) (tt := tYes) (te := (tTup (tCons (tVar 1) (tCons (tNotV (tVar 2)) tNil)))) (by rfl) nd (pi_list (pe_revL (pv 0))) (blkOk_by (own := [("place", 1), ("face", 2)]) (N := D__law_about.N) (sc := defScope D__law_about.st) (by decide +kernel)) (fun _ _ _ _ _ => (pg_tup (by rfl) (pgs_cons (pg_name (i := 1) nd rfl (Or.inl rfl)) (pgs_cons (pg_name (i := 2) nd rfl (Or.inl rfl)) pgs_nil)))) (fun _ _ _ _ _ => pts_nil) (fun _ _ _ _ _ => (pe_tup (pa_cons (pv 1) (pa_cons (pe_not (pv 2)) pa_nil))))))), ?_⟩
    rw [show L2.start D__law_about.N [.ref a] = [some (.ref a), none, none] from rfl]
    walk_at "vc"
    refine lcL_t (K := K) (α := Int × Bool) (fun _ => true) (fun q => itD (q.1, !q.2)) ⟨_, rfl, a, xs, rfl, SqL.of (sH _ _ hS), fun l hl2 => ?_⟩ ?_
    · have e := (Ext.refl sH).alloc (.lst xs.reverse) hl2
      refine ⟨p.reverse, l, xs.reverse, _, rfl, SqL.of upd_same, e.sub, by rw [List.length_reverse, List.length_reverse, TpAll.length hA, List.length_map], by rw [List.length_reverse]; omega, fun i x d hx hd' A1 H1 e1 Qy Qn hy hn => ?_, fun D2 A1 H1 ys nD e1 n0 eD da => ?_⟩
      · have hA' : TpAll H0 xs.reverse (p.reverse.map itD) := by
          rw [List.map_reverse]; exact TpAll.rev hA
        obtain ⟨dd, h1, h2⟩ := TpAll.at hA' hx
        rw [List.getElem?_map, hd'] at h1
        obtain rfl := (Option.some.inj h1).symm
        obtain ⟨t, rfl, hT⟩ := tItD_inv h2
        have hT1 := e1.same _ _ (e.sub _ _ (e.grow _ _ hT))
        walk_at "vc"
        refine ⟨_, SqT.of hT1, rfl, _, _, rfl, _, _, rfl, rfl, ?_⟩
        walk_at "vc"
        exact ⟨by decide, fun p2 hp2 => hy rfl _ _ _ ((Ext.refl e1.sub).alloc _ hp2) (.tup upd_same (.cons (.int _) (TpAll.one (.bl _))))⟩
      · have eK := (e.trans e1).keep (e.same.free nD) n0 eD
        refine q _ _ _ eK (.lst upd_same ?_)
        have em : (aboutP p).map itD = (p.reverse.filter fun _ => true).map fun q => itD (q.1, !q.2) := by
          unfold aboutP
          rw [List.map_map, filt]; rfl
        rw [em]
        exact TpAll.mono (same_new n0) da
    · rintro Q1 Q2 hQ ⟨v, ev, a', xs', e1, h1, k⟩
      exact ⟨v, ev, a', xs', e1, h1, fun p hp => hQ _ _ (k p hp)⟩
theorem good__law_done (D : DefAt K mg "_law_done" D__law_done.st D__law_done.ps) (T : Bi mg)
    (h__law_about : Good P w K mg base 1 "_law_about" D__law_about.ps (sp__law_about K)) : Good P w K mg base 2 "_law_done" D__law_done.ps (sp__law_done K) := by
  refine Good.of (N := D__law_done.N) D D__law_done.sc (fun vs H Q E h => ?_) (fun f cdv A outer s H vs Q E hr h => ?_)
  · obtain ⟨v, v2, pls, d, H0, rfl, _⟩ := h; rfl
  · obtain ⟨v, v2, pls, d, H0, rfl, sH, hd, hd2, hp1, hok, hp2, hlow, q⟩ := h
    obtain ⟨a, xs, rfl, hS, hA⟩ := Tp.inv_lst hd
    obtain ⟨b, rfl, hc⟩ := tD_inv hd2
    have hxl : xs.length = pls.length := by rw [TpAll.length hA, List.length_map]
    obtain ⟨f__law_about, fd__law_about, m__law_about, k__law_about, b__law_about, G__law_about⟩ := h__law_about
    have nd := D__law_done.sc.nd; have hu := hu_of hr; refine ⟨_, (pss_cons (ps_if (pt_cmpR op_eq (pe_ix ix_tup (pv 1) pe_int (fun _ _ => rfl)) pe_str (nomark _)) (pss_one (ps_ret (pe_lc (own := [("pile", 7)]) (g := (gName 7)) (tt := tYes) (te := (tCall (sp__law_about K) [] E0 (tCons (tVar 7) tNil))) (by rfl) nd (pi_list (pe_revL (pv 0))) (blkOk_by (own := [("pile", 7)]) (N := D__law_done.N) (sc := defScope D__law_done.st) (by decide +kernel)) (fun _ _ _ _ _ => (pg_name (i := 7) nd rfl (Or.inl rfl))) (fun _ _ _ _ _ => pts_nil) (fun _ _ _ _ _ => (pe_call G__law_about (hr.mono (by decide)) (by rfl) m__law_about k__law_about b__law_about .nil pass0 (pa_cons (pv 7) pa_nil)))))) pss_nil)       (pss_cons (ps_set (i := 2) nd rfl (Or.inl rfl) (pe_ix ix_tup (pv 1) pe_int (fun _ _ => rfl)))       (pss_cons (ps_set (i := 3) nd rfl (Or.inl rfl) (pe_lst pa_nil))       (pss_cons (ps_for PassesOwn.never (by rfl) (pi_range2 (by rfl) T.n_range (pa_cons pe_int (pa_cons (pe_op op_add (pe_callB (call_max2 rfl) (by rfl) T.n_max (by decide +kernel) (pa_cons (pv 2) (pa_cons (pe_op op_sub (pe_callB call_len_seq (by rfl) T.n_len (by decide +kernel) (pa_cons (pv 0) pa_nil)) (pv 2)) pa_nil))) pe_int) pa_nil))) (pg_name (i := 4) nd rfl (Or.inl rfl)) (pss_cons (ps_set (i := 5) nd rfl (Or.inl rfl) (pe_ifExp (pt_cmpR op_le (pv 4) (pv 2) (nomark _)) (pe_ix ix_list (pv 0) (pe_op op_sub (pv 2) (pv 4)) (fun _ _ => rfl)) (pe_lst pa_nil)))       (pss_cons (ps_set (i := 6) nd rfl (Or.inl rfl) (pe_ifExp (pt_cmpR op_le (pe_op op_add (pv 2) (pv 4)) (pe_callB call_len_seq (by rfl) T.n_len (by decide +kernel) (pa_cons (pv 0) pa_nil)) (nomark _)) (pe_call G__law_about (hr.mono (by decide)) (by rfl) m__law_about k__law_about b__law_about .nil pass0 (pa_cons (pe_ix ix_list (pv 0) (pe_op op_sub (pe_op op_add (pv 2) (pv 4)) pe_int) (fun _ _ => rfl)) pa_nil)) (pe_lst pa_nil)))       (pss_one (ps_expr (pe_bm PySem.F.plainAttrs_list PySem.F.slot_list_append PySem.F.type_list_append mt_append (pv 3) (pa_cons (pe_ifExp (pt_cmpR op_eq (pe_ix ix_tup (pv 1) pe_int (fun _ _ => rfl)) pe_str (nomark _)) (pe_op op_cat (pv 6) (pv 5)) (pe_op op_cat (pv 5) (pv 6))) pa_nil)))))))       (pss_one (ps_ret (pe_revL (pv 3)))))))), ?_⟩
    rw [show L2.start D__law_done.N [.ref a, .ref b] = [some (.ref a), some (.ref b), none, none, none, none, none, none] from rfl]
    walk_at "vc"
    rcases hc with ⟨rfl, hc⟩ | ⟨o, c, rfl, hc⟩
    · refine ⟨_, SqT.of (sH _ _ hc), _, rfl, rfl, ?_⟩
      rw [if_pos rfl]
      refine lcL_t (K := K) (α := Pile) (fun _ => true) (fun q => pileD (aboutP q)) ⟨_, rfl, a, xs, rfl, SqL.of (sH _ _ hS), fun l hl2 => ?_⟩ ?_
      · have e := (Ext.refl sH).alloc (.lst xs.reverse) hl2
        refine ⟨pls.reverse, l, xs.reverse, _, rfl, SqL.of upd_same, e.sub, by rw [List.length_reverse, List.length_reverse, hxl], by rw [List.length_reverse]; omega, fun i x d hx hd' A1 H1 e1 Qy Qn hy hn => ?_, fun D2 A1 H1 ys nD e1 n0 eD da => ?_⟩
        · have hA' : TpAll H0 xs.reverse (pls.reverse.map pileD) := by
            rw [List.map_reverse]; exact TpAll.rev hA
          obtain ⟨dd, h1, h2⟩ := TpAll.at hA' hx
          rw [List.getElem?_map, hd'] at h1
          obtain rfl := (Option.some.inj h1).symm
          have hdl := hlow d (List.mem_reverse.mp (List.mem_of_getElem? hd'))
          walk_at "vc"
          exact ⟨x, d, A1, rfl, e1.sub, Tp.mono (e.grow.trans e1.grow) h2, by omega, fun A2 H2 v' e2 dv => hy rfl _ _ _ e2 dv⟩
        · have eK := (e.trans e1).keep (e.same.free nD) n0 eD
          refine q _ _ _ eK (.lst upd_same ?_)
          have em : (turnP pls).map pileD = (pls.reverse.filter fun _ => true).map fun q => pileD (aboutP q) := by
            unfold turnP
            rw [List.map_map, filt]; rfl
          show TpAll _ _ ((turnP pls).map pileD)
          rw [em]
          exact TpAll.mono (same_new n0) da
      · rintro Q1 Q2 hQ ⟨v, ev, a', xs', e1, h1, k⟩
        exact ⟨v, ev, a', xs', e1, h1, fun p hp => hQ _ _ (k p hp)⟩
    · refine ⟨_, SqT.of (sH _ _ hc), _, rfl, by cases o <;> rfl, ?_⟩
      rw [if_neg (by cases o <;> (intro z; exact absurd (V.str.inj z) (by decide)))]
      have hb : 1 ≤ c ∧ c ≤ (pls.length : Int) - 1 := by
        have h1 : (decide (1 ≤ c) && decide (c ≤ (pls.length : Int) - 1)) = true := hok
        simpa using h1
      obtain ⟨l, rfl⟩ : ∃ l : Nat, c = (l : Int) := ⟨c.toNat, by omega⟩
      refine ⟨_, SqT.of (sH _ _ hc), _, rfl, by decide, fun F hF => ?_⟩
      have e0 := (Ext.refl sH).make (.lst []) hF
      have n0F : H0 F = none := sH.free hF
      refine ⟨_, rfl, _, rfl, a, rfl, xs, .inl (SqL.of (e0.sub _ _ hS)), _, rfl, _, _, rfl, rfl, _, _, rfl, _, _, rfl, rfl, _, _, rfl, ⟨by omega, by omega, by split <;> omega, by split <;> omega⟩, for_range (lo := 1) (fun i σ H' => ∃ (x4 x5 x6 : Option V) (A' : Hp) (acc : List V),
        σ = [some (.ref a), some (.ref b), some (.int (l : Int)), some (.ref F), x4, x5, x6, none] ∧ Ext H0 H A' H' ∧ A' F = none ∧ H' F = some (.lst acc) ∧ TpAll A' acc ((foundP pls o l i).map pileD))
        ⟨none, none, none, H0, [], rfl, e0, n0F, upd_same, .nil⟩ ?_ ?_⟩
      · rintro i σ H' hi ⟨x4, x5, x6, A', acc, rfl, e, nF, eF, da⟩
        have step1 : ∀ (Q' : VK), (∀ (A1 H1 : Hp) (v : V), Ext A' H' A1 H1 → Tp A1 v (pileD (restP pls l (i + 1))) → Q' v H1) →
            tIf (tTest (tOp (rI0 fun i j => V.bl (decide (i ≤ j))) (tVar 4) (tVar 2))) (tOp (rIxL K) (tVar 0) (tOp (rI0 fun i j => V.int (i - j)) (tVar 2) (tVar 4))) (tLst tNil)
              [some (.ref a), some (.ref b), some (.int (l : Int)), some (.ref F), some (.int (1 + (i : Int))), x5, x6, none] H' Q' := by
          intro Q' k
          walk_at "vc"
          by_cases hf : 1 + (i : Int) ≤ (l : Int)
          · rw [if_pos hf]
            have hr : restP pls l (i + 1) = pls.getD (l - (i + 1)) [] := if_pos (by omega)
            have hlt : l - (i + 1) < pls.length := by omega
            have hp : (pls.map pileD)[l - (i + 1)]? = some (pileD (restP pls l (i + 1))) := by
              rw [List.getElem?_map, List.getElem?_eq_getElem hlt, hr, List.getD_eq_getElem?_getD, List.getElem?_eq_getElem hlt]; rfl
            obtain ⟨v, hv, dv⟩ := TpAll.of hA hp
            exact ⟨_, SqL.of (e.sub _ _ (e.grow _ _ hS)), v, by rw [show (l : Int) - (1 + (i : Int)) = ((l - (i + 1) : Nat) : Int) by omega]; exact atI_nat hv, k _ _ _ (Ext.refl e.sub) (Tp.mono e.grow dv)⟩
          · rw [if_neg hf]
            have hr : restP pls l (i + 1) = [] := if_neg (by omega)
            exact ⟨by decide, fun p hp => k _ _ _ ((Ext.refl e.sub).alloc _ hp) (by rw [hr]; exact .lst upd_same .nil)⟩
        have step2 : ∀ (A1 H1 : Hp) (v1 : V) (Q' : VK), Ext A' H' A1 H1 → (∀ (A2 H2 : Hp) (v : V), Ext A1 H1 A2 H2 → Tp A2 v (pileD (comesP pls l (i + 1))) → Q' v H2) →
            tIf (tTest (tOp (rI0 fun i j => V.bl (decide (i ≤ j))) (tOp (rI0 fun i j => V.int (i + j)) (tVar 2) (tVar 4)) (tCB (fun xs H Q => ∃ p, xs = [V.ref p] ∧ ∃ x, (SqL K H p x ∨ SqT K H p x) ∧ Q (V.int ↑x.length) H) (tCons (tVar 0) tNil))))
              (tCall (sp__law_about K) [] E0 (tCons (tOp (rIxL K) (tVar 0) (tOp (rI0 fun i j => V.int (i - j)) (tOp (rI0 fun i j => V.int (i + j)) (tVar 2) (tVar 4)) (tC (V.int 1)))) tNil)) (tLst tNil)
              [some (.ref a), some (.ref b), some (.int (l : Int)), some (.ref F), some (.int (1 + (i : Int))), some v1, x6, none] H1 Q' := by
          intro A1 H1 v1 Q' e1 k
          have hS1 : H1 a = some (.lst xs) := e1.sub _ _ (e1.grow _ _ (e.grow _ _ hS))
          walk_at "vc"
          refine ⟨xs, .inl (SqL.of hS1), ?_⟩
          by_cases hf : (l : Int) + (1 + (i : Int)) ≤ ((xs.length : Nat) : Int)
          · rw [if_pos hf]
            have hcm : comesP pls l (i + 1) = aboutP (pls.getD (l + (i + 1) - 1) []) := if_pos (by omega)
            have hlt : l + (i + 1) - 1 < pls.length := by omega
            have hp : (pls.map pileD)[l + (i + 1) - 1]? = some (pileD (pls.getD (l + (i + 1) - 1) [])) := by
              rw [List.getElem?_map, List.getElem?_eq_getElem hlt, List.getD_eq_getElem?_getD, List.getElem?_eq_getElem hlt]; rfl
            obtain ⟨v, hv, dv⟩ := TpAll.of hA hp
            have hb := low_getD hlow (l + (i + 1) - 1)
            refine ⟨_, SqL.of hS1, v, by rw [show (l : Int) + (1 + (i : Int)) - 1 = ((l + (i + 1) - 1 : Nat) : Int) by omega]; exact atI_nat hv, v, _, A1, rfl, e1.sub, Tp.mono (e.grow.trans e1.grow) dv, by omega, fun A2 H2 v' e2 dv' => k _ _ _ e2 (by rw [hcm]; exact dv')⟩
          · rw [if_neg hf]
            have hcm : comesP pls l (i + 1) = [] := if_neg (by omega)
            exact ⟨by decide, fun p hp => k _ _ _ ((Ext.refl e1.sub).alloc _ hp) (by rw [hcm]; exact .lst upd_same .nil)⟩
        simp only [gName, tSeq, tAsg, List.set_cons_zero, List.set_cons_succ]
        refine step1 _ fun A1 H1 v1 e1 d1 => ?_
        refine step2 A1 H1 v1 _ e1 fun A2 H2 v2 e2 d2 => ?_
        obtain ⟨r1, ys1, rfl, hr1, hd1⟩ := Tp.inv_lst d1
        obtain ⟨r2, ys2, rfl, hr2, hd2'⟩ := Tp.inv_lst d2
        have hr1' : H2 r1 = some (.lst ys1) := e2.sub _ _ (e2.grow _ _ hr1)
        have hr2' : H2 r2 = some (.lst ys2) := e2.sub _ _ hr2
        have hcb : H2 b = some (.tup [.str (if o then "over" else "under"), .int (l : Int)]) := e2.sub _ _ (e2.grow _ _ (e1.grow _ _ (e.grow _ _ hc)))
        have eA := (e.trans e1).trans e2
        have eF2 : H2 F = some (.lst acc) := e2.same _ _ (e1.same _ _ eF)
        have nF2 : A2 F = none := (e1.trans e2).out (by rw [eF]; simp) nF
        have hl1 : ys1.length ≤ 20000 := by rw [TpAll.length hd1, List.length_map]; exact low_rest hlow _ _
        have hl2 : ys2.length ≤ 20000 := by rw [TpAll.length hd2', List.length_map]; exact low_comes hlow _ _
        have hacc : acc.length ≤ 2000 := by
          rw [TpAll.length da]
          unfold foundP
          rw [List.length_map, List.length_map, List.length_range]
          split at hi <;> omega
        have fin : ∀ (p : Addr) (zs : List V), H2 p = none → TpAll A2 zs ((colP pls o l (i + 1)).map itD) → ∃ (A' : Hp) (acc' : List V), Ext H0 H A' (upd (upd H2 p (.lst zs)) F (.lst (acc ++ [.ref p]))) ∧ A' F = none ∧ (upd (upd H2 p (.lst zs)) F (.lst (acc ++ [.ref p]))) F = some (.lst acc') ∧ TpAll A' acc' ((foundP pls o l (i + 1)).map pileD) := by
          intro p zs hp hz
          have eP := eA.alloc (.lst zs) hp
          have npF : F ≠ p := ne_of_none eF2 hp
          have nFP : (upd A2 p (.lst zs)) F = none := by rw [upd_ne npF]; exact nF2
          have nA2p : A2 p = none := eA.sub.free hp
          refine ⟨_, _, eP.mut _ hF nFP, nFP, upd_same, ?_⟩
          have em : (foundP pls o l (i + 1)).map pileD = (foundP pls o l i).map pileD ++ [pileD (colP pls o l (i + 1))] := by
            unfold foundP
            rw [List.range_succ, List.map_append, List.map_append]; rfl
          rw [em]
          exact TpAll.app (TpAll.mono ((e1.trans e2).grow.trans (same_new nA2p)) da) (TpAll.one (.lst upd_same (TpAll.mono (same_new nA2p) hz)))
        walk_at "vc"
        refine ⟨.inl ⟨rfl, _, SqL.of eF2⟩, _, SqT.of hcb, _, rfl, by cases o <;> rfl, ?_⟩
        have hd1' : TpAll A2 ys1 ((restP pls l (i + 1)).map itD) := TpAll.mono e2.grow hd1
        cases o with
        | true =>
          rw [if_pos rfl]
          refine ⟨_, hr2', _, hr1', sz_of (by omega), fun p hp => ⟨acc, by rw [upd_ne (ne_of_none eF2 hp)]; exact eF2, sz_lt (by omega), ?_⟩⟩
          obtain ⟨B1, acc', f1, f2, f3, f4⟩ := fin p (ys2 ++ ys1) hp (by
            show TpAll A2 (ys2 ++ ys1) ((comesP pls l (i + 1) ++ restP pls l (i + 1)).map itD)
            rw [List.map_append]
            exact TpAll.app hd2' hd1')
          exact ⟨B1, f1, f2, acc', f3, f4⟩
        | false =>
          rw [if_neg (fun z => absurd (V.str.inj z) (by decide))]
          refine ⟨_, hr1', _, hr2', sz_of (by omega), fun p hp => ⟨acc, by rw [upd_ne (ne_of_none eF2 hp)]; exact eF2, sz_lt (by omega), ?_⟩⟩
          obtain ⟨B1, acc', f1, f2, f3, f4⟩ := fin p (ys1 ++ ys2) hp (by
            show TpAll A2 (ys1 ++ ys2) ((restP pls l (i + 1) ++ comesP pls l (i + 1)).map itD)
            rw [List.map_append]
            exact TpAll.app hd1' hd2')
          exact ⟨B1, f1, f2, acc', f3, f4⟩
      · rintro σ H' ⟨x4, x5, x6, A', acc, rfl, e, nF, eF, da⟩
        refine ⟨_, rfl, F, acc, rfl, SqL.of eF, fun p hp => ?_⟩
        have eP := e.alloc (.lst acc.reverse) hp
        refine q _ _ _ eP (.lst upd_same ?_)
        have hn : ((if (xs.length : Int) - (l : Int) > (l : Int) then (xs.length : Int) - (l : Int) else (l : Int)) + 1 - 1).toNat = widP pls l := by
          unfold widP
          rw [hxl]
          split <;> split <;> omega
        rw [hn] at da
        have em : (foldP pls o l).map pileD = ((foundP pls o l (widP pls l)).map pileD).reverse := by
          unfold foldP; rw [List.map_reverse]
        show TpAll _ _ ((foldP pls o ((l : Int)).toNat).map pileD)
        rw [Int.toNat_natCast, em]
        exact TpAll.mono (same_new (e.sub.free hp)) (TpAll.rev da)
end
end Fv

namespace Fv
open PySem PySem.Spec PyProof.Rows L2
local macro_rules | `(tactic| walk_at "vc") => `(tactic| simp only [tRet, tRetN, tAndV, tOrV, tNotV, tAnd, tOr, tNot, tB, tTest, tOp, tUn, tCB, rTyp, tCons, tNil, tVar, tC, tChain, rI0, rI, rU, tSeq, tNext, tIfS, tIf, tAsg, gName, gCons, gNil, gTup, tDrop, tTup, tLst, tCall, tIsN, tNotN, tPar, tAug, tYes, rLenSq, rIsi, rReprD, L2.tSl, tPart, tNoPart, rSlL, rCat, rRep, gSub, tRevL, CPow, rEqD, rNeD, Int.reduceToNat, tBM, rAppend, wipe, StX.tStar, sDPut, tDGet, tDGet2, tDNewK, List.map_cons, List.map_nil, rEq, rNe, rIxT, rIxL, cxK, cxKn,
  List.getElem?_cons_zero, List.getElem?_cons_succ, List.set_cons_zero, List.set_cons_succ, List.append_nil, List.nil_append, List.cons_append, List.length_cons, List.length_nil, List.cons.injEq, Option.some.injEq, V.int.injEq, V.ty.injEq, V.bl.injEq, V.ref.injEq, V.str.injEq,
  and_true, true_and, and_assoc, exists_eq_left', exists_eq_left, exists_and_left, exists_eq', exists_eq, exists_eq_right, exists_eq_right', decide_eq_true_eq, Bool.not_eq_true', Bool.false_eq_true, if_true, if_false, reduceCtorEq, false_and, and_false, exists_false, decide_true, decide_false, Nat.zero_add, ite_true, ite_false, V.int.injEq, decide_eq_false_iff_not])

def pilesAt (n : Nat) (ds : List Deed) : List Pile := ds.foldl doneP (flatP n)
theorem piles_run : ∀ (ds : List Deed) (pls : List Pile) (st : Int × Ht) (B : Nat), hOf pls = st.2 → (pls.length : Int) = st.1 → 1 ≤ pls.length → okRow st ds → Low B pls →
    hOf (ds.foldl doneP pls) = (stAt st ds).2 ∧ ((ds.foldl doneP pls).length : Int) = (stAt st ds).1 ∧ 1 ≤ (ds.foldl doneP pls).length ∧ Low (2 ^ ds.length * B) (ds.foldl doneP pls)
  | [], pls, st, B, h1, h2, h3, _, h5 => ⟨h1, h2, h3, by rw [List.length_nil, Nat.pow_zero, Nat.one_mul]; exact h5⟩
  | d :: r, pls, st, B, h1, h2, h3, ⟨h4, h4'⟩, h5 => by
    have key : hOf (doneP pls d) = (stepS st d).2 ∧ ((doneP pls d).length : Int) = (stepS st d).1 ∧ Low (2 * B) (doneP pls d) := by
      cases d with
      | turn =>
        refine ⟨?_, ?_, low_turn h5⟩
        · show hOf (turnP pls) = foldH st.1 st.2 0
          rw [hOf_turn pls h3, h1, h2]
        · show ((turnP pls).length : Int) = foldW st.1 0
          rw [turnP_length, ← h2]; unfold foldW; rw [if_pos (by omega)]; omega
      | fold o c =>
        have hb : 1 ≤ c ∧ c ≤ st.1 - 1 := by
          have h6 : (decide (1 ≤ c) && decide (c ≤ st.1 - 1)) = true := h4
          simpa using h6
        obtain ⟨l, rfl⟩ : ∃ l : Nat, c = (l : Int) := ⟨c.toNat, by omega⟩
        refine ⟨?_, ?_, low_fold h5 o _⟩
        · show hOf (foldP pls o ((l : Int)).toNat) = foldH st.1 st.2 l
          rw [Int.toNat_natCast, hOf_fold pls o (by omega) (by omega), h1, h2]
        · show ((foldP pls o ((l : Int)).toNat).length : Int) = foldW st.1 l
          rw [Int.toNat_natCast, foldP_length, widP_eq pls (by omega), h2]
    have hpos : 1 ≤ (doneP pls d).length := by
      have h6 : 1 ≤ (stepS st d).1 := by show 1 ≤ foldW st.1 (lineD d); unfold foldW; have := okDeed_line (by omega) h4; split <;> omega
      omega
    have ih := piles_run r (doneP pls d) (stepS st d) (2 * B) key.1 key.2.1 hpos h4' key.2.2
    refine ⟨ih.1, ih.2.1, ih.2.2.1, ?_⟩
    have e : 2 ^ (d :: r).length * B = 2 ^ r.length * (2 * B) := by rw [List.length_cons, Nat.pow_succ, Nat.mul_assoc]
    rw [e]
    exact ih.2.2.2
theorem flatP_ok {n : Nat} (h : 1 ≤ n) : hOf (flatP n) = (st0 n).2 ∧ ((flatP n).length : Int) = (st0 n).1 ∧ 1 ≤ (flatP n).length ∧ Low 1 (flatP n) := by
  refine ⟨hOf_flat n, by unfold flatP; rw [List.length_map, List.length_range]; rfl, by unfold flatP; rw [List.length_map, List.length_range]; exact h, fun p hp => ?_⟩
  unfold flatP at hp
  obtain ⟨k, _, rfl⟩ := List.mem_map.mp hp
  exact Nat.le_refl _
theorem pilesAt_ok {n : Nat} {ds : List Deed} (h : 1 ≤ n) (ok : okRow (st0 n) ds) : hOf (pilesAt n ds) = (stAt (st0 n) ds).2 ∧ ((pilesAt n ds).length : Int) = (stAt (st0 n) ds).1 ∧ 1 ≤ (pilesAt n ds).length ∧ Low (2 ^ ds.length) (pilesAt n ds) := by
  obtain ⟨a, b, c, d⟩ := flatP_ok h
  have := piles_run ds (flatP n) (st0 n) 1 a b c ok d
  rw [Nat.mul_one] at this
  exact this
theorem okRow_take : ∀ (ds : List Deed) (st : Int × Ht) (i : Nat), okRow st ds → okRow st (ds.take i)
  | [], _, i, _ => by rw [List.take_nil]; trivial
  | d :: r, st, 0, _ => trivial
  | d :: r, st, i + 1, ⟨h1, h2⟩ => ⟨h1, okRow_take r (stepS st d) i h2⟩
theorem pilesAt_more {n : Nat} {ds : List Deed} {i : Nat} {d : Deed} (h : ds[i]? = some d) : pilesAt n (ds.take (i + 1)) = doneP (pilesAt n (ds.take i)) d := by
  unfold pilesAt
  rw [take_more h, List.foldl_append]; rfl
def statesD (n : Nat) (ds : List Deed) (k : Nat) : List PyData := (List.range (k + 1)).map fun i => pilesD (pilesAt n (ds.take i))
def sp__law_piles (K : PySem.W.Frag) : Sp := fun vs H Q _ => ∃ (n : Nat) (v : V) (ds : List Deed) (H0 : Hp), vs = [.int (n : Int), v] ∧ Same H0 H ∧ Tp H0 v (.list (ds.map dD)) ∧ 1 ≤ n ∧ n ≤ 1000 ∧ ds.length ≤ 12 ∧ okRow (st0 n) ds ∧
  ∀ (H0' H' : Hp) (v' : V), Ext H0 H H0' H' → Tp H0' v' (.list (statesD n ds ds.length)) → Q v' H'
section
variable {P : Program} {w : World} {K : PySem.W.Frag} {mg : Str → Option Value} {base : Heap}
theorem good__law_piles (D : DefAt K mg "_law_piles" D__law_piles.st D__law_piles.ps) (T : Bi mg)
    (h__law_done : Good P w K mg base 2 "_law_done" D__law_done.ps (sp__law_done K)) : Good P w K mg base 3 "_law_piles" D__law_piles.ps (sp__law_piles K) := by
  refine Good.of (N := D__law_piles.N) D D__law_piles.sc (fun vs H Q E h => ?_) (fun f cdv A outer s H vs Q E hr h => ?_)
  · obtain ⟨n, v, ds, H0, rfl, _⟩ := h; rfl
  · obtain ⟨n, v, ds, H0, rfl, sH, hd, hn1, hn2, hl, hok, q⟩ := h
    obtain ⟨a, xs, rfl, hS, hA⟩ := Tp.inv_lst hd
    have hxl : xs.length = ds.length := by rw [TpAll.length hA, List.length_map]
    obtain ⟨f__law_done, fd__law_done, m__law_done, k__law_done, b__law_done, G__law_done⟩ := h__law_done
    have nd := D__law_piles.sc.nd; have hu := hu_of hr; refine ⟨_, (pss_cons (ps_set (i := 2) nd rfl (Or.inl rfl) (pe_lst (pa_cons (pe_lc (own := [("place", 4)]) (g := (gName 4)) (tt := tYes) (te := (tLst (tCons (tTup (tCons (tVar 4) (tCons (tC (.bl true)) tNil))) tNil))) (by rfl) nd (pi_range1 (by rfl) T.n_range (pa_cons (pv 0) pa_nil)) (blkOk_by (own := [("place", 4)]) (N := D__law_piles.N) (sc := defScope D__law_piles.st) (by decide +kernel)) (fun _ _ _ _ _ => (pg_name (i := 4) nd rfl (Or.inl rfl))) (fun _ _ _ _ _ => pts_nil) (fun _ _ _ _ _ => (pe_lst (pa_cons (pe_tup (pa_cons (pv 4) (pa_cons pe_bl pa_nil))) pa_nil)))) pa_nil)))       (pss_cons (ps_for PassesOwn.never (by rfl) (pi_list (pv 1)) (pg_name (i := 3) nd rfl (Or.inl rfl)) (pss_one (ps_expr (pe_bm PySem.F.plainAttrs_list PySem.F.slot_list_append PySem.F.type_list_append mt_append (pv 2) (pa_cons (pe_call G__law_done (hr.mono (by decide)) (by rfl) m__law_done k__law_done b__law_done .nil pass0 (pa_cons (pe_ix ix_list (pv 2) (pe_un un_neg pe_int) (fun _ _ => rfl)) (pa_cons (pv 3) pa_nil))) pa_nil)))))       (pss_one (ps_ret (pv 2))))), ?_⟩
    rw [show L2.start D__law_piles.N [.int (n : Int), .ref a] = [some (.int (n : Int)), some (.ref a), none, none, none] from rfl]
    walk_at "vc"
    refine lcR_t (keep := fun _ => true) (dat := fun (k : Nat) => pileD [((k : Int), true)]) ⟨_, rfl, n, H0, rfl, by omega, sH, fun i hi A1 H1 e1 Qy Qn hy hn => ?_, fun D2 A1 H1 ys nD e1 n0 eD da => ?_⟩ ?_
    · walk_at "vc"
      refine ⟨by decide, fun p hp => ⟨by decide, fun p2 hp2 => hy rfl _ _ _ (((Ext.refl e1.sub).alloc _ hp).alloc _ hp2) (.lst upd_same (TpAll.one (.tup (xs := [V.int (i : Int), V.bl true]) ?_ (.cons (.int _) (TpAll.one (.bl _))))))⟩⟩
      rw [upd_ne (fun z => by rw [← z, upd_same] at hp2; cases hp2), upd_same]
    · have eK := e1.keep nD n0 eD
      have em : (flatP n).map pileD = ((List.range n).filter fun _ => true).map fun (k : Nat) => pileD [((k : Int), true)] := by
        unfold flatP
        rw [List.map_map, filt]; rfl
      refine ⟨by decide, fun F hF => ?_⟩
      have eF := eK.make (.lst [V.ref D2]) hF
      have nHF : H F = none := eK.same.free hF
      refine ⟨_, rfl, a, rfl, ⟨_, SqL.of (eF.sub _ _ (eF.grow _ _ hS))⟩, for_list (K := K) (a := a) (xs := xs) (fun i σ H' => ∃ (x3 : Option V) (A' : Hp) (acc : List V),
        σ = [some (.int (n : Int)), some (.ref a), some (.ref F), x3, none] ∧ Ext H0 H A' H' ∧ A' F = none ∧ H' F = some (.lst acc) ∧ TpAll A' acc (statesD n ds i))
        ⟨none, _, [.ref D2], rfl, eF, eK.sub.free hF, upd_same, TpAll.one (.lst upd_same ?_)⟩ (fun i σ H' _ ⟨_, _, _, _, e, _⟩ => SqL.of (e.sub _ _ (e.grow _ _ hS))) ?_ ?_⟩
      · show TpAll _ _ ((flatP n).map pileD)
        rw [em]
        exact TpAll.mono (same_new n0) da
      · rintro i x σ H' hx ⟨x3, A', acc, rfl, e, nF, eF', da'⟩
        obtain ⟨dd, h1, h2⟩ := TpAll.at hA hx
        rw [List.getElem?_map] at h1
        obtain ⟨d, hdi, rfl⟩ := Option.map_eq_some_iff.mp h1
        have hi : i < ds.length := (List.getElem?_eq_some_iff.mp hdi).1
        have hP := pilesAt_ok hn1 (okRow_take ds (st0 n) i hok)
        have hal : acc.length = i + 1 := by
          rw [TpAll.length da']; unfold statesD; rw [List.length_map, List.length_range]
        obtain ⟨v0, hv0, dv0⟩ := TpAll.of da' (show (statesD n ds i)[i]? = some (pilesD (pilesAt n (ds.take i))) by
          unfold statesD; rw [List.getElem?_map, List.getElem?_range (by omega)]; rfl)
        have hok' := okRow_at ds (st0 n) hok hdi
        have hlow : Low 20000 (pilesAt n (ds.take i)) := fun p hp => by
          have h3 := hP.2.2.2 p hp
          have h4 : (ds.take i).length ≤ 12 := by rw [List.length_take]; omega
          have h5 : 2 ^ (ds.take i).length ≤ 2 ^ 12 := Nat.pow_le_pow_right (by decide) h4
          have h6 : (2 : Nat) ^ 12 = 4096 := by decide
          omega
        have hwn := stAt_w (ds.take i) (st0 n) (by show (1 : Int) ≤ n; omega) (okRow_take ds (st0 n) i hok)
        have hwn2 : (stAt (st0 n) (ds.take i)).1 ≤ (n : Int) := hwn.2
        walk_at "vc"
        refine ⟨.inl ⟨rfl, _, SqL.of eF'⟩, _, SqL.of eF', v0, atI_m1 (by rw [hal]; exact hv0), v0, x, _, d, A', rfl, e.sub, dv0, Tp.mono e.grow h2, hP.2.2.1, by rw [hP.2.1]; exact hok', by omega, hlow, fun A2 H2 v' e2 dv' => ?_⟩
        have eF2 : H2 F = some (.lst acc) := e2.same _ _ eF'
        have nF2 : A2 F = none := e2.out (by rw [eF']; simp) nF
        refine ⟨acc, eF2, sz_lt (by omega), A2, (e.trans e2).mut _ nHF nF2, nF2, _, upd_same, ?_⟩
        have es : statesD n ds (i + 1) = statesD n ds i ++ [pilesD (doneP (pilesAt n (ds.take i)) d)] := by
          unfold statesD
          rw [List.range_succ, List.map_append, ← pilesAt_more hdi]; rfl
        rw [es]
        exact TpAll.app (TpAll.mono e2.grow da') (TpAll.one dv')
      · rintro σ H' ⟨x3, A', acc, rfl, e, nF, eF', da'⟩
        rw [hxl] at da'
        exact ⟨_, rfl, q _ _ _ (e.keep nHF nF eF') (.lst upd_same (TpAll.mono (same_new nF) da'))⟩
    · rintro Q1 Q2 hQ ⟨v, ev, k⟩
      exact ⟨v, ev, hQ _ _ k⟩
theorem good__law_reel (D : DefAt K mg "_law_reel" D__law_reel.st D__law_reel.ps) (T : Bi mg) : Good P w K mg base 1 "_law_reel" D__law_reel.ps (sp__law_reel K) := by
  refine Good.of (N := D__law_reel.N) D D__law_reel.sc (fun vs H Q E h => ?_) (fun f cdv A outer s H vs Q E hr h => ?_)
  · obtain ⟨a, ns, H0, rfl, _⟩ := h; rfl
  · obtain ⟨a, ns, H0, rfl, sH, hS, hl, q⟩ := h
    have nd := D__law_reel.sc.nd; have hu := hu_of hr; refine ⟨_, (pss_cons (ps_set (i := 1) nd rfl (Or.inl rfl) (pe_op op_pow pe_int pe_int))       (pss_cons (ps_for PassesOwn.never (by rfl) (pi_list (pe_slice sl_list (pv 0) po_none (po_some pe_int))) (pg_name (i := 2) nd rfl (Or.inl rfl)) (pss_one (ps_set (i := 1) nd rfl (Or.inl rfl) (pe_op op_mod (pe_op op_add (pe_op op_add (pe_op op_mulW (pv 1) (pv 1)) (pe_op op_mod (pv 2) pe_int)) pe_int) (pe_op op_sub (pe_op op_mul (pe_op op_pow pe_int pe_int) (pe_op op_pow pe_int pe_int)) pe_int)))))       (pss_cons (ps_setLc (i := 3) (own := [("cell", 2)]) (g := (gName 2)) (tt := (tTest (tOp (rI0 fun i j => .bl (decide (j ≤ i))) (tVar 2) (tOp (rI CPow fun i j => .int (i ^ j.toNat)) (tC (.int 10)) (tC (.int 18)))))) (te := (tOp (rI0 fun i j => .int (i - j)) (tVar 2) (tOp (rI CPow fun i j => .int (i ^ j.toNat)) (tC (.int 10)) (tC (.int 18))))) (by rfl) nd rfl rfl (sw_true rfl rfl rfl (by decide +kernel)) (pi_list (pe_slice sl_list (pv 0) po_none (po_some pe_int))) (blkOk_by (own := [("cell", 2)]) (N := D__law_reel.N) (sc := defScope D__law_reel.st) (by decide +kernel)) (fun _ _ _ _ _ => (pg_name (i := 2) nd rfl (Or.inl rfl))) (fun _ _ _ _ _ => (pts_one (pt_cmpR op_ge (pv 2) (pe_op op_pow pe_int pe_int) (nomark _)))) (fun _ _ _ _ _ => (pe_op op_sub (pv 2) (pe_op op_pow pe_int pe_int))))       (pss_one (ps_ret (pe_lst (pa_cons (pv 3) (pa_cons (pe_op op_cat (pe_lc (own := [("cell", 2)]) (g := (gName 2)) (tt := tYes) (te := (tOp (rI (fun _ j => 0 < j) fun i j => .int (i % j)) (tVar 2) (tC (.int 1000003)))) (by rfl) nd (pi_list (pe_slice sl_list (pv 0) po_none (po_some pe_int))) (blkOk_by (own := [("cell", 2)]) (N := D__law_reel.N) (sc := defScope D__law_reel.st) (by decide +kernel)) (fun _ _ _ _ _ => (pg_name (i := 2) nd rfl (Or.inl rfl))) (fun _ _ _ _ _ => pts_nil) (fun _ _ _ _ _ => (pe_op op_mod (pv 2) pe_int))) (pe_lst (pa_cons pe_int pa_nil))) (pa_cons pe_int (pa_cons (pv 1) pa_nil)))))))))), ?_⟩
    rw [show L2.start D__law_reel.N [.ref a] = [some (.ref a), none, none, none] from rfl]
    walk_at "vc"
    have hcut : cutV (ns.map V.int) none (some 63) = (ns.take 63).map V.int := by
      rw [show cutV (ns.map V.int) none (some 63) = (ns.map V.int).take 63 from cut_to _ 63, List.map_take]
    have htl : (ns.take 63).length ≤ 63 := by rw [List.length_take]; exact Nat.min_le_left _ _
    have h10 : CPow 10 18 := ⟨by decide, by decide, by decide⟩
    have hM : (2 : Int) ^ 64 * 2 ^ 63 - 1 = 170141183460469231731687303715884105727 := by decide
    refine ⟨by decide, by decide, by decide, _, rfl, 63, rfl, a, _, rfl, sH.seq hS, fun p hp => ?_⟩
    rw [hcut]
    have e1 := (Ext.refl sH).alloc (.lst ((ns.take 63).map V.int)) hp
    refine ⟨p, rfl, ⟨_, SqL.of upd_same⟩, for_list (K := K) (a := p) (xs := (ns.take 63).map V.int) (fun i σ H' => ∃ (x2 : Option V) (st : Int), σ = [some (.ref a), some (.int st), x2, none] ∧ 0 ≤ st ∧ st < 2 ^ 127 ∧ H' = upd H p (.lst ((ns.take 63).map V.int)))
      ⟨none, 3 ^ 60, rfl, by decide, by decide, rfl⟩ (fun i σ H' _ ⟨_, _, _, _, _, e⟩ => by rw [e]; exact SqL.of upd_same) ?_ ?_⟩
    · rintro i x σ H' hx ⟨x2, st, rfl, h0, h1, rfl⟩
      rw [List.getElem?_map] at hx
      obtain ⟨z, hz, rfl⟩ := Option.map_eq_some_iff.mp hx
      walk_at "vc"
      have hst : CMulW st st := wide_mul (a := 127) (b := 127) (by omega) (by omega) (by decide) (by decide) (by decide)
      refine ⟨hst, by decide, by decide, by decide, by decide, by decide, by decide, by decide, .inr ⟨by decide, by decide⟩, by decide, ?_⟩
      rw [hM]
      exact ⟨Int.emod_nonneg _ (by decide), Int.lt_trans (Int.emod_lt_of_pos _ (by decide)) (by decide)⟩
    · rintro σ H' ⟨x2, st, rfl, h0, h1, rfl⟩
      walk_at "vc"
      refine lcL_t (K := K) (α := Int) (fun z => decide (10 ^ 18 ≤ z)) (fun z => .int (z - 10 ^ 18)) ⟨_, rfl, 63, rfl, a, _, rfl, e1.same.seq (sH.seq hS), fun p2 hp2 => ?_⟩ ?_
      · rw [hcut]
        have e2 := e1.alloc (.lst ((ns.take 63).map V.int)) hp2
        refine ⟨ns.take 63, p2, _, _, rfl, SqL.of upd_same, e2.sub, by rw [List.length_map], by omega, fun i x z hx hz A1 H1 e3 Qy Qn hy hn => ?_, fun D2 A1 H1 ys nD e3 n0 eD da => ?_⟩
        · rw [List.getElem?_map, hz] at hx
          obtain rfl := (Option.some.inj hx).symm
          walk_at "vc"
          refine ⟨by decide, by decide, by decide, ?_⟩
          by_cases hz' : 10 ^ 18 ≤ z
          · rw [if_pos hz']
            exact ⟨by decide, by decide, by decide, hy (decide_eq_true hz') _ _ _ (Ext.refl e3.sub) (.int _)⟩
          · rw [if_neg hz']
            exact hn (decide_eq_false hz') _ _ (Ext.refl e3.sub)
        · have eD2 := (e2.trans e3).keep (e2.same.free nD) n0 eD
          have hgs := TpAll.ints_inv (ns := ((ns.take 63).filter fun z => decide (10 ^ 18 ≤ z)).map fun z => z - 10 ^ 18) (by rw [List.map_map]; exact da)
          have hgl : (((ns.take 63).filter fun z => decide (10 ^ 18 ≤ z)).map fun z => z - 10 ^ 18).length ≤ 63 := by
            rw [List.length_map]; exact Nat.le_trans (List.length_filter_le _ _) htl
          generalize ((ns.take 63).filter fun z => decide (10 ^ 18 ≤ z)).map (fun z => z - 10 ^ 18) = gs at hgs hgl
          subst hgs
          refine lcL_t (K := K) (α := Int) (fun _ => true) (fun z => .int (z % 1000003)) ⟨_, rfl, 63, rfl, a, _, rfl, eD2.same.seq (sH.seq hS), fun p3 hp3 => ?_⟩ ?_
          · rw [hcut]
            have e5 := eD2.alloc (.lst ((ns.take 63).map V.int)) hp3
            refine ⟨ns.take 63, p3, _, _, rfl, SqL.of upd_same, e5.sub, by rw [List.length_map], by omega, fun i x z hx hz A2 H2 e6 Qy Qn hy hn => ?_, fun D4 A2 H2 ys2 nD4 e6 n04 eD4 da4 => ?_⟩
            · rw [List.getElem?_map, hz] at hx
              obtain rfl := (Option.some.inj hx).symm
              walk_at "vc"
              exact ⟨by decide, hy rfl _ _ _ (Ext.refl e6.sub) (.int _)⟩
            · have hts := TpAll.ints_inv (ns := ((ns.take 63).filter fun _ => true).map fun z => z % 1000003) (by rw [List.map_map]; exact da4)
              have htl2 : (((ns.take 63).filter fun _ => true).map fun z => z % 1000003).length ≤ 63 := by
                rw [List.length_map]; exact Nat.le_trans (List.length_filter_le _ _) htl
              generalize ((ns.take 63).filter fun _ => true).map (fun z => z % 1000003) = ts at hts htl2
              subst hts
              refine ⟨by decide, fun p5 hp5 => ⟨D4, rfl, _, by rw [upd_ne (ne_of_none eD4 hp5)]; exact eD4, _, upd_same, sz_of (by rw [List.length_map]; show ts.length + 1 ≤ 100000; omega), fun p6 hp6 => ⟨by decide, fun r hr => ?_⟩⟩⟩
              have hcat : ts.map V.int ++ [V.int 41] = (ts ++ [41]).map V.int := by rw [List.map_append]; rfl
              rw [hcat] at hr ⊢
              have e56 := e5.trans e6
              have e7 := e56.make (.lst [V.int 41]) hp5
              have e8 := e7.alloc (.lst ((ts ++ [41]).map V.int)) hp6
              have e9 := e8.make (.lst [V.ref D2, V.ref p6, V.int 0, V.int st]) hr
              have hD2 : A2 D2 = some (.lst (gs.map V.int)) := e6.grow _ _ (same_new (eD2.sub.free hp3) _ _ upd_same)
              exact q _ _ r e9 (e8.same.free hr) ⟨e9.sub, e8.sub.free hr, D2, p6, gs, ts ++ [41], 0, st, upd_same, same_new (e7.sub.free hp6) _ _ hD2, upd_same, hgl, by rw [List.length_append]; exact Nat.succ_pos _, by rw [List.length_append]; show ts.length + 1 ≤ 64; omega, Int.le_refl 0, h0, h1⟩
          · rintro Q1 Q2 hQ ⟨v, ev, i, ei, a', xs', e1', h1', k⟩
            exact ⟨v, ev, i, ei, a', xs', e1', h1', fun p hp => hQ _ _ (k p hp)⟩
      · rintro Q1 Q2 hQ ⟨v, ev, i, ei, a', xs', e1', h1', k⟩
        exact ⟨v, ev, i, ei, a', xs', e1', h1', fun p hp => hQ _ _ (k p hp)⟩
end
end Fv

namespace Fv
open PySem PySem.Spec PyProof.Rows L2
local macro_rules | `(tactic| walk_at "vc") => `(tactic| simp only [tRet, tRetN, tAndV, tOrV, tNotV, tAnd, tOr, tNot, tB, tTest, tOp, tUn, tCB, rTyp, tCons, tNil, tVar, tC, tChain, rI0, rI, rU, tSeq, tNext, tIfS, tIf, tAsg, gName, gCons, gNil, gTup, tDrop, tTup, tLst, tCall, tIsN, tNotN, tPar, tAug, tYes, rLenSq, rIsi, rReprD, L2.tSl, tPart, tNoPart, rSlL, rCat, rRep, gSub, tRevL, CPow, rEqD, rNeD, Int.reduceToNat, tBM, rAppend, wipe, StX.tStar, sDPut, tDGet, tDGet2, tDNewK, List.map_cons, List.map_nil, rEq, rNe, rIxT, rIxL, cxK, cxKn,
  List.getElem?_cons_zero, List.getElem?_cons_succ, List.set_cons_zero, List.set_cons_succ, List.append_nil, List.nil_append, List.cons_append, List.length_cons, List.length_nil, List.cons.injEq, Option.some.injEq, V.int.injEq, V.ty.injEq, V.bl.injEq, V.ref.injEq, V.str.injEq,
  and_true, true_and, and_assoc, exists_eq_left', exists_eq_left, exists_and_left, exists_eq', exists_eq, exists_eq_right, exists_eq_right', decide_eq_true_eq, Bool.not_eq_true', Bool.false_eq_true, if_true, if_false, reduceCtorEq, false_and, and_false, exists_false, decide_true, decide_false, Nat.zero_add, ite_true, ite_false, V.int.injEq, decide_eq_false_iff_not])

/-! ### what is handed in, dressed as lists or tuples -/
def LcInvR {α : Type} (r : Addr) (H0 H1 : Hp) (D : Addr) (L : List α) (rel : α → PyData → Prop) (i : Nat) (Hc : Hp) : Prop :=
  ∃ (A' : Hp) (acc : List V) (es : List PyData), ExtR r H0 H1 A' Hc ∧ A' D = none ∧ Hc D = some (.lst acc) ∧ TpAll A' acc es ∧ es.length = i ∧ ∀ (j : Nat) (d : α) (e : PyData), L[j]? = some d → es[j]? = some e → rel d e
theorem lcTR {K : PySem.W.Frag} {α : Type} (rel : α → PyData → Prop) {r : Addr} (L : List α) {j : Nat} {g : TG} {te : TE} {vs : List Nat} {σ : L2.St} {H1 : Hp} {Q : VK} {a : Addr} {xs : List V} {H0 : Hp}
    (hv : σ[j]? = some (some (.ref a))) (hS : H0 a = some (.tup xs)) (hR : RIn r H0 H1) (hl : L.length = xs.length) (hlen : L.length < 100000)
    (ht : ∀ (i : Nat) (x : V) (d : α), xs[i]? = some x → L[i]? = some d → ∀ (A' Hc : Hp), ExtR r H0 H1 A' Hc → ∀ (Qy : VK) (Qn : Hp → Prop), (∀ y e A'' H4, ExtR r A' Hc A'' H4 → Tp A'' y e → rel d e → Qy y H4) →
      g x (wipe σ vs) Hc fun σ2 H2 => wipe σ2 vs = wipe σ vs ∧ tYes σ2 H2 fun b H3 => if b = true then te σ2 H3 Qy else Qn H3)
    (hq : ∀ (D : Addr) (A' H' : Hp) (acc : List V) (es : List PyData), H1 D = none → ExtR r H0 H1 A' H' → A' D = none → H' D = some (.lst acc) → TpAll A' acc es → es.length = L.length → (∀ (j : Nat) (d : α) (e : PyData), L[j]? = some d → es[j]? = some e → rel d e) → Q (.ref D) H') :
    tLc (iTup K (tVar j)) g tYes te vs σ H1 Q := by
  refine ⟨_, hv, a, rfl, ⟨_, SqT.of (hR.sub _ _ hS)⟩, fun D hD => ?_⟩
  have hDr : D ≠ r := hR.ne hD
  refine lc_tup (K := K) (a := a) (xs := xs) (LcInvR r H0 H1 D L rel) ⟨H0, [], [], (ExtR.refl hR).make _ hD, hR.sub.free hD, upd_same, .nil, rfl, fun j d e _ h => by simp at h⟩ (fun i Hc _ ⟨A', acc, es, e, _⟩ => SqT.of (e.sub _ _ (e.grow _ _ hS))) (fun i x Hc hx ⟨A', acc, es, e, n0, eD, da, hel, hrel⟩ => ?_) (fun H' ⟨A', acc, es, e, n0, eD, da, hel, hrel⟩ => ?_)
  · have hi : i < L.length := by rw [hl]; exact (List.getElem?_eq_some_iff.mp hx).1
    have hd : L[i]? = some L[i] := List.getElem?_eq_getElem hi
    have hal : acc.length = i := by rw [TpAll.length da, hel]
    refine ht i x _ hx hd A' Hc e _ _ fun y e' A'' H4 e2 dy hr => ?_
    have eD4 : H4 D = some (.lst acc) := e2.same D _ hDr eD
    have n04 : A'' D = none := e2.out (by rw [eD]; simp) n0
    refine ⟨acc, eD4, sz_lt (by omega), A'', _, es ++ [e'], (e.trans e2).mut _ hD n04 hDr, n04, upd_same, TpAll.app (TpAll.mono e2.grow da) (TpAll.one dy), by rw [List.length_append, hel]; rfl, fun k d1 e1 hk1 hk2 => ?_⟩
    by_cases hk : k < i
    · rw [List.getElem?_append_left (by omega)] at hk2
      exact hrel k d1 e1 hk1 hk2
    · have hk' : k < (es ++ [e']).length := (List.getElem?_eq_some_iff.mp hk2).1
      rw [List.length_append, hel] at hk'
      have hki : k = i := by have : [e'].length = 1 := rfl; omega
      subst hki
      rw [List.getElem?_append_right (by omega), hel, Nat.sub_self] at hk2
      have h1 : e' = e1 := Option.some.inj hk2
      have h2 : L[k] = d1 := Option.some.inj (hd.symm.trans hk1)
      rw [← h1, ← h2]
      exact hr
  · exact hq D A' H' acc es hD e n0 eD da (by rw [hel, hl]) hrel
def sp_dressed0 (K : PySem.W.Frag) : Sp := fun vs H Q _ => ∃ (r : Addr) (v : V) (d : PyData) (H0 : Hp), vs = [.ref r, v] ∧ RIn r H0 H ∧ Tp H0 v d ∧ isSeqD d = false ∧ Q v H
/-- a deed comes as a list or a tuple of the same things -/
def DeedAs (dd : Deed) (e : PyData) : Prop := ∃ es : List PyData, (e = .list es ∨ e = .tuple es) ∧ dD dd = .tuple es
def sp_dressed1 (K : PySem.W.Frag) : Sp := fun vs H Q _ => ∃ (r : Addr) (v : V) (dd : Deed) (H0 : Hp), vs = [.ref r, v] ∧ RIn r H0 H ∧ Tp H0 v (dD dd) ∧ ∀ (A' H' : Hp) (v' : V) (e : PyData), ExtR r H0 H A' H' → Tp A' v' e → DeedAs dd e → Q v' H'
/-- the row comes as a list of its own, which may still be changed, or as a tuple -/
def RowAs (r : Addr) (H A' H' : Hp) (v' : V) (es : List PyData) : Prop := ∃ (a : Addr) (xs : List V), v' = .ref a ∧ TpAll A' xs es ∧ ((H a = none ∧ A' a = none ∧ a ≠ r ∧ H' a = some (.lst xs)) ∨ A' a = some (.tup xs))
def sp_dressed2 (K : PySem.W.Frag) : Sp := fun vs H Q _ => ∃ (r : Addr) (v : V) (deeds : List Deed) (H0 : Hp), vs = [.ref r, v] ∧ RIn r H0 H ∧ Tp H0 v (.tuple (deeds.map dD)) ∧ deeds.length ≤ 40 ∧
  ∀ (A' H' : Hp) (v' : V) (es : List PyData), ExtR r H0 H A' H' → RowAs r H A' H' v' es → es.length = deeds.length → (∀ (j : Nat) (d : Deed) (e : PyData), deeds[j]? = some d → es[j]? = some e → DeedAs d e) → Q v' H'
abbrev sp__law_dressed (K : PySem.W.Frag) : Sp := sp_dressed0 K
theorem not_tup {d : PyData} (h : isSeqD d = false) : ¬ decide (tyD d = "tuple") = true := by
  cases d with
  | none => show ¬ decide ("NoneType" = "tuple") = true; decide
  | bool b => show ¬ decide ("bool" = "tuple") = true; decide
  | int b => show ¬ decide ("int" = "tuple") = true; decide
  | str b => show ¬ decide ("str" = "tuple") = true; decide
  | list b => cases h
  | tuple b => cases h
  | dict b => show ¬ decide ("dict" = "tuple") = true; decide
theorem is_tup (es : List PyData) : decide (tyD (.tuple es) = "tuple") = true := by show decide ("tuple" = "tuple") = true; decide
theorem dD_tup (dd : Deed) : ∃ es, dD dd = .tuple es ∧ es.length ≤ 2 ∧ ∀ e ∈ es, isSeqD e = false := by
  cases dd with
  | turn => exact ⟨_, rfl, by decide, fun e he => by
      rcases List.mem_cons.mp he with rfl | he
      · rfl
      · cases he⟩
  | fold o c => exact ⟨_, rfl, Nat.le_refl 2, fun e he => by
      rcases List.mem_cons.mp he with rfl | he
      · rfl
      · rcases List.mem_cons.mp he with rfl | he
        · rfl
        · cases he⟩
theorem eq_of_rel {α : Type} {L es : List α} (hl : es.length = L.length) (h : ∀ (j : Nat) (d e : α), L[j]? = some d → es[j]? = some e → e = d) : es = L := by
  refine List.ext_getElem hl fun i h1 h2 => ?_
  exact h i _ _ (List.getElem?_eq_getElem h2) (List.getElem?_eq_getElem h1)
section
variable {P : Program} {w : World} {K : PySem.W.Frag} {mg : Str → Option Value} {base : Heap}
theorem good_dressed0 (D : DefAt K mg "_law_dressed" D__law_dressed.st D__law_dressed.ps) (T : Bi mg) : Good P w K mg base 1 "_law_dressed" D__law_dressed.ps (sp_dressed0 K) := by
  refine Good.of (N := D__law_dressed.N) D D__law_dressed.sc (fun vs H Q E h => ?_) (fun f cdv A outer s H vs Q E hr h => ?_)
  · obtain ⟨r, v, d, H0, rfl, _⟩ := h; rfl
  · obtain ⟨r, v, d, H0, rfl, hR, hd, hn, q⟩ := h
    have nd := D__law_dressed.sc.nd; have hu := hu_of hr; refine ⟨_, (pss_cons (ps_if (pt_val (pe_callB call_isi (by rfl) T.n_isinstance (by decide +kernel) (pa_cons (pv 1) (pa_cons (pe_bltn (v := .ty "tuple") (u := .type "tuple") (by rfl) T.n_tuple (by decide +kernel) (by rfl)) pa_nil)))) (pss_cons ps_never       (pss_one ps_never)) pss_nil)       (pss_one (ps_ret (pv 1)))), ?_⟩
    rw [show L2.start D__law_dressed.N [.ref r, v] = [some (.ref r), some (v), none, none] from rfl]
    walk_at "vc"
    refine ⟨_, _, .ty _, Tp.isi (Tp.mono hR.sub hd), _, kit_tup d, ?_⟩
    rw [if_neg (not_tup hn)]
    exact q
theorem good_dressed1 (D : DefAt K mg "_law_dressed" D__law_dressed.st D__law_dressed.ps) (T : Bi mg) (h__law_draw : Good P w K mg base 1 "_law_draw" D__law_draw.ps (sp__law_draw K))
    (h__law_dressed : Good P w K mg base 1 "_law_dressed" D__law_dressed.ps (sp_dressed0 K)) : Good P w K mg base 2 "_law_dressed" D__law_dressed.ps (sp_dressed1 K) := by
  refine Good.of (N := D__law_dressed.N) D D__law_dressed.sc (fun vs H Q E h => ?_) (fun f cdv A outer s H vs Q E hr h => ?_)
  · obtain ⟨r, v, dd, H0, rfl, _⟩ := h; rfl
  · obtain ⟨r, v, dd, H0, rfl, hR, hd, q⟩ := h
    obtain ⟨f__law_draw, fd__law_draw, m__law_draw, k__law_draw, b__law_draw, G__law_draw⟩ := h__law_draw; obtain ⟨f__law_dressed, fd__law_dressed, m__law_dressed, k__law_dressed, b__law_dressed, G__law_dressed⟩ := h__law_dressed
    have nd := D__law_dressed.sc.nd; have hu := hu_of hr; refine ⟨_, (pss_cons (ps_if (pt_val (pe_callB call_isi (by rfl) T.n_isinstance (by decide +kernel) (pa_cons (pv 1) (pa_cons (pe_bltn (v := .ty "tuple") (u := .type "tuple") (by rfl) T.n_tuple (by decide +kernel) (by rfl)) pa_nil)))) (pss_cons (ps_setLc (i := 2) (own := [("one", 3)]) (g := (gName 3)) (tt := tYes) (te := (tCall (sp__law_dressed K) [] E0 (tCons (tVar 0) (tCons (tVar 3) tNil)))) (by rfl) nd rfl rfl (sw_true rfl rfl rfl (by decide +kernel)) (pi_tup (pv 1)) (blkOk_by (own := [("one", 3)]) (N := D__law_dressed.N) (sc := defScope D__law_dressed.st) (by decide +kernel)) (fun _ _ _ _ _ => (pg_name (i := 3) nd rfl (Or.inl rfl))) (fun _ _ _ _ _ => pts_nil) (fun _ _ _ _ _ => (pe_call G__law_dressed (hr.mono (by decide)) (by rfl) m__law_dressed k__law_dressed b__law_dressed .nil pass0 (pa_cons (pv 0) (pa_cons (pv 3) pa_nil)))))       (pss_one (ps_ret (pe_ifExp (pt_cmpR op_eq (pe_call G__law_draw (hr.mono (by decide)) (by rfl) m__law_draw k__law_draw b__law_draw .nil pass0 (pa_cons (pv 0) (pa_cons pe_int pa_nil))) pe_int (nomark _)) (pv 2) (pe_callTy call_tuple_of (by rfl) T.n_tuple (by decide +kernel) (pa_cons (pv 2) pa_nil)))))) pss_nil)       (pss_one (ps_ret (pv 1)))), ?_⟩
    rw [show L2.start D__law_dressed.N [.ref r, v] = [some (.ref r), some (v), none, none] from rfl]
    walk_at "vc"
    obtain ⟨es, hes, hel, hens⟩ := dD_tup dd
    rw [hes] at hd
    obtain ⟨a, xs, rfl, hS, hA⟩ := Tp.inv_tup hd
    refine ⟨_, _, .ty _, Tp.isi (Tp.mono hR.sub hd), _, kit_tup _, ?_⟩
    rw [if_pos (is_tup _)]
    refine lcTR (fun d e => e = d) es rfl hS hR (TpAll.length hA).symm (by omega) (fun i x d hx hd' A' Hc e Qy Qn hy => ?_) (fun F A' H' acc es' nF e n0 eF da hl' hrel => ?_)
    · obtain ⟨d2, h1, h2⟩ := TpAll.at hA hx
      obtain rfl := Option.some.inj (h1.symm.trans hd')
      walk_at "vc"
      exact ⟨r, x, d2, A', rfl, e.fin, Tp.mono e.grow h2, hens _ (List.mem_of_getElem? hd'), hy x d2 A' Hc (ExtR.refl e.fin) (Tp.mono e.grow h2) rfl⟩
    · obtain rfl := eq_of_rel hl' hrel
      have hFr : F ≠ r := hR.ne nF
      refine ⟨r, 2, A', rfl, e.fin, by decide, by decide, fun A2 H2 v2 e2 v0 v1 => ⟨rfl, ?_⟩⟩
      have eF2 : H2 F = some (.lst acc) := e2.same F _ hFr eF
      have nF2 : A2 F = none := e2.out (by rw [eF]; simp) n0
      by_cases hz : V.int v2 = V.int 0
      · rw [if_pos hz]
        exact q _ _ _ (.list es') ((e.trans e2).keep nF nF2 hFr eF2) (.lst upd_same (TpAll.mono (e2.grow.trans (same_new nF2)) da)) ⟨es', .inl rfl, hes⟩
      · rw [if_neg hz]
        refine ⟨F, rfl, acc, .inl ⟨SqL.of eF2, fun l hl => ?_⟩⟩
        have eL := (e.trans e2).alloc (.tup acc) hl
        exact q _ _ _ (.tuple es') eL (.tup upd_same (TpAll.mono (e2.grow.trans (same_new ((e.trans e2).sub.free hl))) da)) ⟨es', .inr rfl, hes⟩
theorem good_dressed2 (D : DefAt K mg "_law_dressed" D__law_dressed.st D__law_dressed.ps) (T : Bi mg) (h__law_draw : Good P w K mg base 1 "_law_draw" D__law_draw.ps (sp__law_draw K))
    (h__law_dressed : Good P w K mg base 2 "_law_dressed" D__law_dressed.ps (sp_dressed1 K)) : Good P w K mg base 3 "_law_dressed" D__law_dressed.ps (sp_dressed2 K) := by
  refine Good.of (N := D__law_dressed.N) D D__law_dressed.sc (fun vs H Q E h => ?_) (fun f cdv A outer s H vs Q E hr h => ?_)
  · obtain ⟨r, v, deeds, H0, rfl, _⟩ := h; rfl
  · obtain ⟨r, v, deeds, H0, rfl, hR, hd, hlen, q⟩ := h
    obtain ⟨f__law_draw, fd__law_draw, m__law_draw, k__law_draw, b__law_draw, G__law_draw⟩ := h__law_draw; obtain ⟨f__law_dressed, fd__law_dressed, m__law_dressed, k__law_dressed, b__law_dressed, G__law_dressed⟩ := h__law_dressed
    have nd := D__law_dressed.sc.nd; have hu := hu_of hr; refine ⟨_, (pss_cons (ps_if (pt_val (pe_callB call_isi (by rfl) T.n_isinstance (by decide +kernel) (pa_cons (pv 1) (pa_cons (pe_bltn (v := .ty "tuple") (u := .type "tuple") (by rfl) T.n_tuple (by decide +kernel) (by rfl)) pa_nil)))) (pss_cons (ps_setLc (i := 2) (own := [("one", 3)]) (g := (gName 3)) (tt := tYes) (te := (tCall (sp_dressed1 K) [] E0 (tCons (tVar 0) (tCons (tVar 3) tNil)))) (by rfl) nd rfl rfl (sw_true rfl rfl rfl (by decide +kernel)) (pi_tup (pv 1)) (blkOk_by (own := [("one", 3)]) (N := D__law_dressed.N) (sc := defScope D__law_dressed.st) (by decide +kernel)) (fun _ _ _ _ _ => (pg_name (i := 3) nd rfl (Or.inl rfl))) (fun _ _ _ _ _ => pts_nil) (fun _ _ _ _ _ => (pe_call G__law_dressed (hr.mono (by decide)) (by rfl) m__law_dressed k__law_dressed b__law_dressed .nil pass0 (pa_cons (pv 0) (pa_cons (pv 3) pa_nil)))))       (pss_one (ps_ret (pe_ifExp (pt_cmpR op_eq (pe_call G__law_draw (hr.mono (by decide)) (by rfl) m__law_draw k__law_draw b__law_draw .nil pass0 (pa_cons (pv 0) (pa_cons pe_int pa_nil))) pe_int (nomark _)) (pv 2) (pe_callTy call_tuple_of (by rfl) T.n_tuple (by decide +kernel) (pa_cons (pv 2) pa_nil)))))) pss_nil)       (pss_one (ps_ret (pv 1)))), ?_⟩
    rw [show L2.start D__law_dressed.N [.ref r, v] = [some (.ref r), some (v), none, none] from rfl]
    walk_at "vc"
    obtain ⟨a, xs, rfl, hS, hA⟩ := Tp.inv_tup hd
    refine ⟨_, _, .ty _, Tp.isi (Tp.mono hR.sub hd), _, kit_tup _, ?_⟩
    rw [if_pos (is_tup _)]
    refine lcTR DeedAs deeds rfl hS hR (by rw [TpAll.length hA, List.length_map]) (by omega) (fun i x d hx hd' A' Hc e Qy Qn hy => ?_) (fun F A' H' acc es' nF e n0 eF da hl' hrel => ?_)
    · obtain ⟨d2, h1, h2⟩ := TpAll.at hA hx
      rw [List.getElem?_map, hd'] at h1
      obtain rfl := (Option.some.inj h1).symm
      walk_at "vc"
      exact ⟨r, x, d, A', rfl, e.fin, Tp.mono e.grow h2, fun A2 H2 v2 e2' ex ey ez => hy v2 e2' A2 H2 ex ey ez⟩
    · have hFr : F ≠ r := hR.ne nF
      refine ⟨r, 2, A', rfl, e.fin, by decide, by decide, fun A2 H2 v2 e2 v0 v1 => ⟨rfl, ?_⟩⟩
      have eF2 : H2 F = some (.lst acc) := e2.same F _ hFr eF
      have nF2 : A2 F = none := e2.out (by rw [eF]; simp) n0
      by_cases hz : V.int v2 = V.int 0
      · rw [if_pos hz]
        exact q _ _ _ es' (e.trans e2) ⟨F, acc, rfl, TpAll.mono e2.grow da, .inl ⟨nF, nF2, hFr, eF2⟩⟩ hl' hrel
      · rw [if_neg hz]
        refine ⟨F, rfl, acc, .inl ⟨SqL.of eF2, fun l hl => ?_⟩⟩
        have eL := (e.trans e2).alloc (.tup acc) hl
        exact q _ _ _ es' eL ⟨l, acc, rfl, TpAll.mono (e2.grow.trans (same_new ((e.trans e2).sub.free hl))) da, .inr upd_same⟩ hl' hrel
end
end Fv

namespace Fv
open PySem PySem.Spec PyProof.Rows L2
/-! ### data whose text is short -/
structure ShD (D W : Nat) (d : PyData) : Prop where
  short : d.leavesShort 13 = true
  shows : d.showable = true
  nodict : d.hasDict = false
  deep : d.depth ≤ D
  size : d.weight ≤ W
theorem shD_int {i : Int} (h : i.natAbs < 10 ^ 12) : ShD 0 50 (.int i) := by
  have h1 : (PyData.shown (.int i)).length ≤ 13 := by
    have := int_text_length_le10 (a := i) (k := 12) (by decide) h
    show (Str.ofString (toString i)).length ≤ 13
    rw [PySem.ofString_length]; exact this
  have h2 : i.natAbs.log2 ≤ 40 := by
    by_cases h0 : i.natAbs = 0
    · rw [h0]; decide
    · have := (Nat.log2_lt h0 (k := 41)).mpr (by have : (10 : Nat) ^ 12 < 2 ^ 41 := by decide
                                                 omega)
      omega
  refine ⟨?_, ?_, rfl, by simp [PyData.depth], by simp only [PyData.weight]; split <;> omega⟩
  · show decide ((PyData.shown (.int i)).length ≤ 13) = true
    exact decide_eq_true h1
  · show decide (i.natAbs.log2 < 1920) = true
    exact decide_eq_true (by omega)
theorem shD_str {x : Str} (h : (x.cps.toList.all fun c => decide (c < 16 ^ 8)) = true) (hl : x.length ≤ 100) : ShD 0 200 (.str x) := by
  refine ⟨h, rfl, rfl, by simp [PyData.depth], ?_⟩
  have e : x.length = x.cps.size := rfl
  simp only [PyData.weight]
  omega
theorem shD_mono {D D' W W' : Nat} {d : PyData} (h : ShD D W d) (hD : D ≤ D') (hW : W ≤ W') : ShD D' W' d := ⟨h.short, h.shows, h.nodict, Nat.le_trans h.deep hD, Nat.le_trans h.size hW⟩
theorem shD_all {D W : Nat} : ∀ {es : List PyData}, (∀ e ∈ es, ShD D W e) → PyData.leavesShortAll 13 es = true ∧ PyData.showableAll es = true ∧ PyData.hasDictAll es = false ∧ PyData.depthAll es ≤ D + 1 ∧ PyData.weightAll es ≤ (W + 1) * es.length
  | [], _ => ⟨rfl, rfl, rfl, by simp [PyData.depthAll], by simp [PyData.weightAll]⟩
  | e :: r, h => by
    obtain ⟨a, b, c, d, f⟩ := shD_all (es := r) fun x hx => h x (List.mem_cons_of_mem _ hx)
    have g := h e List.mem_cons_self
    refine ⟨?_, ?_, ?_, ?_, ?_⟩
    · show (PyData.leavesShort 13 e && PyData.leavesShortAll 13 r) = true
      rw [g.short, a]; rfl
    · show (PyData.showable e && PyData.showableAll r) = true
      rw [g.shows, b]; rfl
    · show (PyData.hasDict e || PyData.hasDictAll r) = false
      rw [g.nodict, c]; rfl
    · have := g.deep
      simp only [PyData.depthAll]
      omega
    · have := g.size
      simp only [PyData.weightAll, List.length_cons, Nat.mul_add, Nat.mul_one]
      omega
theorem shD_list {D W : Nat} {es : List PyData} (h : ∀ e ∈ es, ShD D W e) : ShD (D + 2) ((W + 1) * es.length + 5) (.list es) := by
  obtain ⟨a, b, c, d, f⟩ := shD_all h
  exact ⟨a, b, c, by simp only [PyData.depth]; omega, by simp only [PyData.weight]; omega⟩
theorem shD_tuple {D W : Nat} {es : List PyData} (h : ∀ e ∈ es, ShD D W e) : ShD (D + 2) ((W + 1) * es.length + 5) (.tuple es) := by
  obtain ⟨a, b, c, d, f⟩ := shD_all h
  exact ⟨a, b, c, by simp only [PyData.depth]; omega, by simp only [PyData.weight]; omega⟩
theorem ShD.fits {D W : Nat} {d : PyData} (h : ShD D W d) (hW : W ≤ 2 ^ 20) : d.shown.length ≤ sizeLine := PyData.shown_fits (B := 13) (by decide) (by decide) h.short (Nat.le_trans h.size hW)
theorem shD_ints {ns : List Int} (h : ∀ n ∈ ns, n.natAbs < 10 ^ 12) : ShD 2 (51 * ns.length + 5) (.list (ns.map PyData.int)) := by
  have := shD_list (D := 0) (W := 50) (es := ns.map PyData.int) fun e he => by
    obtain ⟨n, hn, rfl⟩ := List.mem_map.mp he
    exact shD_int (h n hn)
  rw [List.length_map] at this
  exact this
theorem shD_deed {w : Int} {d : Deed} {e : PyData} (hw : w ≤ 10 ^ 11) (ok : okDeed w (some d) = true) (h : DeedAs d e) : ShD 2 500 e := by
  obtain ⟨es, he, hd⟩ := h
  have key : ∀ x ∈ es, ShD 0 200 x := by
    cases d with
    | turn =>
      obtain rfl : [PyData.str "turn"] = es := by injection hd
      intro x hx
      rcases List.mem_cons.mp hx with rfl | hx
      · exact shD_str (by decide +kernel) (by decide +kernel)
      · cases hx
    | fold o c =>
      have hb : 1 ≤ c ∧ c ≤ w - 1 := by
        have h1 : (decide (1 ≤ c) && decide (c ≤ w - 1)) = true := ok
        simpa using h1
      obtain rfl : [PyData.str (if o then "over" else "under"), PyData.int c] = es := by injection hd
      intro x hx
      rcases List.mem_cons.mp hx with rfl | hx
      · cases o
        · exact shD_str (by decide +kernel) (by decide +kernel)
        · exact shD_str (by decide +kernel) (by decide +kernel)
      · rcases List.mem_cons.mp hx with rfl | hx
        · exact shD_mono (shD_int (by omega)) (by decide) (by decide)
        · cases hx
  have hl : es.length ≤ 2 := by
    cases d with
    | turn => obtain rfl : [PyData.str "turn"] = es := by injection hd
              decide
    | fold o c => obtain rfl : [PyData.str (if o then "over" else "under"), PyData.int c] = es := by injection hd
                  exact Nat.le_refl 2
  rcases he with rfl | rfl
  · exact shD_mono (shD_list key) (by decide) (by omega)
  · exact shD_mono (shD_tuple key) (by decide) (by omega)
theorem seqOf_deedAs {d : Deed} {e : PyData} (h : DeedAs d e) : deedOf e = some d := by
  obtain ⟨es, he, hd⟩ := h
  have h1 := deedOf_dD d
  rw [hd] at h1
  rcases he with rfl | rfl
  · exact h1
  · exact h1
theorem eqvAll_ints : ∀ ns : List Int, PyData.eqvAll (ns.map PyData.int) (ns.map PyData.int) = true
  | [] => rfl
  | n :: r => by
    show ((n == n) && PyData.eqvAll (r.map PyData.int) (r.map PyData.int)) = true
    rw [eqvAll_ints r]; simp
theorem eqv_ints (ns : List Int) : PyData.eqv (.list (ns.map PyData.int)) (.list (ns.map PyData.int)) = true := eqvAll_ints ns
theorem RIn.mono {r : Addr} {A H H' : Hp} (a : RIn r A H) (e : Same H H') : RIn r A H' := by
  obtain ⟨g, t, gs, ts, k, s, h1, h2, h3, h4⟩ := a.ex
  exact ⟨a.sub.trans e, a.out, g, t, gs, ts, k, s, e _ _ h1, h2, h3, h4⟩
theorem RIn.mut {r : Addr} {A H : Hp} (a : RIn r A H) {p : Addr} (o : HO) (n : p ≠ r) (h : A p = none) : RIn r A (upd H p o) := by
  obtain ⟨g, t, gs, ts, k, s, h1, h2, h3, h4⟩ := a.ex
  exact ⟨fun b x e => by rw [upd_ne (ne_of_none e h)]; exact a.sub b x e, a.out, g, t, gs, ts, k, s, by rw [upd_ne (Ne.symm n)]; exact h1, h2, h3, h4⟩
end Fv

namespace Fv
open PySem PySem.Spec PyProof.Rows L2
local macro_rules | `(tactic| walk_at "vc") => `(tactic| simp only [tRet, tRetN, tAndV, tOrV, tNotV, tAnd, tOr, tNot, tB, tTest, tOp, tUn, tCB, rTyp, tCons, tNil, tVar, tC, tChain, rI0, rI, rU, tSeq, tNext, tIfS, tIf, tAsg, gName, gCons, gNil, gTup, tDrop, tTup, tLst, tCall, tIsN, tNotN, tPar, tAug, tYes, rLenSq, rIsi, rReprD, L2.tSl, tPart, tNoPart, rSlL, rCat, rRep, gSub, tRevL, CPow, rEqD, rNeD, Int.reduceToNat, tBM, rAppend, wipe, StX.tStar, sDPut, tDGet, tDGet2, tDNewK, List.map_cons, List.map_nil, rEq, rNe, rIxT, rIxL, cxK, cxKn,
  List.getElem?_cons_zero, List.getElem?_cons_succ, List.set_cons_zero, List.set_cons_succ, List.append_nil, List.nil_append, List.cons_append, List.length_cons, List.length_nil, List.cons.injEq, Option.some.injEq, V.int.injEq, V.ty.injEq, V.bl.injEq, V.ref.injEq, V.str.injEq,
  and_true, true_and, and_assoc, exists_eq_left', exists_eq_left, exists_and_left, exists_eq', exists_eq, exists_eq_right, exists_eq_right', decide_eq_true_eq, Bool.not_eq_true', Bool.false_eq_true, if_true, if_false, reduceCtorEq, false_and, and_false, exists_false, decide_true, decide_false, Nat.zero_add, ite_true, ite_false, V.int.injEq, decide_eq_false_iff_not])

def dOver : Deed → Bool
  | .turn => true
  | .fold o _ => o
def foldDD (d : Deed) : PyData := .tuple [.int (lineD d), .bool (dOver d)]
def runD (r : Run) : PyData := .tuple [.int r.c, .int r.a, .int r.b, .bool r.t]
def spotD (r : Run) : PyData := .tuple [.int r.c, .int r.a, .int r.b, .str (if r.t = true then "down" else "up")]
def runTo (st : Int × Ht) (r : Run) : List Deed → Run
  | [] => r
  | d :: ds => runTo (stepS st d) (carryR st.1 st.2 (lineD d) (dOver d) r) ds
theorem runTo_app : ∀ (ds : List Deed) (st : Int × Ht) (r : Run) (d : Deed), runTo st r (ds ++ [d]) = carryR (stAt st ds).1 (stAt st ds).2 (lineD d) (dOver d) (runTo st r ds)
  | [], st, r, d => rfl
  | e :: ds, st, r, d => runTo_app ds (stepS st e) _ d
theorem runTo_more {st : Int × Ht} {r : Run} {ds : List Deed} {i : Nat} {d : Deed} (h : ds[i]? = some d) :
    runTo st r (ds.take (i + 1)) = carryR (stAt st (ds.take i)).1 (stAt st (ds.take i)).2 (lineD d) (dOver d) (runTo st r (ds.take i)) := by
  rw [take_more h, runTo_app]
theorem runD_inv {K : PySem.W.Frag} {H : Hp} {v : V} {r : Run} (h : Dp K H v (runD r)) : ∃ a, v = .ref a ∧ SqT K H a [.int r.c, .int r.a, .int r.b, .bl r.t] := by
  obtain ⟨a, xs, rfl, h1, h2⟩ := Dp.inv_tup h
  obtain ⟨v0, r0, rfl, h3, h4⟩ := DpAll.inv_cons h2
  obtain ⟨v1, r1, rfl, h5, h6⟩ := DpAll.inv_cons h4
  obtain ⟨v2, r2, rfl, h7, h8⟩ := DpAll.inv_cons h6
  obtain ⟨v3, r3, rfl, h9, h10⟩ := DpAll.inv_cons h8
  obtain rfl := Dp.inv_int h3
  obtain rfl := Dp.inv_int h5
  obtain rfl := Dp.inv_int h7
  obtain rfl := Dp.inv_bl h9
  obtain rfl := DpAll.inv_nil h10
  exact ⟨a, rfl, h1⟩
theorem foldD_inv {K : PySem.W.Frag} {H : Hp} {v : V} {d : Deed} (h : Dp K H v (foldDD d)) : ∃ a, v = .ref a ∧ SqT K H a [.int (lineD d), .bl (dOver d)] := by
  obtain ⟨a, xs, rfl, h1, h2⟩ := Dp.inv_tup h
  obtain ⟨v0, r0, rfl, h3, h4⟩ := DpAll.inv_cons h2
  obtain ⟨v1, r1, rfl, h5, h6⟩ := DpAll.inv_cons h4
  obtain rfl := Dp.inv_int h3
  obtain rfl := Dp.inv_bl h5
  obtain rfl := DpAll.inv_nil h6
  exact ⟨a, rfl, h1⟩
def sp_check_place (K : PySem.W.Frag) : Sp := fun vs H Q _ => ∃ (n p : Int), vs = [.int n, .int p] ∧ 0 ≤ p ∧ p < n ∧ Q .non H
def sp_folds_of (K : PySem.W.Frag) : Sp := fun vs H Q _ => ∃ (v : V) (d : PyData) (ds : List PyData) (deeds : List Deed) (H0 : Hp), vs = [v] ∧ Same H0 H ∧ Dp K H0 v d ∧ seqOf d = some ds ∧ ds.map deedOf = deeds.map some ∧ deeds.length ≤ 40 ∧
  ∀ (H0' H' : Hp) (a : Addr) (xs : List V), Ext H0 H H0' H' → H0' a = some (.lst xs) → DpAll K H0' xs (deeds.map foldDD) → Q (.ref a) H'
def sp_carried (K : PySem.W.Frag) : Sp := fun vs H Q _ => ∃ (v vf vg : V) (r : Run) (d : Deed) (w : Int) (h : Ht) (s : Steps) (H0 : Hp), vs = [v, vf, vg] ∧ Same H0 H ∧ Dp K H0 v (runD r) ∧ Dp K H0 vf (foldDD d) ∧ Dp K H0 vg (gD w s) ∧ GOk w h s ∧ s.length ≤ 1000 ∧
  ∀ (H0' H' : Hp) (v' : V), Ext H0 H H0' H' → Dp K H0' v' (runD (carryR w h (lineD d) (dOver d) r)) → Q v' H'
/-- grounds that stand behind none, one .. of the deeds -/
def GrOk (st : Int × Ht) (ds : List Deed) (gs : List PyData) : Prop := ds.length ≤ gs.length ∧ ∀ i, i < ds.length → ∃ s, gs[i]? = some (gD (stAt st (ds.take i)).1 s) ∧ GOk (stAt st (ds.take i)).1 (stAt st (ds.take i)).2 s ∧ s.length ≤ 1000
def runsD (st : Int × Ht) (r : Run) (ds : List Deed) (k : Nat) : List PyData := (List.range (k + 1)).map fun i => runD (runTo st r (ds.take i))
def sp_runs_of (K : PySem.W.Frag) : Sp := fun vs H Q _ => ∃ (v vf vg : V) (r : Run) (st : Int × Ht) (ds : List Deed) (gs : List PyData) (H0 : Hp), vs = [v, vf, vg] ∧ Same H0 H ∧ Dp K H0 v (runD r) ∧ Dp K H0 vf (.list (ds.map foldDD)) ∧ Dp K H0 vg (.list gs) ∧ GrOk st ds gs ∧ ds.length ≤ 40 ∧
  ∀ (H0' H' : Hp) (a : Addr) (xs : List V), Ext H0 H H0' H' → H0' a = some (.lst xs) → H a = none → DpAll K H0' xs (runsD st r ds ds.length) → Q (.ref a) H'
def sp_spot_of (K : PySem.W.Frag) : Sp := fun vs H Q _ => ∃ (v : V) (r : Run) (H0 : Hp), vs = [v] ∧ Same H0 H ∧ Dp K H0 v (runD r) ∧
  ∀ (H0' H' : Hp) (v' : V), Ext H0 H H0' H' → Dp K H0' v' (spotD r) → Q v' H'
def wayD (n : Int) (deeds : List Deed) (x : Int) : List PyData := (List.range (deeds.length + 1)).map fun i => spotD (runTo (st0 n) ⟨x, 0, 0, false⟩ (deeds.take i))
def sp_way_of (K : PySem.W.Frag) : Sp := fun vs H Q _ => ∃ (n : Int) (v : V) (d : PyData) (deeds : List Deed) (x : Int) (H0 : Hp), vs = [.int n, v, .int x] ∧ Same H0 H ∧ Dp K H0 v d ∧ RowD n d deeds ∧ 0 ≤ x ∧ x < n ∧
  ∀ (H0' H' : Hp) (a : Addr) (xs : List V), Ext H0 H H0' H' → H0' a = some (.lst xs) → H a = none → DpAll K H0' xs (wayD n deeds x) → Q (.ref a) H'
def sp_spot (K : PySem.W.Frag) : Sp := fun vs H Q _ => ∃ (n : Int) (v : V) (d : PyData) (deeds : List Deed) (x : Int) (H0 : Hp), vs = [.int n, v, .int x] ∧ Same H0 H ∧ Dp K H0 v d ∧ RowD n d deeds ∧ 0 ≤ x ∧ x < n ∧
  ∀ (H0' H' : Hp) (v' : V), Ext H0 H H0' H' → Dp K H0' v' (spotD (runTo (st0 n) ⟨x, 0, 0, false⟩ deeds)) → Q v' H'
section
variable {P : Program} {w : World} {K : PySem.W.Frag} {mg : Str → Option Value} {base : Heap}
theorem good_check_place (D : DefAt K mg "check_place" D_check_place.st D_check_place.ps) (T : Bi mg)
    (h_is_among : Good P w K mg base 2 "is_among" D_is_among.ps (sp_is_among K)) : Good P w K mg base 3 "check_place" D_check_place.ps (sp_check_place K) := by
  refine Good.of (N := D_check_place.N) D D_check_place.sc (fun vs H Q E h => ?_) (fun f cdv A outer s H vs Q E hr h => ?_)
  · obtain ⟨n, p, rfl, _⟩ := h; rfl
  · obtain ⟨n, p, rfl, h1, h2, q⟩ := h
    obtain ⟨f_is_among, fd_is_among, m_is_among, k_is_among, b_is_among, G_is_among⟩ := h_is_among
    have nd := D_check_place.sc.nd; have hu := hu_of hr; refine ⟨_, (pss_one (ps_if (pt_not (pt_val (pe_call G_is_among (hr.mono (by decide)) (by rfl) m_is_among k_is_among b_is_among .nil pass0 (pa_cons (pv 1) (pa_cons pe_int (pa_cons (pe_op op_sub (pv 0) pe_int) pa_nil)))))) (pss_one ps_never) pss_nil)), ?_⟩
    rw [show L2.start D_check_place.N [.int n, .int p] = [some (.int n), some (.int p)] from rfl]
    walk_at "vc"
    refine ⟨_, .int p, _, _, rfl, .int p, ?_⟩
    rw [show amongD (.int p) 0 (n - 1) = true by simp [amongD]; omega]
    simpa using q
theorem good_carried (D : DefAt K mg "carried" D_carried.st D_carried.ps) (T : Bi mg)
    (h_layers_at : Good P w K mg base 1 "layers_at" D_layers_at.ps (sp_layers_at K)) (h_shift_of : Good P w K mg base 1 "shift_of" D_shift_of.ps (sp_shift_of K)) : Good P w K mg base 2 "carried" D_carried.ps (sp_carried K) := by
  refine Good.of (N := D_carried.N) D D_carried.sc (fun vs H Q E h => ?_) (fun f cdv A outer s H vs Q E hr h => ?_)
  · obtain ⟨v, vf, vg, r, d, w, h, s, H0, rfl, _⟩ := h; rfl
  · obtain ⟨v, vf, vg, r, d, w, h, s, H0, rfl, sH, hd, hf, hg, g, hl, q⟩ := h
    obtain ⟨a, rfl, hS⟩ := runD_inv hd
    obtain ⟨b, rfl, hF⟩ := foldD_inv hf
    obtain ⟨ga, gb, gys, rfl, gS, gL, gB⟩ := gD_inv hg
    obtain ⟨f_layers_at, fd_layers_at, m_layers_at, k_layers_at, b_layers_at, G_layers_at⟩ := h_layers_at; obtain ⟨f_shift_of, fd_shift_of, m_shift_of, k_shift_of, b_shift_of, G_shift_of⟩ := h_shift_of
    have nd := D_carried.sc.nd; have hu := hu_of hr; refine ⟨_, (pss_cons (ps_asg (pv 0) (pg_tup (by rfl) (pgs_cons (pg_name (i := 3) nd rfl (Or.inl rfl)) (pgs_cons (pg_name (i := 4) nd rfl (Or.inl rfl)) (pgs_cons (pg_name (i := 5) nd rfl (Or.inl rfl)) (pgs_cons (pg_name (i := 6) nd rfl (Or.inl rfl)) pgs_nil))))))       (pss_cons (ps_asg (pv 1) (pg_tup (by rfl) (pgs_cons (pg_name (i := 7) nd rfl (Or.inl rfl)) (pgs_cons (pg_name (i := 8) nd rfl (Or.inl rfl)) pgs_nil))))       (pss_cons (ps_set (i := 9) nd rfl (Or.inl rfl) (pe_cmpR op_ge (pv 3) (pv 7) (nomark _)))       (pss_cons (ps_set (i := 10) nd rfl (Or.inl rfl) (pe_op op_sub (pe_op op_sub (pe_op op_mul pe_int (pv 7)) pe_int) (pv 3)))       (pss_cons (ps_set (i := 11) nd rfl (Or.inl rfl) (pe_call G_layers_at (hr.mono (by decide)) (by rfl) m_layers_at k_layers_at b_layers_at .nil pass0 (pa_cons (pv 2) (pa_cons (pv 10) pa_nil))))       (pss_cons (ps_if (pt_val (pv 9)) (pss_one (ps_asg (pe_tup (pa_cons (pv 10) (pa_cons (pv 5) (pa_cons (pv 4) (pa_cons (pe_not (pv 6)) pa_nil))))) (pg_tup (by rfl) (pgs_cons (pg_name (i := 3) nd rfl (Or.inl rfl)) (pgs_cons (pg_name (i := 4) nd rfl (Or.inl rfl)) (pgs_cons (pg_name (i := 5) nd rfl (Or.inl rfl)) (pgs_cons (pg_name (i := 6) nd rfl (Or.inl rfl)) pgs_nil))))))) pss_nil)       (pss_cons (ps_if (pt_cmpR op_eq (pv 9) (pv 8) (nomark _)) (pss_one (ps_aug (i := 5) nd rfl (Or.inl rfl) (pv 11) ip_add)) (pss_one (ps_aug (i := 4) nd rfl (Or.inl rfl) (pv 11) ip_add)))       (pss_one (ps_ret (pe_tup (pa_cons (pe_op op_add (pv 3) (pe_call G_shift_of (hr.mono (by decide)) (by rfl) m_shift_of k_shift_of b_shift_of .nil pass0 (pa_cons (pv 2) (pa_cons (pv 7) pa_nil)))) (pa_cons (pv 4) (pa_cons (pv 5) (pa_cons (pv 6) pa_nil)))))))))))))), ?_⟩
    rw [show L2.start D_carried.N [.ref a, .ref b, .ref ga] = [some (.ref a), some (.ref b), some (.ref ga), none, none, none, none, none, none, none, none, none] from rfl]
    walk_at "vc"
    refine ⟨_, sqt_same sH hS, rfl, _, _, rfl, _, _, rfl, _, _, rfl, _, _, rfl, rfl, _, sqt_same sH hF, rfl, _, _, rfl, _, _, rfl, rfl, _, rfl, _, rfl, _, rfl, .inl ⟨by decide, by decide⟩, ?_⟩
    walk_at "vc"
    refine ⟨.ref ga, _, s, _, rfl, Dp.mono sH hg, hl, fun H1 s1 => ?_⟩
    have em : (if 0 ≤ 2 * lineD d - 1 - r.c ∧ 2 * lineD d - 1 - r.c < w then psum s (2 * lineD d - 1 - r.c) else 0) = h (2 * lineD d - 1 - r.c) := by
      split
      · rename_i z; exact g.sum _ z.1 z.2
      · exact (g.out _ (by omega)).symm
    rw [em]
    have fin : ∀ (H2 : Hp) (p : Addr) (c' a' b' : Int) (t' : Bool), Same H H2 → H2 p = none → carryR w h (lineD d) (dOver d) r = ⟨c', a', b', t'⟩ → Q (.ref p) (upd H2 p (.tup [.int c', .int a', .int b', .bl t'])) := fun H2 p c' a' b' t' s2 hp e =>
      q _ _ _ ((Ext.of sH s2).alloc _ hp) (by rw [e]; exact .tup (SqT.of upd_same) (.cons (.int _) (.cons (.int _) (.cons (.int _) (DpAll.one (.bl _))))))
    have hm2 : CMul 2 (lineD d) := .inl ⟨by decide, by decide⟩
    show if lineD d ≤ r.c then _ else _
    by_cases hr1 : lineD d ≤ r.c
    · rw [if_pos hr1]
      refine ⟨by decide, fun p hp => ⟨_, SqT.of upd_same, rfl, _, _, rfl, _, _, rfl, _, _, rfl, _, _, rfl, rfl, rfl, ?_⟩⟩
      have s2 : Same H (upd H1 p (.tup [V.int (2 * lineD d - 1 - r.c), V.int r.b, V.int r.a, V.bl !r.t])) := s1.trans (same_new hp)
      by_cases ho : dOver d = true
      · rw [if_pos (by rw [ho]; simpa using hr1)]
        refine ⟨_, _, rfl, rfl, .ref ga, _, s, lineD d, rfl, Dp.mono (sH.trans s2) hg, _, rfl, _, rfl, by decide, fun p2 hp2 => fin _ p2 _ _ _ _ s2 hp2 ?_⟩
        unfold carryR; rw [if_pos hr1, if_pos ho]
      · rw [if_neg (fun z => ho (by rw [← z]; simpa using hr1))]
        refine ⟨_, _, rfl, rfl, .ref ga, _, s, lineD d, rfl, Dp.mono (sH.trans s2) hg, _, rfl, _, rfl, by decide, fun p2 hp2 => fin _ p2 _ _ _ _ s2 hp2 ?_⟩
        unfold carryR; rw [if_pos hr1, if_neg ho]
    · rw [if_neg hr1]
      refine ⟨rfl, ?_⟩
      by_cases ho : dOver d = true
      · rw [if_neg (fun z => by rw [ho] at z; exact hr1 (by simpa using z))]
        refine ⟨_, _, rfl, rfl, .ref ga, _, s, lineD d, rfl, Dp.mono (sH.trans s1) hg, _, rfl, by decide, fun p2 hp2 => fin _ p2 _ _ _ _ s1 hp2 ?_⟩
        unfold carryR; rw [if_neg hr1, if_pos ho]
      · rw [if_pos (by cases e : dOver d <;> simp_all)]
        refine ⟨_, _, rfl, rfl, .ref ga, _, s, lineD d, rfl, Dp.mono (sH.trans s1) hg, _, rfl, by decide, fun p2 hp2 => fin _ p2 _ _ _ _ s1 hp2 ?_⟩
        unfold carryR; rw [if_neg hr1, if_neg ho]
theorem good_folds_of (D : DefAt K mg "folds_of" D_folds_of.st D_folds_of.ps) (T : Bi mg)
    (h_line_of : Good P w K mg base 1 "line_of" D_line_of.ps (sp_line_of K)) : Good P w K mg base 2 "folds_of" D_folds_of.ps (sp_folds_of K) := by
  refine Good.of (N := D_folds_of.N) D D_folds_of.sc (fun vs H Q E h => ?_) (fun f cdv A outer s H vs Q E hr h => ?_)
  · obtain ⟨v, d, ds, deeds, H0, rfl, _⟩ := h; rfl
  · obtain ⟨v, d, ds, deeds, H0, rfl, sH, hd, hseq, hds, hl40, q⟩ := h
    obtain ⟨f_line_of, fd_line_of, m_line_of, k_line_of, b_line_of, G_line_of⟩ := h_line_of
    have hlen : ds.length = deeds.length := by have := congrArg List.length hds; simpa using this
    obtain ⟨a, xs, rfl, hS, hA⟩ := seqD_of hd hseq
    have hxl : deeds.length = xs.length := by rw [DpAll.length hA, hlen]
    have item : ∀ (i : Nat) (x : V) (dd : Deed), xs[i]? = some x → deeds[i]? = some dd → ∃ e, Dp K H0 x e ∧ deedOf e = some dd := by
      intro i x dd hx hdd
      obtain ⟨e, he, de⟩ := DpAll.at hA hx
      have h1 : (ds.map deedOf)[i]? = (deeds.map some)[i]? := by rw [hds]
      rw [List.getElem?_map, List.getElem?_map, he, hdd] at h1
      exact ⟨e, de, Option.some.inj h1⟩
    have fin : ∀ (D2 : Addr) (A1 H1 : Hp) (ys : List V), H D2 = none → Ext H0 H A1 H1 → A1 D2 = none → H1 D2 = some (.lst ys) → DpAll K A1 ys ((deeds.filter fun _ => true).map foldDD) → Q (.ref D2) H1 := by
      intro D2 A1 H1 ys nD e1 n0 eD da
      rw [filt] at da
      exact q _ _ D2 ys (e1.keep nD n0 eD) upd_same (DpAll.mono (same_new n0) da)
    have nun : ∀ {x : Str}, x ≠ "under" → (!decide (V.str x = V.str "under")) = true := fun h => by rw [decide_eq_false (fun z => h (V.str.inj z))]; rfl
    rcases hS with hS | hS
    · have nd := D_folds_of.sc.nd; have hu := hu_of hr; refine ⟨_, (pss_one (ps_ret (pe_lc (own := [("deed", 1)]) (g := (gName 1)) (tt := tYes) (te := (tTup (tCons (tCall (sp_line_of K) [] E0 (tCons (tVar 1) tNil)) (tCons (tOp rNe (tOp (rIx K) (tVar 1) (tC (.int 0))) (tC (.str "under"))) tNil)))) (by rfl) nd (pi_list (pv 0)) (blkOk_by (own := [("deed", 1)]) (N := D_folds_of.N) (sc := defScope D_folds_of.st) (by decide +kernel)) (fun _ _ _ _ _ => (pg_name (i := 1) nd rfl (Or.inl rfl))) (fun _ _ _ _ _ => pts_nil) (fun _ _ _ _ _ => (pe_tup (pa_cons (pe_call G_line_of (hr.mono (by decide)) (by rfl) m_line_of k_line_of b_line_of .nil pass0 (pa_cons (pv 1) pa_nil)) (pa_cons (pe_cmpR op_ne (pe_ix ix_seq (pv 1) pe_int (fun _ _ => rfl)) pe_str (nomark _)) pa_nil))))))), ?_⟩
      rw [show L2.start D_folds_of.N [.ref a] = [some (.ref a), none] from rfl]
      walk_at "vc"
      refine lcLv (K := K) (H0 := H0) deeds (fun _ => true) foldDD rfl (sH.seq hS) sH hxl (by omega) (fun i x dd hx hdd A1 H1 e1 Qy Qn hy hn => ?_) fin
      obtain ⟨e, de, hde⟩ := item i x dd hx hdd
      have deH := Dp.mono (e1.grow.trans e1.sub) de
      walk_at "vc"
      refine ⟨x, e, dd, rfl, deH, hde, ?_⟩
      obtain ⟨b, zs, rfl, hz, hc⟩ := deedOf_inv deH hde
      have last : ∀ p, H1 p = none → Qy (.ref p) (upd H1 p (.tup [.int (lineD dd), .bl (dOver dd)])) := fun p hp =>
        hy rfl _ _ _ ((Ext.refl e1.sub).alloc _ hp) (.tup (SqT.of upd_same) (.cons (.int _) (DpAll.one (.bl _))))
      rcases hc with ⟨rfl, rfl⟩ | ⟨o, c, rfl, rfl⟩
      · refine rix_at hz rfl ⟨rfl, by decide, ?_⟩
        rw [nun (by decide)]
        exact last
      · refine rix_at hz rfl ⟨rfl, by decide, ?_⟩
        rw [show (!decide (V.str (if o = true then "over" else "under") = V.str "under")) = dOver (.fold o c) by
          cases o
          · rw [if_neg (by decide), decide_eq_true rfl]; rfl
          · rw [if_pos rfl, nun (by decide)]; rfl]
        exact last
    · have nd := D_folds_of.sc.nd; have hu := hu_of hr; refine ⟨_, (pss_one (ps_ret (pe_lc (own := [("deed", 1)]) (g := (gName 1)) (tt := tYes) (te := (tTup (tCons (tCall (sp_line_of K) [] E0 (tCons (tVar 1) tNil)) (tCons (tOp rNe (tOp (rIx K) (tVar 1) (tC (.int 0))) (tC (.str "under"))) tNil)))) (by rfl) nd (pi_tup (pv 0)) (blkOk_by (own := [("deed", 1)]) (N := D_folds_of.N) (sc := defScope D_folds_of.st) (by decide +kernel)) (fun _ _ _ _ _ => (pg_name (i := 1) nd rfl (Or.inl rfl))) (fun _ _ _ _ _ => pts_nil) (fun _ _ _ _ _ => (pe_tup (pa_cons (pe_call G_line_of (hr.mono (by decide)) (by rfl) m_line_of k_line_of b_line_of .nil pass0 (pa_cons (pv 1) pa_nil)) (pa_cons (pe_cmpR op_ne (pe_ix ix_seq (pv 1) pe_int (fun _ _ => rfl)) pe_str (nomark _)) pa_nil))))))), ?_⟩
      rw [show L2.start D_folds_of.N [.ref a] = [some (.ref a), none] from rfl]
      walk_at "vc"
      refine lcT (K := K) deeds (fun _ => true) foldDD ⟨_, rfl, a, xs, H0, rfl, sqt_same sH hS, sH, hxl, (by omega), (fun i x dd hx hdd A1 H1 e1 Qy Qn hy hn => ?_), fin⟩ (fun Q1 Q2 h ⟨v, e, q⟩ => ⟨v, e, h _ _ q⟩)
      obtain ⟨e, de, hde⟩ := item i x dd hx hdd
      have deH := Dp.mono (e1.grow.trans e1.sub) de
      walk_at "vc"
      refine ⟨x, e, dd, rfl, deH, hde, ?_⟩
      obtain ⟨b, zs, rfl, hz, hc⟩ := deedOf_inv deH hde
      have last : ∀ p, H1 p = none → Qy (.ref p) (upd H1 p (.tup [.int (lineD dd), .bl (dOver dd)])) := fun p hp =>
        hy rfl _ _ _ ((Ext.refl e1.sub).alloc _ hp) (.tup (SqT.of upd_same) (.cons (.int _) (DpAll.one (.bl _))))
      rcases hc with ⟨rfl, rfl⟩ | ⟨o, c, rfl, rfl⟩
      · refine rix_at hz rfl ⟨rfl, by decide, ?_⟩
        rw [nun (by decide)]
        exact last
      · refine rix_at hz rfl ⟨rfl, by decide, ?_⟩
        rw [show (!decide (V.str (if o = true then "over" else "under") = V.str "under")) = dOver (.fold o c) by
          cases o
          · rw [if_neg (by decide), decide_eq_true rfl]; rfl
          · rw [if_pos rfl, nun (by decide)]; rfl]
        exact last
theorem for_zipM {K : PySem.W.Frag} {a b : Addr} {xs ys : List V} {g : TG} {tb : TS} {D : Ends} {σ : L2.St} {H : Hp} (hl : xs.length ≤ ys.length) (Pv : Nat → L2.St → Hp → Prop) (h0 : Pv 0 σ H) (hq : ∀ i σ H, Pv i σ H → SqL K H a xs ∧ SqL K H b ys)
    (hs : ∀ (i : Nat) (x y : V) (T : Addr) (σ : L2.St) (H : Hp), xs[i]? = some x → ys[i]? = some y → Pv i σ H → H T = none → g (.ref T) σ (upd H T (.tup [x, y])) fun σ2 H2 => tb { D with nx := Pv (i + 1), ct := Pv (i + 1), bk := D.nx } σ2 H2) (hd : ∀ σ H, Pv xs.length σ H → D.nx σ H) :
    ∃ W : Nat → Nat → L2.St → Hp → Prop, (∃ m, W 0 m σ H) ∧ ∀ i m σ H, W i m σ H →
      ((Itz K a b).stop i H ∧ D.nx σ H) ∨ ((Itz K a b).go i H ∧ ∃ N : L2.St → Hp → Prop, (∀ σ' H', N σ' H' → ∃ m', m' < m ∧ W (i + 1) m' σ' H') ∧ ∀ v H', (Itz K a b).yld i H v H' → g v σ H' fun σ2 H2 => tb { D with nx := N, ct := N, bk := D.nx } σ2 H2) := by
  refine ⟨fun i m σ H => m = xs.length - i ∧ i ≤ xs.length ∧ Pv i σ H, ⟨xs.length, rfl, Nat.zero_le _, h0⟩, ?_⟩
  rintro i m σ H ⟨rfl, hi, p⟩
  obtain ⟨qx, qy⟩ := hq i σ H p
  by_cases hlt : i < xs.length
  · have hx : xs[i]? = some xs[i] := List.getElem?_eq_getElem hlt
    have hlt2 : i < ys.length := by omega
    have hy : ys[i]? = some ys[i] := List.getElem?_eq_getElem hlt2
    refine .inr ⟨⟨xs, ys, _, _, qx, qy, hx, hy⟩, Pv (i + 1), fun σ' H' p' => ⟨xs.length - (i + 1), by omega, rfl, hlt, p'⟩, fun v H' y => ?_⟩
    obtain ⟨T, x', y', rfl, hT, rfl, f1, f2⟩ := y
    exact hs i x' y' T σ H (f1 xs qx) (f2 ys qy) p hT
  · have e : i = xs.length := by omega
    subst e
    exact .inl ⟨⟨xs, ys, qx, qy, Or.inl (Nat.le_refl _)⟩, hd σ H p⟩
theorem good_runs_of (D : DefAt K mg "runs_of" D_runs_of.st D_runs_of.ps) (T : Bi mg)
    (h_carried : Good P w K mg base 2 "carried" D_carried.ps (sp_carried K)) : Good P w K mg base 3 "runs_of" D_runs_of.ps (sp_runs_of K) := by
  refine Good.of (N := D_runs_of.N) D D_runs_of.sc (fun vs H Q E h => ?_) (fun f cdv A outer s H vs Q E hr h => ?_)
  · obtain ⟨v, vf, vg, r, st, ds, gs, H0, rfl, _⟩ := h; rfl
  · obtain ⟨v, vf, vg, r, st, ds, gs, H0, rfl, sH, hd, hf, hg, gr, hl40, q⟩ := h
    obtain ⟨fa, fxs, rfl, fS, fA⟩ := Dp.inv_lst hf
    obtain ⟨ga, gxs, rfl, gS, gA⟩ := Dp.inv_lst hg
    obtain ⟨f_carried, fd_carried, m_carried, k_carried, b_carried, G_carried⟩ := h_carried
    have nd := D_runs_of.sc.nd; have hu := hu_of hr; refine ⟨_, (pss_cons (ps_set (i := 3) nd rfl (Or.inl rfl) (pe_lst (pa_cons (pv 0) pa_nil)))       (pss_cons (ps_for PassesOwn.never (by rfl) (pi_zip (by rfl) T.n_zip (pa_cons (pv 1) (pa_cons (pv 2) pa_nil))) (pg_tup (by rfl) (pgs_cons (pg_name (i := 4) nd rfl (Or.inl rfl)) (pgs_cons (pg_name (i := 5) nd rfl (Or.inl rfl)) pgs_nil))) (pss_one (ps_expr (pe_bm PySem.F.plainAttrs_list PySem.F.slot_list_append PySem.F.type_list_append mt_append (pv 3) (pa_cons (pe_call G_carried (hr.mono (by decide)) (by rfl) m_carried k_carried b_carried .nil pass0 (pa_cons (pe_ix ix_list (pv 3) (pe_un un_neg pe_int) (fun _ _ => rfl)) (pa_cons (pv 4) (pa_cons (pv 5) pa_nil)))) pa_nil)))))       (pss_one (ps_ret (pv 3))))), ?_⟩
    rw [show L2.start D_runs_of.N [v, .ref fa, .ref ga] = [some (v), some (.ref fa), some (.ref ga), none, none, none] from rfl]
    walk_at "vc"
    have hfl : fxs.length = ds.length := by rw [DpAll.length fA, List.length_map]
    have hgl : gxs.length = gs.length := DpAll.length gA
    refine ⟨by decide, fun F hF => ?_⟩
    have e0 := (Ext.refl sH).make (.lst [v]) hF
    have n0F : H0 F = none := sH.free hF
    refine ⟨_, rfl, _, rfl, fa, ga, fxs, gxs, rfl, e0.same.seq (sH.seq fS), e0.same.seq (sH.seq gS), for_zipM (by have := gr.1; omega) (fun i σ H' => ∃ (x4 x5 : Option V) (A' : Hp) (acc : List V),
      σ = [some v, some (.ref fa), some (.ref ga), some (.ref F), x4, x5] ∧ Ext H0 H A' H' ∧ A' F = none ∧ H' F = some (.lst acc) ∧ DpAll K A' acc (runsD st r ds i))
      ⟨none, none, H0, [v], rfl, e0, n0F, upd_same, DpAll.one hd⟩ (fun i σ H' ⟨_, _, _, _, _, e, _⟩ => ⟨e.same.seq (sH.seq fS), e.same.seq (sH.seq gS)⟩) ?_ ?_⟩
    · rintro i x y T0 σ H' hx hy ⟨x4, x5, A', acc, rfl, e, nF, eF, da⟩ hT0
      obtain ⟨dx, hdx, dvx⟩ := DpAll.at fA hx
      rw [List.getElem?_map] at hdx
      obtain ⟨d, hdi, rfl⟩ := Option.map_eq_some_iff.mp hdx
      have hi : i < ds.length := (List.getElem?_eq_some_iff.mp hdi).1
      obtain ⟨s', hs', gok, gl⟩ := gr.2 i hi
      obtain ⟨dy, hdy, dvy⟩ := DpAll.at gA hy
      obtain rfl := Option.some.inj (hdy.symm.trans hs')
      have eT := e.alloc (.tup [x, y]) hT0
      have nTF : F ≠ T0 := ne_of_none eF hT0
      have eF1 : (upd H' T0 (.tup [x, y])) F = some (.lst acc) := by rw [upd_ne nTF]; exact eF
      have nF1 : (upd A' T0 (.tup [x, y])) F = none := by rw [upd_ne nTF]; exact nF
      have hal : acc.length = i + 1 := by rw [DpAll.length da]; unfold runsD; rw [List.length_map, List.length_range]
      obtain ⟨v0, hv0, dv0⟩ := DpAll.of da (show (runsD st r ds i)[i]? = some (runD (runTo st r (ds.take i))) by
        unfold runsD; rw [List.getElem?_map, List.getElem?_range (by omega)]; rfl)
      have hTup : (upd H' T0 (.tup [x, y])) T0 = some (.tup [x, y]) := upd_same
      have sA : Same A' (upd A' T0 (.tup [x, y])) := same_new (e.sub.free hT0)
      have sg : Same H0 (upd H' T0 (.tup [x, y])) := eT.grow.trans eT.sub
      generalize upd A' T0 (.tup [x, y]) = A1 at *
      generalize upd H' T0 (.tup [x, y]) = H1 at *
      walk_at "vc"
      refine ⟨_, SqT.of hTup, rfl, _, _, rfl, _, _, rfl, rfl, .inl ⟨rfl, _, SqL.of eF1⟩, _, SqL.of eF1, v0, atI_m1 (by rw [hal]; exact hv0), v0, x, y, _, d, _, _, s', A1, rfl, eT.sub, Dp.mono sA dv0, Dp.mono eT.grow dvx, Dp.mono eT.grow dvy, gok, gl, fun A2 H2 v' e2 dv' => ?_⟩
      have eF2 : H2 F = some (.lst acc) := e2.same _ _ eF1
      have nF2 : A2 F = none := e2.out (by rw [eF1]; simp) nF1
      refine ⟨acc, eF2, sz_lt (by omega), A2, (eT.trans e2).mut _ hF nF2, nF2, _, upd_same, ?_⟩
      have em : runsD st r ds (i + 1) = runsD st r ds i ++ [runD (carryR (stAt st (ds.take i)).1 (stAt st (ds.take i)).2 (lineD d) (dOver d) (runTo st r (ds.take i)))] := by
        unfold runsD
        rw [List.range_succ, List.map_append, ← runTo_more hdi]; rfl
      rw [em]
      exact DpAll.app (DpAll.mono (sA.trans e2.grow) da) (DpAll.one dv')
    · rintro σ H' ⟨x4, x5, A', acc, rfl, e, nF, eF, da⟩
      rw [hfl] at da
      exact ⟨_, rfl, q _ _ F acc (e.keep hF nF eF) upd_same hF (DpAll.mono (same_new nF) da)⟩
end
end Fv

namespace Fv
open PySem PySem.Spec PyProof.Rows L2
local macro_rules | `(tactic| walk_at "vc") => `(tactic| simp only [tRet, tRetN, tAndV, tOrV, tNotV, tAnd, tOr, tNot, tB, tTest, tOp, tUn, tCB, rTyp, tCons, tNil, tVar, tC, tChain, rI0, rI, rU, tSeq, tNext, tIfS, tIf, tAsg, gName, gCons, gNil, gTup, tDrop, tTup, tLst, tCall, tIsN, tNotN, tPar, tAug, tYes, rLenSq, rIsi, rReprD, L2.tSl, tPart, tNoPart, rSlL, rCat, rRep, gSub, tRevL, CPow, rEqD, rNeD, Int.reduceToNat, tBM, rAppend, wipe, StX.tStar, sDPut, tDGet, tDGet2, tDNewK, List.map_cons, List.map_nil, rEq, rNe, rIxT, rIxL, cxK, cxKn,
  List.getElem?_cons_zero, List.getElem?_cons_succ, List.set_cons_zero, List.set_cons_succ, List.append_nil, List.nil_append, List.cons_append, List.length_cons, List.length_nil, List.cons.injEq, Option.some.injEq, V.int.injEq, V.ty.injEq, V.bl.injEq, V.ref.injEq, V.str.injEq,
  and_true, true_and, and_assoc, exists_eq_left', exists_eq_left, exists_and_left, exists_eq', exists_eq, exists_eq_right, exists_eq_right', decide_eq_true_eq, Bool.not_eq_true', Bool.false_eq_true, if_true, if_false, reduceCtorEq, false_and, and_false, exists_false, decide_true, decide_false, Nat.zero_add, ite_true, ite_false, V.int.injEq, decide_eq_false_iff_not])

/-- a run stays among the columns -/
theorem carry_range {w : Int} {h : Ht} {d : Deed} {r : Run} (hw : 1 ≤ w) (ok : okDeed w (some d) = true) (h0 : 0 ≤ r.c) (h1 : r.c < w) : 0 ≤ (carryR w h (lineD d) (dOver d) r).c ∧ (carryR w h (lineD d) (dOver d) r).c < foldW w (lineD d) := by
  have hl := okDeed_line hw ok
  have hs := fold_shift w (lineD d)
  have h2 : w - 2 * lineD d ≤ shiftOf w (lineD d) ∧ 0 ≤ shiftOf w (lineD d) := by unfold shiftOf; split <;> omega
  unfold carryR
  by_cases hc : lineD d ≤ r.c
  · rw [if_pos hc]
    cases dOver d
    · rw [if_neg (by decide)]; show 0 ≤ 2 * lineD d - 1 - r.c + _ ∧ 2 * lineD d - 1 - r.c + _ < _; omega
    · rw [if_pos rfl]; show 0 ≤ 2 * lineD d - 1 - r.c + _ ∧ 2 * lineD d - 1 - r.c + _ < _; omega
  · rw [if_neg hc]
    cases dOver d
    · rw [if_neg (by decide)]; show 0 ≤ r.c + _ ∧ r.c + _ < _; omega
    · rw [if_pos rfl]; show 0 ≤ r.c + _ ∧ r.c + _ < _; omega
theorem runTo_range : ∀ (ds : List Deed) (st : Int × Ht) (r : Run), 1 ≤ st.1 → okRow st ds → 0 ≤ r.c → r.c < st.1 → 0 ≤ (runTo st r ds).c ∧ (runTo st r ds).c < (stAt st ds).1
  | [], st, r, _, _, h0, h1 => ⟨h0, h1⟩
  | d :: q, st, r, hw, ⟨ok, ok'⟩, h0, h1 => by
    obtain ⟨k0, k1⟩ := carry_range (h := st.2) hw ok h0 h1
    have hl := okDeed_line hw ok
    exact runTo_range q (stepS st d) _ (by show 1 ≤ foldW st.1 (lineD d); unfold foldW; split <;> omega) ok' k0 k1
/-- two runs come to one column just at the line in which their columns mirror one another -/
theorem meet_iff {w : Int} {h : Ht} {l : Int} {o : Bool} {r1 r2 : Run} (ne : r1.c ≠ r2.c) : ((carryR w h l o r1).c = (carryR w h l o r2).c) ↔ (r1.c + r2.c = 2 * l - 1 ∧ (l ≤ r1.c ∧ r2.c < l ∨ l ≤ r2.c ∧ r1.c < l)) := by
  have key : ∀ r : Run, (carryR w h l o r).c = if l ≤ r.c then 2 * l - 1 - r.c + shiftOf w l else r.c + shiftOf w l := fun r => by
    unfold carryR
    by_cases hc : l ≤ r.c
    · rw [if_pos hc, if_pos hc]; cases o <;> rfl
    · rw [if_neg hc, if_neg hc]; cases o <;> rfl
  rw [key, key]
  constructor
  · intro e
    split at e <;> split at e <;> omega
  · rintro ⟨e, h1⟩
    split <;> split <;> omega
/-- .. of columns there the mirror line is one that a fold may have, if there is one -/
theorem meet_line {c1 c2 w : Int} (h1 : 0 ≤ c1) (h2 : c1 < w) (h3 : 0 ≤ c2) (h4 : c2 < w) (ne : c1 ≠ c2) (l : Int) : (c1 + c2 = 2 * l - 1 ∧ (l ≤ c1 ∧ c2 < l ∨ l ≤ c2 ∧ c1 < l)) ↔ ((c1 + c2) % 2 = 1 ∧ l = (c1 + c2 + 1) / 2 ∧ 1 ≤ l ∧ l < w) := by
  constructor
  · rintro ⟨e, _⟩
    refine ⟨by omega, by omega, by omega, by omega⟩
  · rintro ⟨e1, e2, e3, e4⟩
    refine ⟨by omega, ?_⟩
    by_cases z : c1 < c2
    · exact .inr ⟨by omega, by omega⟩
    · exact .inl ⟨by omega, by omega⟩
def endC (n : Int) (deeds : List Deed) (x : Int) : Int := (runTo (st0 n) ⟨x, 0, 0, false⟩ deeds).c
def lineV (m : Int) : V := if m % 2 = 1 then .int ((m + 1) / 2) else .non
def sp_line_to (K : PySem.W.Frag) : Sp := fun vs H Q _ => ∃ (n : Int) (v : V) (d : PyData) (deeds : List Deed) (x y : Int) (H0 : Hp), vs = [.int n, v, .int x, .int y] ∧ Same H0 H ∧ Dp K H0 v d ∧ RowD n d deeds ∧ 0 ≤ x ∧ x < n ∧ 0 ≤ y ∧ y < n ∧
  ∀ H', Same H H' → Q (lineV (endC n deeds x + endC n deeds y)) H'
section
variable {P : Program} {w : World} {K : PySem.W.Frag} {mg : Str → Option Value} {base : Heap}
theorem good_line_to (D : DefAt K mg "line_to" D_line_to.st D_line_to.ps) (T : Bi mg)
    (h_grounds_of : Good P w K mg base 5 "grounds_of" D_grounds_of.ps (sp_grounds_of K)) (h_check_place : Good P w K mg base 3 "check_place" D_check_place.ps (sp_check_place K))
    (h_runs_of : Good P w K mg base 3 "runs_of" D_runs_of.ps (sp_runs_of K)) (h_folds_of : Good P w K mg base 2 "folds_of" D_folds_of.ps (sp_folds_of K)) :
    Good P w K mg base 6 "line_to" D_line_to.ps (sp_line_to K) := by
  refine Good.of (N := D_line_to.N) D D_line_to.sc (fun vs H Q E h => ?_) (fun f cdv A outer s H vs Q E hr h => ?_)
  · obtain ⟨n, v, d, deeds, x, y, H0, rfl, _⟩ := h; rfl
  · obtain ⟨n, v, d, deeds, x, y, H0, rfl, sH, hd, R, hx0, hx1, hy0, hy1, q⟩ := h
    obtain ⟨ds, hseq, hds⟩ := R.seq
    have hl40 := R.len
    obtain ⟨f_grounds_of, fd_grounds_of, m_grounds_of, k_grounds_of, b_grounds_of, G_grounds_of⟩ := h_grounds_of; obtain ⟨f_check_place, fd_check_place, m_check_place, k_check_place, b_check_place, G_check_place⟩ := h_check_place; obtain ⟨f_runs_of, fd_runs_of, m_runs_of, k_runs_of, b_runs_of, G_runs_of⟩ := h_runs_of; obtain ⟨f_folds_of, fd_folds_of, m_folds_of, k_folds_of, b_folds_of, G_folds_of⟩ := h_folds_of
    have nd := D_line_to.sc.nd; have hu := hu_of hr; refine ⟨_, (pss_cons (ps_set (i := 4) nd rfl (Or.inr rfl) (pe_call G_grounds_of (hr.mono (by decide)) (by rfl) m_grounds_of k_grounds_of b_grounds_of .nil pass0 (pa_cons (pv 0) (pa_cons (pv 1) pa_nil))))       (pss_cons (ps_expr (pe_call G_check_place (hr.mono (by decide)) (by rfl) m_check_place k_check_place b_check_place .nil pass0 (pa_cons (pv 0) (pa_cons (pv 2) pa_nil))))       (pss_cons (ps_expr (pe_call G_check_place (hr.mono (by decide)) (by rfl) m_check_place k_check_place b_check_place .nil pass0 (pa_cons (pv 0) (pa_cons (pv 3) pa_nil))))       (pss_cons (ps_setLc (i := 5) (own := [("one", 7)]) (g := (gName 7)) (tt := tYes) (te := (tOp (rIxT K) (tOp (rIxL K) (tCall (sp_runs_of K) [] E0 (tCons (tTup (tCons (tVar 7) (tCons (tC (.int 0)) (tCons (tC (.int 0)) (tCons (tC (.bl false)) tNil))))) (tCons (tCall (sp_folds_of K) [] E0 (tCons (tVar 1) tNil)) (tCons (tVar 4) tNil)))) (tUn (rU fun i => .int (-i)) (tC (.int 1)))) (tC (.int 0)))) (by rfl) nd rfl rfl (sw_true rfl rfl rfl (by decide +kernel)) (pi_tup (pe_tup (pa_cons (pv 2) (pa_cons (pv 3) pa_nil)))) (blkOk_by (own := [("one", 7)]) (N := D_line_to.N) (sc := defScope D_line_to.st) (by decide +kernel)) (fun _ _ _ _ _ => (pg_name (i := 7) nd rfl (Or.inl rfl))) (fun _ _ _ _ _ => pts_nil) (fun _ _ _ _ _ => (pe_ix ix_tup (pe_ix ix_list (pe_call G_runs_of (hr.mono (by decide)) (by rfl) m_runs_of k_runs_of b_runs_of .nil pass0 (pa_cons (pe_tup (pa_cons (pv 7) (pa_cons pe_int (pa_cons pe_int (pa_cons pe_bl pa_nil))))) (pa_cons (pe_call G_folds_of (hr.mono (by decide)) (by rfl) m_folds_of k_folds_of b_folds_of .nil pass0 (pa_cons (pv 1) pa_nil)) (pa_cons (pv 4) pa_nil)))) (pe_un un_neg pe_int) (fun _ _ => rfl)) pe_int (fun _ _ => rfl))))       (pss_cons (ps_set (i := 6) nd rfl (Or.inl rfl) (pe_callB (cr_sum rfl) (by rfl) T.n_sum (by decide +kernel) (pa_cons (pv 5) pa_nil)))       (pss_one (ps_ret (pe_ifExp (pt_cmpR op_eq (pe_op op_mod (pv 6) pe_int) pe_int (nomark _)) (pe_op op_fdivW (pe_op op_add (pv 6) pe_int) pe_int) pe_non)))))))), ?_⟩
    rw [show L2.start D_line_to.N [.int n, v, .int x, .int y] = [some (.int n), some (v), some (.int x), some (.int y), none, none, none, none] from rfl]
    walk_at "vc"
    refine ⟨n, v, d, deeds, H0, rfl, sH, hd, R, fun A1 H1 a xs ss e1 h1 h2 h3 h4 => ?_⟩
    walk_at "vc"
    refine ⟨n, x, rfl, hx0, hx1, n, y, rfl, hy0, hy1, ?_⟩
    have hgr : GrOk (st0 n) deeds (gsD n deeds ss) := by
      refine ⟨by unfold gsD; rw [List.length_mapIdx, h4.1]; omega, fun i hi => ?_⟩
      obtain ⟨s', k1, k2, k3⟩ := h4.2 i (by omega)
      exact ⟨s', gsD_at k1, k2, by omega⟩
    have hbnd : ∀ z : Int, 0 ≤ z → z < n → 0 ≤ endC n deeds z := fun z h0 h1 => (runTo_range deeds (st0 n) ⟨z, 0, 0, false⟩ R.lo R.ok h0 h1).1
    show tLc _ _ _ _ _ _ _ _
    refine lcT (K := K) (α := Int) [x, y] (fun _ => true) (fun z => .int (endC n deeds z)) ⟨_, rfl, _, rfl, (by show 2 ≤ sizeLine; decide), fun p hp => ?_⟩ ?_
    · have e2 := e1.alloc (.tup [.int x, .int y]) hp
      have hA1p : A1 p = none := e1.sub.free hp
      refine ⟨p, [.int x, .int y], _, rfl, SqT.of upd_same, e2.sub, rfl, (by show 2 < 100000; decide), fun i x' z hx hz A2 H2 e3 Qy Qn hy hn => ?_, fun D2 A2 H2 ys nD e3 n0 eD da => ?_⟩
      · obtain rfl : x' = .int z := by
          match i, hx, hz with
          | 0, hx, hz => rw [← Option.some.inj hx, ← Option.some.inj hz]
          | 1, hx, hz => rw [← Option.some.inj hx, ← Option.some.inj hz]
          | (k + 2), hx, _ => simp at hx
        walk_at "vc"
        refine ⟨by decide, fun p1 hp1 => ?_⟩
        have e4 := e3.alloc (.tup [.int z, .int 0, .int 0, .bl false]) hp1
        have hA2p1 : A2 p1 = none := e3.sub.free hp1
        have g1 : Same A1 (upd A2 p1 (.tup [.int z, .int 0, .int 0, .bl false])) := (same_new hA1p).trans (e3.grow.trans (same_new hA2p1))
        refine ⟨v, d, ds, deeds, _, rfl, e4.sub, Dp.mono (e1.grow.trans g1) hd, hseq, hds, hl40, fun A3 H3 b fxs e5 h5 h6 => ?_⟩
        refine ⟨.ref p1, .ref b, .ref a, ⟨z, 0, 0, false⟩, st0 n, deeds, gsD n deeds ss, A3, rfl, e5.sub, .tup (SqT.of (e5.grow _ _ upd_same)) (.cons (.int _) (.cons (.int _) (.cons (.int _) (DpAll.one (.bl _))))), .lst (SqL.of h5) h6, .lst (SqL.of (e5.grow _ _ (g1 _ _ h1))) (DpAll.mono (g1.trans e5.grow) h3), hgr, hl40, fun A4 H4 c rxs e6 h7 h8 h9 => ?_⟩
        have hrl : rxs.length = deeds.length + 1 := by rw [DpAll.length h9]; unfold runsD; rw [List.length_map, List.length_range]
        obtain ⟨vl, hvl, dvl⟩ := DpAll.of h9 (show (runsD (st0 n) ⟨z, 0, 0, false⟩ deeds deeds.length)[deeds.length]? = some (runD (runTo (st0 n) ⟨z, 0, 0, false⟩ deeds)) by
          unfold runsD
          rw [List.getElem?_map, List.getElem?_range (by omega)]
          show some (runD (runTo _ _ (deeds.take deeds.length))) = _
          rw [List.take_length])
        obtain ⟨ta, rfl, hta⟩ := runD_inv dvl
        have e345 := ((Ext.refl e3.sub).alloc (.tup [V.int z, .int 0, .int 0, .bl false]) hp1).trans (e5.trans e6)
        exact ⟨c, rfl, rxs, SqL.of (e6.sub _ _ h7), _, atI_m1 (by rw [hrl]; exact hvl), ta, rfl, _, sqt_same e6.sub hta, _, rfl, hy rfl _ _ _ e345 (.int _)⟩
      · obtain rfl : ys = [V.int (endC n deeds x), V.int (endC n deeds y)] := DpAll.ints_inv (ns := [endC n deeds x, endC n deeds y]) da
        have b1 := hbnd x hx0 hx1
        have b2 := hbnd y hy0 hy1
        refine ⟨D2, [endC n deeds x, endC n deeds y], rfl, SqL.of eD, _, rfl, by decide, rfl, ?_⟩
        have hsum : [endC n deeds x, endC n deeds y].sum = endC n deeds x + endC n deeds y := by simp
        have sf : Same H H2 := e2.same.trans e3.same
        rw [hsum]
        have hq := q _ sf
        unfold lineV at hq
        by_cases ho : (endC n deeds x + endC n deeds y) % 2 = 1
        · rw [if_pos ho] at hq ⊢
          exact ⟨_, rfl, ⟨by decide, by decide⟩, hq⟩
        · rw [if_neg ho] at hq ⊢
          exact hq
    · rintro Q1 Q2 hQ ⟨v2, e2, v3, e3, hsz, k⟩
      exact ⟨v2, e2, v3, e3, hsz, fun p hp => hQ _ _ (k p hp)⟩
end
end Fv

namespace Fv
open PySem PySem.Spec PyProof.Rows L2
local macro_rules | `(tactic| walk_at "vc") => `(tactic| simp only [tRet, tRetN, tAndV, tOrV, tNotV, tAnd, tOr, tNot, tB, tTest, tOp, tUn, tCB, rTyp, tCons, tNil, tVar, tC, tChain, rI0, rI, rU, tSeq, tNext, tIfS, tIf, tAsg, gName, gCons, gNil, gTup, tDrop, tTup, tLst, tCall, tIsN, tNotN, tPar, tAug, tYes, rLenSq, rIsi, rReprD, L2.tSl, tPart, tNoPart, rSlL, rCat, rRep, gSub, tRevL, CPow, rEqD, rNeD, Int.reduceToNat, tBM, rAppend, wipe, StX.tStar, sDPut, tDGet, tDGet2, tDNewK, List.map_cons, List.map_nil, rEq, rNe, rIxT, rIxL, cxK, cxKn,
  List.getElem?_cons_zero, List.getElem?_cons_succ, List.set_cons_zero, List.set_cons_succ, List.append_nil, List.nil_append, List.cons_append, List.length_cons, List.length_nil, List.cons.injEq, Option.some.injEq, V.int.injEq, V.ty.injEq, V.bl.injEq, V.ref.injEq, V.str.injEq,
  and_true, true_and, and_assoc, exists_eq_left', exists_eq_left, exists_and_left, exists_eq', exists_eq, exists_eq_right, exists_eq_right', decide_eq_true_eq, Bool.not_eq_true', Bool.false_eq_true, if_true, if_false, reduceCtorEq, false_and, and_false, exists_false, decide_true, decide_false, Nat.zero_add, ite_true, ite_false, V.int.injEq, decide_eq_false_iff_not])

/-- all layers are places of the strip -/
def InP (n : Nat) (pls : List Pile) : Prop := ∀ (c a : Nat) (p : Pile) (x : Int) (f : Bool), pls[c]? = some p → p[a]? = some (x, f) → ∃ k : Nat, x = (k : Int) ∧ k < n
theorem inP_of_lies {n : Nat} {pls : List Pile} {x : Int} {r : Run} (h : InP n pls) (l : Lies pls x r) : ∃ k : Nat, x = (k : Int) ∧ k < n := by
  obtain ⟨c, a, p, l⟩ := l
  exact h c a p x _ l.hp l.hx
theorem inP_turn {n : Nat} {pls : List Pile} (h : InP n pls) : InP n (turnP pls) := fun c a p x f h1 h2 => by
  obtain ⟨r, l, _⟩ := back_turn x c a p f h1 h2
  exact inP_of_lies h l
theorem inP_fold {n : Nat} {pls : List Pile} {o : Bool} {l : Nat} (h1 : 1 ≤ l) (h2 : l < pls.length) (h : InP n pls) : InP n (foldP pls o l) := fun c a p x f k1 k2 => by
  obtain ⟨r, l, _⟩ := back_fold h1 h2 x c a p f k1 k2
  exact inP_of_lies h l
theorem inP_flat (n : Nat) : InP n (flatP n) := fun c a p x f h1 h2 => by
  have hc : c < n := by
    have := (List.getElem?_eq_some_iff.mp h1).1
    unfold flatP at this
    rw [List.length_map, List.length_range] at this; exact this
  unfold flatP at h1
  rw [List.getElem?_map, List.getElem?_range hc] at h1
  obtain rfl := (Option.some.inj h1).symm
  have ha : a = 0 := by have := (List.getElem?_eq_some_iff.mp h2).1; simp at this; exact this
  subst ha
  exact ⟨c, ((Prod.mk.inj (Option.some.inj h2)).1).symm, hc⟩
theorem putK_mem {κ : Type} [DecidableEq κ] {kvs : List (κ × V)} {k : κ} {y : V} {p : κ × V} (h : p ∈ putK kvs k y) : p.1 = k ∨ ∃ q ∈ kvs, q.1 = p.1 := by
  cases hv : valV kvs k with
  | none =>
    rw [putK_new y hv] at h
    rcases List.mem_append.mp h with h | h
    · exact .inr ⟨p, h, rfl⟩
    · rw [List.mem_singleton] at h; subst h; exact .inl rfl
  | some z =>
    unfold putK at h
    split at h
    · obtain ⟨q, hq, rfl⟩ := List.mem_map.mp h
      refine .inr ⟨q, hq, ?_⟩
      split <;> rfl
    · rcases List.mem_append.mp h with h | h
      · exact .inr ⟨p, h, rfl⟩
      · rw [List.mem_singleton] at h; subst h; exact .inl rfl
theorem putK_le {κ : Type} [DecidableEq κ] (c : List (κ × V)) (k : κ) (x : V) : (putK c k x).length ≤ c.length + 1 := by
  unfold putK
  split
  · rw [List.length_map]; omega
  · rw [List.length_append]; exact Nat.le_refl _
theorem len_filter_ne {κ : Type} [DecidableEq κ] (a : κ) : ∀ l : List κ, l.Nodup → l.length ≤ (l.filter fun k => decide (k ≠ a)).length + 1
  | [], _ => Nat.zero_le _
  | k :: l, nd => by
    have nd' := List.nodup_cons.mp nd
    by_cases e : k = a
    · subst e
      have h : (l.filter fun x => decide (x ≠ k)) = l := List.filter_eq_self.mpr fun x hx => decide_eq_true (fun z => nd'.1 (z ▸ hx))
      rw [List.filter_cons, if_neg (by simp), h]
      exact Nat.le_refl _
    · rw [List.filter_cons, if_pos (by simpa using e)]
      have := len_filter_ne a l nd'.2
      simp only [List.length_cons]
      omega
theorem keys_le : ∀ (n : Nat) (l : List Key), l.Nodup → (∀ k ∈ l, ∃ x : Nat, x < n ∧ k = (.inl (x : Int) : Key)) → l.length ≤ n
  | 0, [], _, _ => Nat.le_refl _
  | 0, k :: l, _, h => by obtain ⟨x, hx, _⟩ := h k List.mem_cons_self; exact absurd hx (Nat.not_lt_zero x)
  | n + 1, l, nd, h => by
    have h0 : l.length ≤ (l.filter fun k => decide (k ≠ (.inl (n : Int) : Key))).length + 1 := len_filter_ne (.inl (n : Int) : Key) l nd
    have h1 := keys_le n (l.filter fun k => decide (k ≠ (.inl (n : Int) : Key))) (nd.filter _) fun k hk => by
      obtain ⟨hk', hne⟩ := List.mem_filter.mp hk
      have hne' : k ≠ (.inl (n : Int) : Key) := of_decide_eq_true hne
      obtain ⟨x, hx, e⟩ := h k hk'
      refine ⟨x, ?_, e⟩
      by_cases z : x = n
      · subst z; exact absurd e hne'
      · omega
    exact Nat.le_trans h0 (Nat.add_le_add_right h1 1)
theorem nodup_put {κ : Type} [DecidableEq κ] {kvs : List (κ × V)} {k : κ} {y : V} (h : (kvs.map (·.1)).Nodup) : ((putK kvs k y).map (·.1)).Nodup := by
  cases hv : valV kvs k with
  | none =>
    rw [putK_new y hv, List.map_append, List.nodup_append]
    refine ⟨h, List.pairwise_singleton _ _, fun a ha b hb => ?_⟩
    rw [List.map_singleton, List.mem_singleton] at hb
    intro e0
    obtain ⟨q, hq, e⟩ := List.mem_map.mp ha
    have hs := valV_any k kvs
    rw [hv] at hs
    have : (kvs.any fun kv => decide (kv.1 = k)) = true := List.any_eq_true.mpr ⟨q, hq, decide_eq_true (e.trans (e0.trans hb))⟩
    rw [this] at hs; cases hs
  | some z =>
    have hs := valV_any k kvs
    rw [hv] at hs
    have e : (putK kvs k y).map (·.1) = kvs.map (·.1) := by
      unfold putK
      rw [if_pos (by rw [hs]; rfl), List.map_map]
      refine List.map_congr_left fun q _ => ?_
      show (if q.1 = k then (q.1, y) else q).1 = q.1
      split <;> rfl
    rw [e]; exact h
structure ColsOk (n : Nat) (pls : List Pile) (kvs : List (Key × V)) : Prop where
  nd : (kvs.map (·.1)).Nodup
  keys : ∀ p ∈ kvs, ∃ x : Nat, x < n ∧ p.1 = (.inl (x : Int) : Key)
  vals : ∀ (c a : Nat) (p : Pile) (x : Int) (f : Bool), pls[c]? = some p → p[a]? = some (x, f) → valV kvs (.inl x : Key) = some (.int (c : Int))
theorem ColsOk.size {n : Nat} {pls : List Pile} {kvs : List (Key × V)} (h : ColsOk n pls kvs) : kvs.length ≤ n := by
  have := keys_le n (kvs.map (·.1)) h.nd fun k hk => by
    obtain ⟨p, hp, rfl⟩ := List.mem_map.mp hk
    exact h.keys p hp
  rw [List.length_map] at this
  exact this
def sp__law_columns (K : PySem.W.Frag) : Sp := fun vs H Q _ => ∃ (v : V) (n : Nat) (pls : List Pile) (H0 : Hp), vs = [v] ∧ Same H0 H ∧ Tp H0 v (pilesD pls) ∧ Uniq pls ∧ InP n pls ∧ pls.length ≤ 12 ∧ Low 4096 pls ∧
  ∀ (H' : Hp) (a : Addr) (kvs : List (Key × V)), Same H H' → H a = none → H' a = some (.dK kvs) → ColsOk n pls kvs → Q (.ref a) H'
section
variable {P : Program} {w : World} {K : PySem.W.Frag} {mg : Str → Option Value} {base : Heap}
theorem good__law_columns (D : DefAt K mg "_law_columns" D__law_columns.st D__law_columns.ps) (T : Bi mg) : Good P w K mg base 1 "_law_columns" D__law_columns.ps (sp__law_columns K) := by
  refine Good.of (N := D__law_columns.N) D D__law_columns.sc (fun vs H Q E h => ?_) (fun f cdv A outer s H vs Q E hr h => ?_)
  · obtain ⟨v, n, pls, H0, rfl, _⟩ := h; rfl
  · obtain ⟨v, n, pls, H0, rfl, sH, hd, uq, hin, hpl, hlow, q⟩ := h
    obtain ⟨p, pxs, rfl, hpS, hpA⟩ := Tp.inv_lst hd
    have hpl2 : pxs.length = pls.length := by rw [TpAll.length hpA, List.length_map]
    have hpH := sH _ _ hpS
    have nd := D__law_columns.sc.nd; have hu := hu_of hr; refine ⟨_, (pss_cons (ps_set (i := 1) nd rfl (Or.inl rfl) pe_dnewK)       (pss_cons (ps_for PassesOwn.never (by rfl) (pi_range1 (by rfl) T.n_range (pa_cons (pe_callB call_len_seq (by rfl) T.n_len (by decide +kernel) (pa_cons (pv 0) pa_nil)) pa_nil)) (pg_name (i := 2) nd rfl (Or.inl rfl)) (pss_one (ps_for PassesOwn.never (by rfl) (pi_list (pe_ix ix_list (pv 0) (pv 2) (fun _ _ => rfl))) (pg_tup (by rfl) (pgs_cons (pg_name (i := 3) nd rfl (Or.inl rfl)) (pgs_cons (pg_name (i := 4) nd rfl (Or.inl rfl)) pgs_nil))) (pss_one (ps_dput hu (pv 1) (pv 3) (pv 2) (by rfl))))))       (pss_one (ps_ret (pv 1))))), ?_⟩
    rw [show L2.start D__law_columns.N [.ref p] = [some (.ref p), none, none, none, none] from rfl]
    walk_at "vc"
    intro F hF
    have sF : Same H (upd H F (.dK [])) := same_new hF
    refine ⟨_, rfl, p, rfl, pxs, .inl (SqL.of (sF _ _ hpH)), _, rfl, by omega, by omega, for_range (lo := 0) (n := pxs.length) (fun i σ H' => ∃ (x2 x3 x4 : Option V) (kvs : List (Key × V)), σ = [some (.ref p), some (.ref F), x2, x3, x4] ∧ Same H H' ∧ H' F = some (.dK kvs) ∧ kvs.length ≤ 4096 * i ∧ (kvs.map (·.1)).Nodup ∧ (∀ p ∈ kvs, ∃ x : Nat, x < n ∧ p.1 = (.inl (x : Int) : Key)) ∧
        ∀ (c a : Nat) (p : Pile) (x : Int) (f : Bool), c < i → pls[c]? = some p → p[a]? = some (x, f) → valV kvs (.inl x : Key) = some (.int (c : Int)))
      ⟨none, none, none, [], rfl, sF, upd_same, Nat.zero_le _, List.nodup_nil, fun p hp => (by cases hp), fun c _ _ _ _ hc => absurd hc (Nat.not_lt_zero c)⟩ ?_ ?_⟩
    · rintro i σ H' hi ⟨x2, x3, x4, kvs, rfl, s1, hk, hkl, hkd, hkk, hkv⟩
      have hil : i < pls.length := by omega
      have hpl3 : pls[i]? = some pls[i] := List.getElem?_eq_getElem hil
      obtain ⟨vb, hvb, dvb⟩ := TpAll.of hpA (show (pls.map pileD)[i]? = some (pileD pls[i]) by rw [List.getElem?_map, hpl3]; rfl)
      obtain ⟨b, bxs, rfl, hbS, hbA⟩ := Tp.inv_lst dvb
      have hbH := sH _ _ hbS
      have hbl : bxs.length = (pls[i]).length := by rw [TpAll.length hbA, List.length_map]
      have hb4 := hlow _ (List.getElem_mem hil)
      simp only [gName, List.set_cons_zero, List.set_cons_succ]
      refine ⟨_, rfl, _, rfl, p, pxs, _, _, rfl, rfl, SqL.of (s1 _ _ hpH), by rw [Int.zero_add]; exact atI_nat hvb, b, rfl, ⟨bxs, SqL.of (s1 _ _ hbH)⟩, for_list (K := K) (a := b) (xs := bxs) (fun j σ H2 => ∃ (x3 x4 : Option V) (kvs : List (Key × V)), σ = [some (.ref p), some (.ref F), some (.int (0 + (i : Int))), x3, x4] ∧ Same H H2 ∧ H2 F = some (.dK kvs) ∧ kvs.length ≤ 4096 * i + j ∧ (kvs.map (·.1)).Nodup ∧ (∀ p ∈ kvs, ∃ x : Nat, x < n ∧ p.1 = (.inl (x : Int) : Key)) ∧
          ∀ (c a : Nat) (p : Pile) (x : Int) (f : Bool), (c < i ∨ (c = i ∧ a < j)) → pls[c]? = some p → p[a]? = some (x, f) → valV kvs (.inl x : Key) = some (.int (c : Int)))
        ⟨x3, x4, kvs, rfl, s1, hk, hkl, hkd, hkk, fun c a p x f hc h1 h2 => hkv c a p x f (by omega) h1 h2⟩ (fun j σ H2 _ ⟨_, _, _, _, s2, _⟩ => SqL.of (s2 _ _ hbH)) ?_ ?_⟩
      · rintro j y σ H2 hj ⟨x3, x4, kvs, rfl, s2, hk, hkl, hkd, hkk, hkv⟩
        obtain ⟨dd, h1, h2⟩ := TpAll.at hbA hj
        have hjl : j < (pls[i]).length := by rw [← hbl]; exact (List.getElem?_eq_some_iff.mp hj).1
        have hqj : (pls[i])[j]? = some (pls[i])[j] := List.getElem?_eq_getElem hjl
        rw [List.getElem?_map, hqj] at h1
        obtain rfl := (Option.some.inj h1).symm
        obtain ⟨t, rfl, hT⟩ := tItD_inv h2
        have hTH := s2 _ _ (sH _ _ hT)
        generalize hq : (pls[i])[j] = qq at *
        obtain ⟨x, hx, hxn⟩ := hin i j _ qq.1 qq.2 hpl3 hqj
        refine ⟨t, _, rfl, SqT.of hTH, rfl, ?_⟩
        have e0 : ((0 : Int) + (i : Int)) = (i : Int) := Int.zero_add _
        rw [e0]
        refine ⟨_, _, rfl, _, _, rfl, rfl, _, rfl, _, rfl, _, rfl, F, _, rfl, DPut.k (k := (.inl qq.1 : Key)) hk (sz_lt (by omega)), _, _, _, rfl, fun b o e => by rw [upd_ne (ne_of_none e hF)]; exact s2 b o e, upd_same, Nat.le_trans (putK_le _ _ _) (by omega), nodup_put hkd, fun p hp => ?_, fun c a p' x' f hc h1 h2 => ?_⟩
        · rcases putK_mem hp with e | ⟨q', hq', e⟩
          · exact ⟨x, hxn, by rw [e, hx]⟩
          · rw [← e]; exact hkk q' hq'
        · rw [valV_put]
          by_cases e : x' = qq.1
          · subst e
            obtain ⟨rfl, _⟩ := uq _ c a i j p' _ f qq.2 h1 h2 hpl3 hqj
            rw [if_pos rfl]
          · rw [if_neg (fun z => e (Sum.inl.inj z))]
            refine hkv c a p' x' f ?_ h1 h2
            rcases hc with hc | ⟨rfl, hc⟩
            · exact .inl hc
            · by_cases e2 : a = j
              · subst e2
                obtain rfl := Option.some.inj (hpl3.symm.trans h1)
                exact absurd (congrArg Prod.fst (Option.some.inj (h2.symm.trans hqj))) e
              · exact .inr ⟨rfl, by omega⟩
      · rintro σ H2 ⟨x3, x4, kvs, rfl, s2, hk, hkl, hkd, hkk, hkv⟩
        refine ⟨_, _, _, kvs, rfl, s2, hk, by omega, hkd, hkk, fun c a p x f hc h1 h2 => hkv c a p x f ?_ h1 h2⟩
        by_cases e : c = i
        · subst e
          obtain rfl := Option.some.inj (hpl3.symm.trans h1)
          have := (List.getElem?_eq_some_iff.mp h2).1
          exact .inr ⟨rfl, by omega⟩
        · exact .inl (by omega)
    · rintro σ H' ⟨x2, x3, x4, kvs, rfl, s1, hk, hkl, hkd, hkk, hkv⟩
      refine ⟨_, rfl, q H' F kvs s1 hF hk ⟨hkd, hkk, fun c a p x f h1 h2 => hkv c a p x f (by have := (List.getElem?_eq_some_iff.mp h1).1; omega) h1 h2⟩⟩
end
end Fv

namespace Fv
open PySem PySem.Spec PyProof.Rows L2
local macro_rules | `(tactic| walk_at "vc") => `(tactic| simp only [tRet, tRetN, tAndV, tOrV, tNotV, tAnd, tOr, tNot, tB, tTest, tOp, tUn, tCB, rTyp, tCons, tNil, tVar, tC, tChain, rI0, rI, rU, tSeq, tNext, tIfS, tIf, tAsg, gName, gCons, gNil, gTup, tDrop, tTup, tLst, tCall, tIsN, tNotN, tPar, tAug, tYes, rLenSq, rIsi, rReprD, L2.tSl, tPart, tNoPart, rSlL, rCat, rRep, gSub, tRevL, CPow, rEqD, rNeD, Int.reduceToNat, tBM, rAppend, wipe, StX.tStar, sDPut, tDGet, tDGet2, tDNewK, List.map_cons, List.map_nil, rEq, rNe, rIxT, rIxL, cxK, cxKn,
  List.getElem?_cons_zero, List.getElem?_cons_succ, List.set_cons_zero, List.set_cons_succ, List.append_nil, List.nil_append, List.cons_append, List.length_cons, List.length_nil, List.cons.injEq, Option.some.injEq, V.int.injEq, V.ty.injEq, V.bl.injEq, V.ref.injEq, V.str.injEq,
  and_true, true_and, and_assoc, exists_eq_left', exists_eq_left, exists_and_left, exists_eq', exists_eq, exists_eq_right, exists_eq_right', decide_eq_true_eq, Bool.not_eq_true', Bool.false_eq_true, if_true, if_false, reduceCtorEq, false_and, and_false, exists_false, decide_true, decide_false, Nat.zero_add, ite_true, ite_false, V.int.injEq, decide_eq_false_iff_not])

def lineO (m : Int) : Option V := if m % 2 = 1 then some (.int ((m + 1) / 2)) else none
/-- what is told of pairs of places behind the lines ahead of L, and a keys and b of the next one in L's own turn -/
def PairsOk (rr : Nat → Run) (nk : List (Key × V)) (L : Int) (a b : Nat) (fk : List (List Key × V)) : Prop := ∀ (a' b' x y : Nat) (v w : V), nk[a']? = some ((.inl (x : Int) : Key), v) → nk[b']? = some ((.inl (y : Int) : Key), w) →
  valV fk [.inl (x : Int), .inl (y : Int)] = if ((rr x).c + (rr y).c) % 2 = 1 ∧ (((rr x).c + (rr y).c + 1) / 2 < L ∨ (((rr x).c + (rr y).c + 1) / 2 = L ∧ (a' < a ∨ (a' = a ∧ b' < b)))) then some (.int (((rr x).c + (rr y).c + 1) / 2)) else none
theorem if_iff {α : Type} {p q : Prop} [Decidable p] [Decidable q] {x y : α} (h : p ↔ q) : (if p then x else y) = if q then x else y := by
  by_cases hp : p
  · rw [if_pos hp, if_pos (h.mp hp)]
  · rw [if_neg hp, if_neg (fun z => hp (h.mpr z))]
theorem pairs_start {rr : Nat → Run} {nk : List (Key × V)} (h : ∀ (i x : Nat) (v : V), nk[i]? = some ((.inl (x : Int) : Key), v) → 0 ≤ (rr x).c) : PairsOk rr nk 1 0 0 [] := fun a' b' x y v w h1 h2 => by
  have k1 := h a' x v h1
  have k2 := h b' y w h2
  rw [valV_nil, if_neg (by omega)]
theorem pairs_row {rr : Nat → Run} {nk : List (Key × V)} {L : Int} {a : Nat} {fk : List (List Key × V)} (h : PairsOk rr nk L a nk.length fk) : PairsOk rr nk L (a + 1) 0 fk := fun a' b' x y v w h1 h2 => by
  have hb : b' < nk.length := (List.getElem?_eq_some_iff.mp h2).1
  rw [h a' b' x y v w h1 h2]
  exact if_iff (by omega)
theorem pairs_line {rr : Nat → Run} {nk : List (Key × V)} {L : Int} {fk : List (List Key × V)} (h : PairsOk rr nk L nk.length 0 fk) : PairsOk rr nk (L + 1) 0 0 fk := fun a' b' x y v w h1 h2 => by
  have ha : a' < nk.length := (List.getElem?_eq_some_iff.mp h1).1
  rw [h a' b' x y v w h1 h2]
  exact if_iff (by omega)
theorem pairs_skip {rr : Nat → Run} {nk : List (Key × V)} {L : Int} {a b x0 y0 : Nat} {v0 w0 : V} {fk : List (List Key × V)} (ha : nk[a]? = some ((.inl (x0 : Int) : Key), v0)) (hb : nk[b]? = some ((.inl (y0 : Int) : Key), w0))
    (hc : ¬ (((rr x0).c + (rr y0).c) % 2 = 1 ∧ ((rr x0).c + (rr y0).c + 1) / 2 = L)) (h : PairsOk rr nk L a b fk) : PairsOk rr nk L a (b + 1) fk := fun a' b' x y v w h1 h2 => by
  rw [h a' b' x y v w h1 h2]
  refine if_iff ?_
  by_cases e : a' = a ∧ b' = b
  · obtain ⟨rfl, rfl⟩ := e
    have e1 : x = x0 := by have := (Prod.mk.inj (Option.some.inj (h1.symm.trans ha))).1; exact Int.ofNat.inj (Sum.inl.inj this)
    have e2 : y = y0 := by have := (Prod.mk.inj (Option.some.inj (h2.symm.trans hb))).1; exact Int.ofNat.inj (Sum.inl.inj this)
    subst e1; subst e2
    omega
  · omega
theorem pairs_put {rr : Nat → Run} {nk : List (Key × V)} {L : Int} {a b x0 y0 : Nat} {v0 w0 : V} {fk : List (List Key × V)} (nd : (nk.map (·.1)).Nodup) (ha : nk[a]? = some ((.inl (x0 : Int) : Key), v0)) (hb : nk[b]? = some ((.inl (y0 : Int) : Key), w0))
    (hc : ((rr x0).c + (rr y0).c) % 2 = 1 ∧ ((rr x0).c + (rr y0).c + 1) / 2 = L) (h : PairsOk rr nk L a b fk) : PairsOk rr nk L a (b + 1) (putK fk [.inl (x0 : Int), .inl (y0 : Int)] (.int L)) := fun a' b' x y v w h1 h2 => by
  have uniq : ∀ (i j z : Nat) (v w : V), nk[i]? = some ((.inl (z : Int) : Key), v) → nk[j]? = some ((.inl (z : Int) : Key), w) → i = j := fun i j z v w g1 g2 => by
    have l1 : (nk.map (·.1))[i]? = some (.inl (z : Int) : Key) := by rw [List.getElem?_map, g1]; rfl
    have l2 : (nk.map (·.1))[j]? = some (.inl (z : Int) : Key) := by rw [List.getElem?_map, g2]; rfl
    have hi := (List.getElem?_eq_some_iff.mp l1).1
    exact (List.getElem?_inj hi nd).mp (l1.trans l2.symm)
  rw [valV_put]
  by_cases e : [(.inl (x : Int) : Key), .inl (y : Int)] = [.inl (x0 : Int), .inl (y0 : Int)]
  · rw [if_pos e]
    have e1 : x = x0 := by have := (List.cons.inj e).1; exact Int.ofNat.inj (Sum.inl.inj this)
    have e2 : y = y0 := by have := (List.cons.inj (List.cons.inj e).2).1; exact Int.ofNat.inj (Sum.inl.inj this)
    subst e1; subst e2
    have i1 := uniq a' a x v v0 h1 ha
    have i2 := uniq b' b y w w0 h2 hb
    rw [if_pos ⟨hc.1, .inr ⟨hc.2, .inr ⟨i1, by omega⟩⟩⟩, hc.2]
  · rw [if_neg e, h a' b' x y v w h1 h2]
    refine if_iff ?_
    have ne : ¬ (a' = a ∧ b' = b) := by
      rintro ⟨rfl, rfl⟩
      have e1 := (Prod.mk.inj (Option.some.inj (h1.symm.trans ha))).1
      have e2 := (Prod.mk.inj (Option.some.inj (h2.symm.trans hb))).1
      exact e (by rw [e1, e2])
    omega
def sp__law_lines (K : PySem.W.Frag) : Sp := fun vs H Q _ => ∃ (v : V) (n : Nat) (pls : List Pile) (rr : Nat → Run) (H0 : Hp), vs = [v] ∧ Same H0 H ∧ Tp H0 v (pilesD pls) ∧ Uniq pls ∧ InP n pls ∧ 1 ≤ pls.length ∧ pls.length ≤ 12 ∧ n ≤ 30 ∧ Low 2000 pls ∧ (∀ x, x < n → Lies pls (x : Int) (rr x)) ∧
  ∀ (H' : Hp) (a : Addr) (kvs : List (List Key × V)), Same H H' → H a = none → H' a = some (.dT kvs) → (∀ x y : Nat, x < n → y < n → valV kvs [.inl (x : Int), .inl (y : Int)] = lineO ((rr x).c + (rr y).c)) → Q (.ref a) H'
section
variable {P : Program} {w : World} {K : PySem.W.Frag} {mg : Str → Option Value} {base : Heap}
theorem good__law_lines (D : DefAt K mg "_law_lines" D__law_lines.st D__law_lines.ps) (T : Bi mg) (h__law_columns : Good P w K mg base 1 "_law_columns" D__law_columns.ps (sp__law_columns K)) (h__law_done : Good P w K mg base 2 "_law_done" D__law_done.ps (sp__law_done K)) :
    Good P w K mg base 3 "_law_lines" D__law_lines.ps (sp__law_lines K) := by
  refine Good.of (N := D__law_lines.N) D D__law_lines.sc (fun vs H Q E h => ?_) (fun f cdv A outer s H vs Q E hr h => ?_)
  · obtain ⟨v, n, pls, rr, H0, rfl, _⟩ := h; rfl
  · obtain ⟨v, n, pls, rr, H0, rfl, sH, hd, uq, hin, hp1, hpl, hn, hlow, hl, q⟩ := h
    obtain ⟨f__law_columns, fd__law_columns, m__law_columns, k__law_columns, b__law_columns, G__law_columns⟩ := h__law_columns; obtain ⟨f__law_done, fd__law_done, m__law_done, k__law_done, b__law_done, G__law_done⟩ := h__law_done
    obtain ⟨p, pxs, rfl, hpS, hpA⟩ := Tp.inv_lst hd
    have hpl2 : pxs.length = pls.length := by rw [TpAll.length hpA, List.length_map]
    have hpH := sH _ _ hpS
    have nd := D__law_lines.sc.nd; have hu := hu_of hr; refine ⟨_, (pss_cons (ps_set (i := 1) nd rfl (Or.inl rfl) pe_dnewT)       (pss_cons (ps_set (i := 2) nd rfl (Or.inl rfl) (pe_call G__law_columns (hr.mono (by decide)) (by rfl) m__law_columns k__law_columns b__law_columns .nil pass0 (pa_cons (pv 0) pa_nil)))       (pss_cons (ps_for PassesOwn.never (by rfl) (pi_range2 (by rfl) T.n_range (pa_cons pe_int (pa_cons (pe_callB call_len_seq (by rfl) T.n_len (by decide +kernel) (pa_cons (pv 0) pa_nil)) pa_nil))) (pg_name (i := 3) nd rfl (Or.inl rfl)) (pss_cons (ps_set (i := 4) nd rfl (Or.inl rfl) (pe_call G__law_columns (hr.mono (by decide)) (by rfl) m__law_columns k__law_columns b__law_columns .nil pass0 (pa_cons (pe_call G__law_done (hr.mono (by decide)) (by rfl) m__law_done k__law_done b__law_done .nil pass0 (pa_cons (pv 0) (pa_cons (pe_tup (pa_cons pe_str (pa_cons (pv 3) pa_nil))) pa_nil))) pa_nil)))       (pss_one (ps_lock (ps_for PassesOwn.never (by rfl) (pi_keys (pv 2)) (pg_name (i := 5) nd rfl (Or.inl rfl)) (pss_one (ps_for PassesOwn.never (by rfl) (pi_keys (pv 2)) (pg_name (i := 6) nd rfl (Or.inl rfl)) (pss_one (ps_if (PW.pt (pw_and (pt_cmpR op_ne (pe_dget hu (pv 2) (pv 5) (fun _ _ => rfl)) (pe_dget hu (pv 2) (pv 6) (fun _ _ => rfl)) (nomark _)) (pw_and1 (pt_cmpR op_eq (pe_dget hu (pv 4) (pv 5) (fun _ _ => rfl)) (pe_dget hu (pv 4) (pv 6) (fun _ _ => rfl)) (nomark _))))) (pss_one (ps_dput hu (pv 1) (pe_tup (pa_cons (pv 5) (pa_cons (pv 6) pa_nil))) (pv 3) (by rfl))) pss_nil)))))))))       (pss_one (ps_ret (pv 1)))))), ?_⟩
    rw [show L2.start D__law_lines.N [.ref p] = [some (.ref p), none, none, none, none, none, none] from rfl]
    walk_at "vc"
    intro F hF
    have sF : Same H (upd H F (.dT [])) := same_new hF
    have eF0 : (upd H F (.dT [])) F = some (.dT []) := upd_same
    refine ⟨.ref p, n, pls, H0, rfl, sH.trans sF, hd, uq, hin, hpl, fun q hq => Nat.le_trans (hlow q hq) (by decide), fun H1 d nk s1 nd1 hd1 ck => ?_⟩
    have nFd : F ≠ d := ne_of_none eF0 nd1
    have hHd : H d = none := sF.free nd1
    have hnk : nk.length ≤ n := ck.size
    have hrr : ∀ (x : Nat), x < n → 0 ≤ (rr x).c ∧ (rr x).c < pls.length ∧ valV nk (.inl (x : Int) : Key) = some (.int (rr x).c) := fun x hx => by
      obtain ⟨c, a, pl, l⟩ := hl x hx
      have := (List.getElem?_eq_some_iff.mp l.hp).1
      have e := l.hc
      exact ⟨by omega, by omega, by rw [ck.vals c a pl x _ l.hp l.hx, e]⟩
    have hix : ∀ (i : Nat) (k : Key) (v : V), nk[i]? = some (k, v) → ∃ x : Nat, x < n ∧ k = (.inl (x : Int) : Key) := fun i k v h => ck.keys (k, v) (List.mem_of_getElem? h)
    have sH1 : Same H H1 := sF.trans s1
    refine ⟨_, rfl, p, rfl, pxs, .inl (SqL.of (sH1 _ _ hpH)), _, _, rfl, ⟨by omega, by omega, by omega, by omega⟩, for_range (lo := 1) (fun i σ H' => ∃ (x3 x4 x5 x6 : Option V) (fk : List (List Key × V)), σ = [some (.ref p), some (.ref F), some (.ref d), x3, x4, x5, x6] ∧ Same H H' ∧ H' F = some (.dT fk) ∧ H' d = some (.dK nk) ∧ fk.length ≤ 900 * i ∧ PairsOk rr nk (1 + (i : Int)) 0 0 fk)
      ⟨none, none, none, none, [], rfl, sH1, s1 _ _ eF0, hd1, Nat.zero_le _, pairs_start fun i x v h => ?_⟩ ?_ ?_⟩
    · obtain ⟨x', hx', e⟩ := hix i _ v h
      obtain rfl : x = x' := Int.ofNat.inj (Sum.inl.inj e)
      exact (hrr x hx').1
    · rintro i σ H' hi ⟨x3, x4, x5, x6, fk, rfl, s2, hf, hdd, hfl, hpk⟩
      have hil : 1 + i < pls.length := by omega
      walk_at "vc"
      refine ⟨by decide, fun t ht => ?_⟩
      refine ⟨.ref p, .ref t, pls, .fold true (1 + (i : Int)), _, rfl, Same.refl _, Tp.mono (sH.trans (s2.trans (same_new ht))) hd, .tup upd_same (.cons (.str _) (TpAll.one (.int _))), hp1, (by show (decide (1 ≤ 1 + (i : Int)) && decide (1 + (i : Int) ≤ (pls.length : Int) - 1)) = true; rw [decide_eq_true (by omega), decide_eq_true (by omega)]; rfl), by omega, fun q hq => Nat.le_trans (hlow q hq) (by decide), fun A2 H2 v' e2 dv' => ?_⟩
      have dv2 : Tp A2 v' (pilesD (foldP pls true (1 + i))) := by
        have e : (1 + (i : Int)).toNat = 1 + i := by omega
        have this : Tp A2 v' (pilesD (foldP pls true (1 + (i : Int)).toNat)) := dv'
        rw [e] at this
        exact this
      refine ⟨v', n, foldP pls true (1 + i), A2, rfl, e2.sub, dv2, uniq_fold (by omega) hil uq, inP_fold (by omega) hil hin, by rw [foldP_length]; unfold widP; split <;> omega, fun q hq => Nat.le_trans (low_fold hlow true (1 + i) q hq) (by decide), fun H3 g lk s3 ng hg clk => ?_⟩
      have s23 : Same H' H3 := (same_new ht).trans (e2.same.trans s3)
      have hf3 := s23 _ _ hf
      have hd3 := s23 _ _ hdd
      have hf2 : H2 F = some (.dT fk) := e2.same _ _ (same_new ht _ _ hf)
      have hd2 : H2 d = some (.dK nk) := e2.same _ _ (same_new ht _ _ hdd)
      have nFg : F ≠ g := ne_of_none hf2 ng
      have ndg : d ≠ g := ne_of_none hd2 ng
      have hlat : ∀ x : Nat, x < n → valV lk (.inl (x : Int) : Key) = some (.int (carryR pls.length (hOf pls) ((1 + i : Nat) : Int) true (rr x)).c) := fun x hx => by
        obtain ⟨c, a, pl, l⟩ := lies_fold (o := true) (l := 1 + i) (by omega) hil (hl x hx)
        rw [clk.vals c a pl x _ l.hp l.hx, l.hc]
      have hmeet : ∀ x y : Nat, x < n → y < n → (((rr x).c ≠ (rr y).c ∧ (carryR pls.length (hOf pls) ((1 + i : Nat) : Int) true (rr x)).c = (carryR pls.length (hOf pls) ((1 + i : Nat) : Int) true (rr y)).c) ↔ (((rr x).c + (rr y).c) % 2 = 1 ∧ ((rr x).c + (rr y).c + 1) / 2 = 1 + (i : Int))) := fun x y hx hy => by
        obtain ⟨u0, u1, _⟩ := hrr x hx
        obtain ⟨v0, v1, _⟩ := hrr y hy
        constructor
        · rintro ⟨ne, e⟩
          have := (meet_line u0 u1 v0 v1 ne _).mp ((meet_iff ne).mp e)
          omega
        · rintro ⟨e1, e2⟩
          have ne : (rr x).c ≠ (rr y).c := by omega
          exact ⟨ne, (meet_iff ne).mpr ((meet_line u0 u1 v0 v1 ne _).mpr ⟨e1, by omega, by omega, by omega⟩)⟩
      refine ⟨d, .dK nk, hd3, trivial, fun od => ?_⟩
      refine ⟨_, rfl, d, od, rfl, .inl ⟨nk, upd_same, for_it walk_keys (fun a σ H4 => ∃ (x5 x6 : Option V) (fk : List (List Key × V)), σ = [some (.ref p), some (.ref F), some (.ref d), some (.int (1 + (i : Int))), some (.ref g), x5, x6] ∧ Same H H4 ∧ H4 F = some (.dT fk) ∧ H4 d = some (.frz od (.dK nk)) ∧ H4 g = some (.dK lk) ∧ fk.length ≤ 900 * i + 30 * a ∧ PairsOk rr nk (1 + (i : Int)) a 0 fk)
        ⟨x5, x6, fk, rfl, fun b o e => by rw [upd_ne (ne_of_none e hHd)]; exact s23 _ _ (s2 _ _ e), by rw [upd_ne nFd]; exact hf3, upd_same, by rw [upd_ne (Ne.symm ndg)]; exact hg, hfl, hpk⟩ (fun a σ H4 _ ⟨_, _, _, _, _, _, h, _⟩ => h) ?_ ?_⟩⟩
      · rintro a x σ H4 H4' ha ⟨x5, x6, fk, rfl, s4, f4, d4, g4, l4, p4⟩ ⟨rfl, k, v, hk, rfl⟩
        obtain ⟨x0, hx0, rfl⟩ := hix a k v hk
        simp only [gName, List.set_cons_zero, List.set_cons_succ]
        refine ⟨_, rfl, d, od, rfl, .inl ⟨nk, d4, for_it walk_keys (fun b σ H5 => ∃ (x6 : Option V) (fk : List (List Key × V)), σ = [some (.ref p), some (.ref F), some (.ref d), some (.int (1 + (i : Int))), some (.ref g), some (.int (x0 : Int)), x6] ∧ Same H H5 ∧ H5 F = some (.dT fk) ∧ H5 d = some (.frz od (.dK nk)) ∧ H5 g = some (.dK lk) ∧ fk.length ≤ 900 * i + 30 * a + b ∧ PairsOk rr nk (1 + (i : Int)) a b fk)
          ⟨x6, fk, rfl, s4, f4, d4, g4, l4, p4⟩ (fun b σ H5 _ ⟨_, _, _, _, _, h, _⟩ => h) ?_ ?_⟩⟩
        · rintro b y σ H5 H5' hb ⟨x6, fk, rfl, s5, f5, d5, g5, l5, p5⟩ ⟨rfl, k2, v2, hk2, rfl⟩
          obtain ⟨y0, hy0, rfl⟩ := hix b k2 v2 hk2
          walk_at "vc"
          obtain ⟨_, _, gx⟩ := hrr x0 hx0
          obtain ⟨_, _, gy⟩ := hrr y0 hy0
          have hm := hmeet x0 y0 hx0 hy0
          refine ⟨.int (rr x0).c, .inl ⟨nk, .inl (x0 : Int), .inr ⟨od, d5⟩, rfl, gx.symm⟩, .int (rr y0).c, .inl ⟨nk, .inl (y0 : Int), .inr ⟨od, d5⟩, rfl, gy.symm⟩, rfl, ?_⟩
          by_cases ne : (V.int (rr x0).c) = V.int (rr y0).c
          · rw [if_neg (fun z => z ne)]
            have hc : ¬ (((rr x0).c + (rr y0).c) % 2 = 1 ∧ ((rr x0).c + (rr y0).c + 1) / 2 = 1 + (i : Int)) := fun z => (hm.mpr z).1 (V.int.inj ne)
            exact ⟨s5, fk, f5, d5, g5, by omega, pairs_skip hk hk2 hc p5⟩
          · rw [if_pos ne]
            refine ⟨_, .inl ⟨lk, .inl (x0 : Int), .inl g5, rfl, (hlat x0 hx0).symm⟩, _, .inl ⟨lk, .inl (y0 : Int), .inl g5, rfl, (hlat y0 hy0).symm⟩, rfl, ?_⟩
            by_cases me : (V.int (carryR pls.length (hOf pls) ((1 + i : Nat) : Int) true (rr x0)).c) = V.int (carryR pls.length (hOf pls) ((1 + i : Nat) : Int) true (rr y0)).c
            · rw [if_pos me]
              have hc := hm.mp ⟨fun z => ne (by rw [z]), V.int.inj me⟩
              refine ⟨by decide, fun t2 ht2 => ?_⟩
              have nFt : F ≠ t2 := ne_of_none f5 ht2
              have ndt : d ≠ t2 := ne_of_none d5 ht2
              have ngt : g ≠ t2 := ne_of_none g5 ht2
              refine ⟨_, DPut.t (k := [.inl (x0 : Int), .inl (y0 : Int)]) (by rw [upd_ne nFt]; exact f5) upd_same (sz_lt (by omega)), ?_⟩
              refine ⟨fun b o e => by rw [upd_ne (ne_of_none e hF), upd_ne (ne_of_none (s5 _ _ e) ht2)]; exact s5 _ _ e, _, upd_same, by rw [upd_ne (Ne.symm nFd), upd_ne ndt]; exact d5, by rw [upd_ne (Ne.symm nFg), upd_ne ngt]; exact g5, Nat.le_trans (putK_le _ _ _) (by omega), pairs_put ck.nd hk hk2 hc p5⟩
            · rw [if_neg me]
              have hc : ¬ (((rr x0).c + (rr y0).c) % 2 = 1 ∧ ((rr x0).c + (rr y0).c + 1) / 2 = 1 + (i : Int)) := fun z => me (by rw [(hm.mpr z).2])
              exact ⟨s5, fk, f5, d5, g5, by omega, pairs_skip hk hk2 hc p5⟩
        · rintro σ H5 ⟨x6, fk, rfl, s5, f5, d5, g5, l5, p5⟩
          exact ⟨_, _, fk, rfl, s5, f5, d5, g5, by omega, pairs_row p5⟩
      · rintro σ H4 ⟨x5, x6, fk, rfl, s4, f4, d4, g4, l4, p4⟩
        refine ⟨d4, _, _, _, _, rfl, fun b o e => by rw [upd_ne (ne_of_none e hHd)]; exact s4 _ _ e, fk, by rw [upd_ne nFd]; exact f4, upd_same, by omega, ?_⟩
        have := pairs_line p4
        rw [show (1 + ((i + 1 : Nat) : Int)) = 1 + (i : Int) + 1 by omega]
        exact this
    · rintro σ H' ⟨x3, x4, x5, x6, fk, rfl, s2, hf, hdd, hfl, hpk⟩
      refine ⟨_, rfl, q H' F fk s2 hF hf fun x y hx hy => ?_⟩
      obtain ⟨u0, u1, u2⟩ := hrr x hx
      obtain ⟨v0, v1, v2⟩ := hrr y hy
      have ix : ∀ (x : Nat) (v : V), valV nk (.inl (x : Int) : Key) = some v → ∃ i w, nk[i]? = some ((.inl (x : Int) : Key), w) := fun x v h => by
        obtain ⟨pr, hpr, e⟩ := List.mem_map.mp (show (.inl (x : Int) : Key) ∈ nk.map (·.1) from by
          have hs := valV_any (.inl (x : Int) : Key) nk
          rw [h] at hs
          obtain ⟨pr, hpr, e⟩ := List.any_eq_true.mp hs
          exact List.mem_map.mpr ⟨pr, hpr, of_decide_eq_true e⟩)
        obtain ⟨i, hi⟩ := List.mem_iff_getElem?.mp hpr
        exact ⟨i, pr.2, by rw [hi, ← e]⟩
      obtain ⟨a', w1, g1⟩ := ix x _ u2
      obtain ⟨b', w2, g2⟩ := ix y _ v2
      rw [hpk a' b' x y w1 w2 g1 g2]
      unfold lineO
      refine if_iff ?_
      rw [hpl2]
      omega
end
end Fv

namespace Fv
open PySem PySem.Spec PyProof.Rows L2
local macro_rules | `(tactic| walk_at "vc") => `(tactic| simp only [tRet, tRetN, tAndV, tOrV, tNotV, tAnd, tOr, tNot, tB, tTest, tOp, tUn, tCB, rTyp, tCons, tNil, tVar, tC, tChain, rI0, rI, rU, tSeq, tNext, tIfS, tIf, tAsg, gName, gCons, gNil, gTup, tDrop, tTup, tLst, tCall, tIsN, tNotN, tPar, tAug, tYes, rLenSq, rIsi, rReprD, L2.tSl, tPart, tNoPart, rSlL, rCat, rRep, gSub, tRevL, CPow, rEqD, rNeD, Int.reduceToNat, tBM, rAppend, wipe, StX.tStar, sDPut, tDGet, tDGet2, tDNewK, List.map_cons, List.map_nil, rEq, rNe, rIxT, rIxL, cxK, cxKn,
  List.getElem?_cons_zero, List.getElem?_cons_succ, List.set_cons_zero, List.set_cons_succ, List.append_nil, List.nil_append, List.cons_append, List.length_cons, List.length_nil, List.cons.injEq, Option.some.injEq, V.int.injEq, V.ty.injEq, V.bl.injEq, V.ref.injEq, V.str.injEq,
  and_true, true_and, and_assoc, exists_eq_left', exists_eq_left, exists_and_left, exists_eq', exists_eq, exists_eq_right, exists_eq_right', decide_eq_true_eq, Bool.not_eq_true', Bool.false_eq_true, if_true, if_false, reduceCtorEq, false_and, and_false, exists_false, decide_true, decide_false, Nat.zero_add, ite_true, ite_false, V.int.injEq, decide_eq_false_iff_not])

theorem lies_step {pls : List Pile} {x : Int} {r : Run} {w : Int} {h : Ht} {d : Deed} (hh : hOf pls = h) (hw : (pls.length : Int) = w) (h1 : 1 ≤ pls.length) (ok : okDeed w (some d) = true) (l : Lies pls x r) (u : Uniq pls) :
    Lies (doneP pls d) x (carryR w h (lineD d) (dOver d) r) ∧ Uniq (doneP pls d) := by
  subst hh; subst hw
  cases d with
  | turn => exact ⟨lies_turn l, uniq_turn u⟩
  | fold o c =>
    have hb : 1 ≤ c ∧ c ≤ (pls.length : Int) - 1 := by
      have h1 : (decide (1 ≤ c) && decide (c ≤ (pls.length : Int) - 1)) = true := ok
      simpa using h1
    obtain ⟨k, rfl⟩ : ∃ k : Nat, c = (k : Int) := ⟨c.toNat, by omega⟩
    exact ⟨lies_fold (by omega) (by omega) l, uniq_fold (o := o) (by omega : 1 ≤ k) (by omega : k < pls.length) u⟩
theorem lies_all {n x : Nat} (hx : x < n) {ds : List Deed} (ok : okRow (st0 n) ds) : ∀ i, i ≤ ds.length → Lies (pilesAt n (ds.take i)) x (runTo (st0 n) ⟨x, 0, 0, false⟩ (ds.take i)) ∧ Uniq (pilesAt n (ds.take i))
  | 0, _ => ⟨lies_flat hx, uniq_flat n⟩
  | i + 1, h => by
    obtain ⟨l, u⟩ := lies_all hx ok i (by omega)
    have hdi : ds[i]? = some ds[i] := List.getElem?_eq_getElem (by omega)
    have hP := pilesAt_ok (by omega : 1 ≤ n) (okRow_take ds (st0 n) i ok)
    rw [pilesAt_more hdi, runTo_more hdi]
    exact lies_step hP.1 hP.2.1 hP.2.2.1 (okRow_at ds (st0 n) ok hdi) l u
theorem inP_all {n : Nat} (hn : 1 ≤ n) {ds : List Deed} (ok : okRow (st0 n) ds) : ∀ i, i ≤ ds.length → InP n (pilesAt n (ds.take i))
  | 0, _ => inP_flat n
  | i + 1, h => by
    have fu := inP_all hn ok i (by omega)
    have hdi : ds[i]? = some ds[i] := List.getElem?_eq_getElem (by omega)
    have hP := pilesAt_ok hn (okRow_take ds (st0 n) i ok)
    have hd := okRow_at ds (st0 n) ok hdi
    rw [pilesAt_more hdi]
    cases hdd : ds[i] with
    | turn => exact inP_turn fu
    | fold o c =>
      rw [hdd] at hd
      have hb : 1 ≤ c ∧ c ≤ (stAt (st0 n) (ds.take i)).1 - 1 := by
        have h1 : (decide (1 ≤ c) && decide (c ≤ (stAt (st0 n) (ds.take i)).1 - 1)) = true := hd
        simpa using h1
      have := hP.2.1
      exact inP_fold (o := o) (by omega : 1 ≤ c.toNat) (by omega : c.toNat < (pilesAt n (ds.take i)).length) fu
def lineP (m : Int) : PyData := if m % 2 = 1 then .int ((m + 1) / 2) else .none
theorem dp_line (K : PySem.W.Frag) (H : Hp) (m : Int) : Dp K H (lineV m) (lineP m) := by
  unfold lineV lineP
  split
  · exact .int _
  · exact .non
theorem line_get (m : Int) : (lineO m).getD .non = lineV m := by
  unfold lineO lineV
  split <;> rfl
theorem shD_line {m : Int} (h0 : 0 ≤ m) (h1 : m ≤ 1000) : ShD 0 50 (lineP m) := by
  unfold lineP
  split
  · exact shD_int (by omega)
  · exact ⟨by decide +kernel, rfl, rfl, by simp [PyData.depth], by simp [PyData.weight]⟩
section
variable {P : Program} {w : World} {K : PySem.W.Frag} {mg : Str → Option Value} {base : Heap}
theorem run_law (D : DefAt K mg "law" D_law.st D_law.ps) (T : Bi mg)
    (h__law_reel : Good P w K mg base 1 "_law_reel" D__law_reel.ps (sp__law_reel K)) (h__law_draw : Good P w K mg base 1 "_law_draw" D__law_draw.ps (sp__law_draw K)) (h__law_row : Good P w K mg base 3 "_law_row" D__law_row.ps (sp__law_row K))
    (h__law_piles : Good P w K mg base 3 "_law_piles" D__law_piles.ps (sp__law_piles K)) (h__law_dressed : Good P w K mg base 3 "_law_dressed" D__law_dressed.ps (sp_dressed2 K))
    (h__law_lines : Good P w K mg base 3 "_law_lines" D__law_lines.ps (sp__law_lines K))
    (h_line_to : Good P w K mg base 6 "line_to" D_line_to.ps (sp_line_to K))
    {A : Around} (hA : A.guards = some []) {outer : List Env} {s : Shared} {H : Hp} {a : Addr} {ns : List Int} {fa : Addr} (hfa : mg "law" = some (.ref fa)) (room : Room 8 A) (en : Env0 P w K mg base A outer s H)
    (hS : SqL K H a (ns.map V.int)) (hn : ns.length ≤ 63) : codeAny (model P w) A (.call (.ref fa) ⟨[.ref a], []⟩) (CR CX0 outer P w H s (fun v _ => v = .bl true) E0) s := by
  obtain ⟨f, fd, hm, F, hb⟩ := D
  obtain rfl : f = fa := by rw [hm] at hfa; injection hfa with e; injection e
  refine run_def (N := D_law.N) (ps := D_law.ps) (vs := [.ref a]) (us := [.ref a]) F D_law.sc room en (hb s [.ref a] (run_def.e_kin en) rfl) (.cons rfl .nil) rfl fun cdv hr => ?_
  have hgd : (A.deeper (envOfC "law" (defScope D_law.st) s.heap.objs.size f cdv)).guards = some [] := hA
  have hu66 : (A.deeper (envOfC "law" (defScope D_law.st) s.heap.objs.size f cdv)).units + 66 < cLine := by have := hr.un; omega
  obtain ⟨f__law_reel, fd__law_reel, m__law_reel, k__law_reel, b__law_reel, G__law_reel⟩ := h__law_reel; obtain ⟨f__law_draw, fd__law_draw, m__law_draw, k__law_draw, b__law_draw, G__law_draw⟩ := h__law_draw; obtain ⟨f__law_row, fd__law_row, m__law_row, k__law_row, b__law_row, G__law_row⟩ := h__law_row; obtain ⟨f__law_piles, fd__law_piles, m__law_piles, k__law_piles, b__law_piles, G__law_piles⟩ := h__law_piles; obtain ⟨f__law_dressed, fd__law_dressed, m__law_dressed, k__law_dressed, b__law_dressed, G__law_dressed⟩ := h__law_dressed; obtain ⟨f__law_lines, fd__law_lines, m__law_lines, k__law_lines, b__law_lines, G__law_lines⟩ := h__law_lines; obtain ⟨f_line_to, fd_line_to, m_line_to, k_line_to, b_line_to, G_line_to⟩ := h_line_to
  have nd := D_law.sc.nd; have hu := hu_of hr; refine ⟨_, (pss_cons (ps_set (i := 1) nd rfl (Or.inl rfl) (pe_call G__law_reel (hr.mono (by decide)) (by rfl) m__law_reel k__law_reel b__law_reel .nil pass0 (pa_cons (pv 0) pa_nil)))       (pss_cons (ps_for PassesOwn.never (by rfl) (pi_range1 (by rfl) T.n_range (pa_cons (pe_op op_add pe_int (pe_callB (call_min2 rfl) (by rfl) T.n_min (by decide +kernel) (pa_cons (pe_callB call_len_seq (by rfl) T.n_len (by decide +kernel) (pa_cons (pv 0) pa_nil)) (pa_cons pe_int pa_nil)))) pa_nil)) (pg_name (i := 2) nd rfl (Or.inl rfl)) (pss_cons (ps_set (i := 3) nd rfl (Or.inr rfl) (pe_op op_add pe_int (pe_call G__law_draw (hr.mono (by decide)) (by rfl) m__law_draw k__law_draw b__law_draw .nil pass0 (pa_cons (pv 1) (pa_cons pe_int pa_nil)))))       (pss_cons (ps_set (i := 4) nd rfl (Or.inl rfl) (pe_call G__law_row (hr.mono (by decide)) (by rfl) m__law_row k__law_row b__law_row .nil pass0 (pa_cons (pv 1) (pa_cons (pv 3) (pa_cons pe_int pa_nil)))))       (pss_cons (ps_set (i := 5) nd rfl (Or.inr rfl) (pe_call G__law_lines (hr.mono (by decide)) (by rfl) m__law_lines k__law_lines b__law_lines .nil pass0 (pa_cons (pe_ix ix_list (pe_call G__law_piles (hr.mono (by decide)) (by rfl) m__law_piles k__law_piles b__law_piles .nil pass0 (pa_cons (pv 3) (pa_cons (pv 4) pa_nil))) (pe_un un_neg pe_int) (fun _ _ => rfl)) pa_nil)))       (pss_cons (ps_set (i := 6) nd rfl (Or.inr rfl) (pe_call G__law_dressed (hr.mono (by decide)) (by rfl) m__law_dressed k__law_dressed b__law_dressed .nil pass0 (pa_cons (pv 1) (pa_cons (pe_callTy call_tuple_of (by rfl) T.n_tuple (by decide +kernel) (pa_cons (pv 4) pa_nil)) pa_nil))))       (pss_cons (ps_set (i := 7) nd rfl (Or.inl rfl) (pe_callB (call_reprD hgd hu66) (by rfl) T.n_repr (by decide +kernel) (pa_cons (pv 6) pa_nil)))       (pss_one (ps_for PassesOwn.never (by rfl) (pi_range1 (by rfl) T.n_range (pa_cons (pv 3) pa_nil)) (pg_name (i := 8) nd rfl (Or.inr rfl)) (pss_cons (ps_setLc (i := 9) (own := [("other", 10)]) (g := (gName 10)) (tt := tYes) (te := (tCall (sp_line_to K) [] E0 (tCons (tVar 3) (tCons (tVar 6) (tCons (tVar 8) (tCons (tVar 10) tNil)))))) (by rfl) nd rfl rfl (sw_true rfl rfl rfl (by decide +kernel)) (pi_range1 (by rfl) T.n_range (pa_cons (pv 3) pa_nil)) (blkOk_by (own := [("other", 10)]) (N := D_law.N) (sc := defScope D_law.st) (by decide +kernel)) (fun _ _ _ _ _ => (pg_name (i := 10) nd rfl (Or.inl rfl))) (fun _ _ _ _ _ => pts_nil) (fun _ _ _ _ _ => (pe_call G_line_to (hr.mono (by decide)) (by rfl) m_line_to k_line_to b_line_to .nil pass0 (pa_cons (pv 3) (pa_cons (pv 6) (pa_cons (pv 8) (pa_cons (pv 10) pa_nil)))))))       (pss_one (ps_if (PW.pt (pw_or (pt_cmpR op_ne (pe_callB (call_reprD hgd hu66) (by rfl) T.n_repr (by decide +kernel) (pa_cons (pv 9) pa_nil)) (pe_callB (call_reprD hgd hu66) (by rfl) T.n_repr (by decide +kernel) (pa_cons (pe_lc (own := [("other", 10)]) (g := (gName 10)) (tt := tYes) (te := (tDGet1 (tVar 5) (tTup (tCons (tVar 8) (tCons (tVar 10) tNil))))) (by rfl) nd (pi_range1 (by rfl) T.n_range (pa_cons (pv 3) pa_nil)) (blkOk_by (own := [("other", 10)]) (N := D_law.N) (sc := defScope D_law.st) (by decide +kernel)) (fun _ _ _ _ _ => (pg_name (i := 10) nd rfl (Or.inl rfl))) (fun _ _ _ _ _ => pts_nil) (fun _ _ _ _ _ => (pe_dget1 hu (pv 5) (pe_tup (pa_cons (pv 8) (pa_cons (pv 10) pa_nil))) ⟨by rfl, by rfl, by rfl, by rfl⟩))) pa_nil)) (nomark _)) (pw_or1 (pt_cmpR op_ne (pe_callB (call_reprD hgd hu66) (by rfl) T.n_repr (by decide +kernel) (pa_cons (pv 6) pa_nil)) (pv 7) (nomark _))))) (pss_one (ps_ret pe_bl)) pss_nil)))))))))))       (pss_one (ps_ret pe_bl)))), ?_⟩
  rw [show L2.start D_law.N [.ref a] = [some (.ref a), none, none, none, none, none, none, none, none, none, none] from rfl]
  walk_at "vc"
  refine ⟨a, ns, H, rfl, Same.refl _, hS, hn, fun A0 H1 r e0 nHr hR => ?_⟩
  refine ⟨_, rfl, a, rfl, _, .inl (e0.same.seq hS), _, _, rfl, _, _, rfl, rfl, _, rfl, by rw [List.length_map]; split <;> omega, by rw [List.length_map]; split <;> omega, for_range (lo := 0) (fun i σ H' => ∃ (x2 x3 x4 x5 x6 x7 x8 x9 : Option V) (A' : Hp),
    σ = [some (.ref a), some (.ref r), x2, x3, x4, x5, x6, x7, x8, x9, none] ∧ RIn r A' H') ⟨none, none, none, none, none, none, none, none, A0, rfl, hR⟩ ?_ ?_⟩
  · rintro i σ H2 hi ⟨x2, x3, x4, x5, x6, x7, x8, x9, A', rfl, hR'⟩
    walk_at "vc"
    refine ⟨r, 10, A', rfl, hR', by decide, by decide, fun A1 H3 v e1 v0 v1 => ⟨v, rfl, r, 1 + v, 6, A1, rfl, e1.fin, by omega, by omega, by decide, fun A2 H4 rv deeds e2 hrow hdl hok => ?_⟩⟩
    obtain ⟨n, hvn⟩ : ∃ n : Nat, 1 + v = (n : Int) := ⟨(1 + v).toNat, by omega⟩
    rw [hvn] at hok ⊢
    have hn1 : 1 ≤ n := by omega
    have hn12 : n ≤ 10 := by omega
    refine ⟨n, rv, deeds, A2, rfl, e2.sub, hrow, hn1, by omega, by omega, hok, fun A3 H5 pv e3 hpl => ?_⟩
    obtain ⟨sp, sxs, rfl, hsS, hsA⟩ := Tp.inv_lst hpl
    obtain ⟨ra, rxs, rfl, hrS, hrA⟩ := Tp.inv_lst hrow
    have hsl : sxs.length = deeds.length + 1 := by rw [TpAll.length hsA]; unfold statesD; rw [List.length_map, List.length_range]
    have hq2 : (statesD n deeds deeds.length)[deeds.length]? = some (pilesD (pilesAt n deeds)) := by
      unfold statesD
      rw [List.getElem?_map, List.getElem?_range (by omega)]
      show some (pilesD (pilesAt n (deeds.take deeds.length))) = _
      rw [List.take_length]
    obtain ⟨vl, hvl, dvl⟩ := TpAll.of hsA hq2
    have hPo := pilesAt_ok hn1 hok
    have hwn := (stAt_w deeds (st0 n) (by show (1 : Int) ≤ n; omega) hok).2
    have hwn2 : (stAt (st0 n) deeds).1 ≤ (n : Int) := hwn
    have hLl : ∀ x : Nat, x < n → Lies (pilesAt n deeds) x (runTo (st0 n) ⟨x, 0, 0, false⟩ deeds) ∧ Uniq (pilesAt n deeds) := fun x hx => by
      have := lies_all hx hok deeds.length (Nat.le_refl _)
      rw [List.take_length] at this; exact this
    have hIn : InP n (pilesAt n deeds) := by
      have := inP_all hn1 hok deeds.length (Nat.le_refl _)
      rw [List.take_length] at this; exact this
    refine ⟨sp, rfl, sxs, SqL.of (e3.sub _ _ hsS), vl, atI_m1 (by rw [hsl]; exact hvl), vl, n, pilesAt n deeds, fun x => runTo (st0 n) ⟨x, 0, 0, false⟩ deeds, A3, rfl, e3.sub, dvl, (hLl 0 (by omega)).2, hIn, hPo.2.2.1, by have := hPo.2.1; omega, by omega, fun p hp => ?_, fun x hx => (hLl x hx).1, fun H9 dq kvs s9 nq hq hkv => ?_⟩
    · have h3 := hPo.2.2.2 p hp
      have h5 : 2 ^ deeds.length ≤ 2 ^ 6 := Nat.pow_le_pow_right (by decide) (by omega)
      have h6 : (2 : Nat) ^ 6 = 64 := by decide
      omega
    refine ⟨ra, rfl, rxs, .inl ⟨SqL.of (s9 _ _ (e3.sub _ _ (e3.grow _ _ hrS))), fun l hl => ?_⟩⟩
    have e24 := ((e2.ext e3).ext (Ext.of e3.sub s9)).alloc (.tup rxs) hl
    have hA3l : A3 l = none := e3.sub.free (s9.free hl)
    refine ⟨r, .ref l, deeds, _, rfl, e24.fin, .tup upd_same (TpAll.mono (e3.grow.trans (same_new hA3l)) hrA), by omega, fun A5 H6 hv es e5 hra hel hrel => ?_⟩
    obtain ⟨ha, hxs, rfl, hes, hcase⟩ := hra
    have hdeed : ∀ (j : Nat) (e : PyData), es[j]? = some e → ∃ d, deeds[j]? = some d ∧ DeedAs d e := fun j e he => by
      have hj : j < deeds.length := by rw [← hel]; exact (List.getElem?_eq_some_iff.mp he).1
      exact ⟨deeds[j], List.getElem?_eq_getElem hj, hrel j _ e (List.getElem?_eq_getElem hj) he⟩
    have hmap : es.map deedOf = deeds.map some := by
      refine List.ext_getElem (by rw [List.length_map, List.length_map, hel]) fun j h1 h2 => ?_
      rw [List.length_map] at h1 h2
      obtain ⟨d, hd1, hd2⟩ := hdeed j es[j] (List.getElem?_eq_getElem h1)
      rw [List.getElem_map, List.getElem_map, seqOf_deedAs hd2]
      rw [List.getElem?_eq_getElem h2] at hd1
      exact hd1.symm
    have hsh : ∀ e ∈ es, ShD 2 500 e := fun e he => by
      obtain ⟨j, hj⟩ := List.mem_iff_getElem?.mp he
      obtain ⟨d, hd1, hd2⟩ := hdeed j e hj
      have h1 := okRow_at deeds (st0 n) hok hd1
      have h2 := (stAt_w (deeds.take j) (st0 n) (by show (1 : Int) ≤ n; omega) (okRow_take deeds (st0 n) j hok)).2
      have h3 : (stAt (st0 n) (deeds.take j)).1 ≤ (n : Int) := h2
      exact shD_deed (by omega) h1 hd2
    obtain ⟨hd, hseq, hDp, hTy, hShd, hlist⟩ : ∃ hd, seqOf hd = some es ∧ (∀ Hc, Same H6 Hc → Dp K Hc (.ref ha) hd) ∧ (∀ Hc, Same H6 Hc → TyX K Hc (.ref ha) (.type (tyD hd))) ∧ ShD 4 (501 * es.length + 5) hd ∧
        (decide (tyD hd = "list") = true → hd = .list es ∧ H6 ha = some (.lst hxs) ∧ A5 ha = none ∧ ha ≠ r) := by
      rcases hcase with ⟨c1, c2, c3, c4⟩ | c4
      · exact ⟨.list es, rfl, fun Hc sc => .lst (SqL.of (sc _ _ c4)) (DpAll.mono (e5.sub.trans sc) (TpAll.dp K hes)), fun Hc sc => .base (.lst (sc _ _ c4)), shD_list hsh, fun _ => ⟨rfl, c4, c2, c3⟩⟩
      · exact ⟨.tuple es, rfl, fun Hc sc => .tup (SqT.of (sc _ _ (e5.sub _ _ c4))) (DpAll.mono (e5.sub.trans sc) (TpAll.dp K hes)), fun Hc sc => .base (.tup (sc _ _ (e5.sub _ _ c4))), shD_tuple hsh, fun z => absurd (show decide ("tuple" = "list") = true from z) (by decide)⟩
    have hRow : RowD n hd deeds := ⟨by omega, by omega, ⟨es, hseq, hmap⟩, by omega, hok⟩
    have hRow0 : RowD n (.list (deeds.map dD)) deeds := ⟨by omega, by omega, ⟨_, rfl, by rw [List.map_map]; exact List.map_congr_left fun d _ => deedOf_dD d⟩, by omega, hok⟩
    have hfit := hShd.fits (by omega)
    have hr5 : H5 r ≠ none := (e2.ext e3).fin.live
    have hdr : dq ≠ r := fun z => hr5 (z ▸ nq)
    have hdq : H6 dq = some (.dT kvs) := e5.same dq _ hdr (same_new hl _ _ hq)
    have hEr : ∀ x : Nat, x < n → 0 ≤ endC n deeds x ∧ endC n deeds x ≤ n := fun x hx => by
      have := runTo_range deeds (st0 n) ⟨(x : Int), 0, 0, false⟩ (by show (1 : Int) ≤ n; omega) hok (by show (0 : Int) ≤ x; omega) (by show (x : Int) < n; omega)
      exact ⟨this.1, by have := this.2; show (runTo _ _ _).c ≤ _; omega⟩
    let dts : Nat → List PyData := fun x => (List.range n).map fun (y : Nat) => lineP (endC n deeds x + endC n deeds y)
    have hSd : ∀ x, x < n → ShD 2 1000 (.list (dts x)) := fun x hx => by
      refine shD_mono (shD_list (D := 0) (W := 50) fun e he => ?_) (Nat.le_refl _) (by show (50 + 1) * ((List.range n).map _).length + 5 ≤ _; rw [List.length_map, List.length_range]; omega)
      obtain ⟨y, hy, rfl⟩ := List.mem_map.mp he
      have h1 := hEr x hx
      have h2 := hEr y (List.mem_range.mp hy)
      exact shD_line (by omega) (by omega)
    refine ⟨hd, hDp H6 (Same.refl _), hShd.shows, hShd.nodict, Nat.le_trans hShd.deep (by decide), hfit, ?_⟩
    refine ⟨_, rfl, _, rfl, by omega, by omega, for_range (lo := 0) (n := n) (fun j σ Hc => ∃ (y8 y9 : Option V), σ = [some (.ref a), some (.ref r), some (.int (0 + (i : Int))), some (.int (n : Int)), some (.ref ra), some (.ref dq), some (.ref ha), some (.str hd.shown), y8, y9, none] ∧ Same H6 Hc)
      ⟨x8, x9, rfl, Same.refl _⟩ ?_ ?_⟩
    · rintro j σ Hc hj ⟨y8, y9, rfl, sc⟩
      have hjn : j < n := by omega
      have hL := hSd j hjn
      simp only [gName, tSeq, tAsg, List.set_cons_zero, List.set_cons_succ]
      rw [show (0 + (j : Int)) = (j : Int) by omega]
      refine lcR (K := K) (keep := fun _ => true) (dat := fun (y : Nat) => lineP (endC n deeds j + endC n deeds y)) ⟨_, rfl, n, Hc, rfl, by omega, Same.refl _, fun y hy' A6 H7 e6 Qy Qn hy hn => ?_, fun D A6 H7 ys nD e6 n0 eD da => ?_⟩ ?_
      · walk_at "vc"
        exact ⟨(n : Int), .ref ha, hd, deeds, (j : Int), (y : Int), A6, rfl, e6.sub, hDp _ (sc.trans e6.grow), hRow, by omega, by omega, by omega, by omega, fun H' s' => hy rfl _ _ _ (Ext.of e6.sub s') (dp_line K _ _)⟩
      · rw [filt] at da
        have s67 : Same H6 H7 := sc.trans e6.same
        walk_at "vc"
        refine ⟨.list (dts j), .lst (SqL.of eD) (DpAll.mono e6.sub da), hL.shows, hL.nodict, Nat.le_trans hL.deep (by decide), hL.fits (by decide), ?_⟩
        refine lcR (K := K) (keep := fun _ => true) (dat := fun (y : Nat) => lineP (endC n deeds j + endC n deeds y)) ⟨_, rfl, n, H7, rfl, by omega, Same.refl _, fun y hy' A7 H8 e7 Qy Qn hy hn => ?_, fun D2 A7 H8 ys2 nD2 e7 n02 eD2 da2 => ?_⟩ ?_
        · have hd8 : H8 dq = some (.dT kvs) := e7.same _ _ (s67 _ _ hdq)
          have hv : valV kvs [.inl (j : Int), .inl (y : Int)] = lineO (endC n deeds j + endC n deeds y) := hkv j y hjn hy'
          walk_at "vc"
          refine ⟨_, rfl, dq, rfl, .inr ⟨kvs, .inl hd8⟩, _, rfl, _, rfl, (by show 2 ≤ sizeLine; decide), fun t ht => ⟨_, DGet.t (k := [.inl (j : Int), .inl (y : Int)]) (by rw [upd_ne (ne_of_none hd8 ht)]; exact hd8) upd_same, ?_⟩⟩
          rw [hv, line_get]
          exact hy rfl _ _ _ ((Ext.refl e7.sub).alloc _ ht) (dp_line K _ _)
        · rw [filt] at da2
          refine ⟨.list (dts j), .lst (SqL.of eD2) (DpAll.mono e7.sub da2), hL.shows, hL.nodict, Nat.le_trans hL.deep (by decide), hL.fits (by decide), rfl, ?_⟩
          rw [if_neg (fun z => z rfl)]
          have s68 := s67.trans e7.same
          refine ⟨hd, hDp _ s68, hShd.shows, hShd.nodict, Nat.le_trans hShd.deep (by decide), hfit, rfl, ?_⟩
          rw [if_neg (fun z => z rfl)]
          exact s68
        · rintro Q1 Q2 hQ ⟨v, ev, k⟩
          exact ⟨v, ev, hQ _ _ k⟩
      · rintro Q1 Q2 hQ ⟨v, ev, k⟩
        exact ⟨v, ev, hQ _ _ k⟩
    · rintro σ Hc ⟨y8, y9, rfl, sc⟩
      exact ⟨_, _, _, _, _, _, _, _, rfl, A5, e5.fin.mono sc⟩
  · rintro σ H2 ⟨x2, x3, x4, x5, x6, x7, x8, x9, A', rfl, hR'⟩
    exact rfl
end
end Fv

namespace Fv
open PySem PySem.Spec PyProof.Rows L2
theorem defAt_mk {K : PySem.W.Frag} {h : Heap} {mg : Str → Option Value} {nm : Str} {st : Stmt} {ps : List Str} {f : Addr} {oc : Value} {od an : Option Addr} {sl : Array (Option Value)} {kV dc pm cd ct : Value}
    (X : K.In h) (G : h.Ns mainGlobals mg) (a : PySem.W.nsIn K mainGlobals nm = some (some (.ref f)))
    (l : K.lookup f = some ⟨oc, od, .func (PySem.W.fnOf nm nm (defArgs st) (defBody st) (defScope st) .none kV dc pm an cd ct), sl⟩) (c : PySem.W.codeIn K cd nm = true) (k : PySem.W.keepIn K (.ref f) = true)
    (b : ∀ {f : Addr} {fd : FuncData}, Fun K nm nm st f fd → Binds K fd ps []) : DefAt K mg nm st ps :=
  ⟨f, _, PySem.W.mg_of X G a, fun_mk l c k, b (fun_mk l c k)⟩
theorem co_mk {K : PySem.W.Frag} {h : Heap} {mg : Str → Option Value} {tD t1 t2 : Tok} {aF : Addr} {od : Option Addr} {n : Nat} {sl : Array (Option Value)} (X : K.In h) (G : h.Ns mainGlobals mg)
    (p : ∃ v, mg "MOST_PLACES" = some v ∧ PySem.W.ReadsLit h v (.int (10 ^ 30)) []) (d : PySem.W.nsIn K mainGlobals "MOST_DEEDS" = some (some (.int 40 tD)))
    (a : PySem.W.nsIn K mainGlobals "FOLDS" = some (some (.ref aF))) (l : K.lookup aF = some ⟨.type "tuple", od, .seq #[.str "over" t1, .str "under" t2] n, sl⟩) : ∃ (tP tD : Tok) (aF : Addr), Co K mg tP tD aF := by
  obtain ⟨v, hv, r⟩ := p
  obtain ⟨t, rfl, _⟩ := PySem.W.readsW_int_inv r
  exact ⟨t, tD, aF, hv, PySem.W.mg_of X G d, PySem.W.mg_of X G a, fun H => .inr ⟨_, _, _, l, rfl, rfl, (by show 2 ≤ sizeLine; decide), .cons ⟨_, rfl⟩ (.cons ⟨_, rfl⟩ .nil)⟩⟩
theorem with_def {K : PySem.W.Frag} {h : Heap} {mg : Str → Option Value} {nm : Str} {st : Stmt} {ps : List Str} {f : Addr} {oc : Value} {od an : Option Addr} {sl : Array (Option Value)} {kV dc pm cd ct : Value} {G0 : Prop}
    (X : K.In h) (G : h.Ns mainGlobals mg) (a : PySem.W.nsIn K mainGlobals nm = some (some (.ref f)))
    (l : K.lookup f = some ⟨oc, od, .func (PySem.W.fnOf nm nm (defArgs st) (defBody st) (defScope st) .none kV dc pm an cd ct), sl⟩) (c : PySem.W.codeIn K cd nm = true) (k : PySem.W.keepIn K (.ref f) = true)
    (b : ∀ {f : Addr} {fd : FuncData}, Fun K nm nm st f fd → Binds K fd ps []) (next : DefAt K mg nm st ps → G0) : G0 := next (defAt_mk X G a l c k b)
theorem with_co {K : PySem.W.Frag} {h : Heap} {mg : Str → Option Value} {tD t1 t2 : Tok} {aF : Addr} {od : Option Addr} {n : Nat} {sl : Array (Option Value)} {G0 : Prop} (X : K.In h) (G : h.Ns mainGlobals mg)
    (p : ∃ v, mg "MOST_PLACES" = some v ∧ PySem.W.ReadsLit h v (.int (10 ^ 30)) []) (d : PySem.W.nsIn K mainGlobals "MOST_DEEDS" = some (some (.int 40 tD)))
    (a : PySem.W.nsIn K mainGlobals "FOLDS" = some (some (.ref aF))) (l : K.lookup aF = some ⟨.type "tuple", od, .seq #[.str "over" t1, .str "under" t2] n, sl⟩) (next : ∀ (tP tD : Tok) (aF : Addr), Co K mg tP tD aF → G0) : G0 := by
  obtain ⟨tP, tD, aF, C⟩ := co_mk X G p d a l
  exact next _ _ _ C
theorem D_is_from.bd {K : PySem.W.Frag} {f : Addr} {fd : FuncData} (F : Fun K "is_from" "is_from" D_is_from.st f fd) : Binds K fd D_is_from.ps [] := F.binds (ps := D_is_from.ps) fun _ _ _ _ _ _ us hl => match us, hl with | [_, _], _ => rfl
theorem D_is_among.bd {K : PySem.W.Frag} {f : Addr} {fd : FuncData} (F : Fun K "is_among" "is_among" D_is_among.st f fd) : Binds K fd D_is_among.ps [] := F.binds (ps := D_is_among.ps) fun _ _ _ _ _ _ us hl => match us, hl with | [_, _, _], _ => rfl
theorem D_is_listing.bd {K : PySem.W.Frag} {f : Addr} {fd : FuncData} (F : Fun K "is_listing" "is_listing" D_is_listing.st f fd) : Binds K fd D_is_listing.ps [] := F.binds (ps := D_is_listing.ps) fun _ _ _ _ _ _ us hl => match us, hl with | [_], _ => rfl
theorem D_check_places.bd {K : PySem.W.Frag} {f : Addr} {fd : FuncData} (F : Fun K "check_places" "check_places" D_check_places.st f fd) : Binds K fd D_check_places.ps [] := F.binds (ps := D_check_places.ps) fun _ _ _ _ _ _ us hl => match us, hl with | [_], _ => rfl
theorem D_shift_of.bd {K : PySem.W.Frag} {f : Addr} {fd : FuncData} (F : Fun K "shift_of" "shift_of" D_shift_of.st f fd) : Binds K fd D_shift_of.ps [] := F.binds (ps := D_shift_of.ps) fun _ _ _ _ _ _ us hl => match us, hl with | [_, _], _ => rfl
theorem D_layers_at.bd {K : PySem.W.Frag} {f : Addr} {fd : FuncData} (F : Fun K "layers_at" "layers_at" D_layers_at.st f fd) : Binds K fd D_layers_at.ps [] := F.binds (ps := D_layers_at.ps) fun _ _ _ _ _ _ us hl => match us, hl with | [_, _], _ => rfl
theorem D_ground_behind.bd {K : PySem.W.Frag} {f : Addr} {fd : FuncData} (F : Fun K "ground_behind" "ground_behind" D_ground_behind.st f fd) : Binds K fd D_ground_behind.ps [] := F.binds (ps := D_ground_behind.ps) fun _ _ _ _ _ _ us hl => match us, hl with | [_, _], _ => rfl
theorem D_is_deed.bd {K : PySem.W.Frag} {f : Addr} {fd : FuncData} (F : Fun K "is_deed" "is_deed" D_is_deed.st f fd) : Binds K fd D_is_deed.ps [] := F.binds (ps := D_is_deed.ps) fun _ _ _ _ _ _ us hl => match us, hl with | [_, _], _ => rfl
theorem D_line_of.bd {K : PySem.W.Frag} {f : Addr} {fd : FuncData} (F : Fun K "line_of" "line_of" D_line_of.st f fd) : Binds K fd D_line_of.ps [] := F.binds (ps := D_line_of.ps) fun _ _ _ _ _ _ us hl => match us, hl with | [_], _ => rfl
theorem D_folds_of.bd {K : PySem.W.Frag} {f : Addr} {fd : FuncData} (F : Fun K "folds_of" "folds_of" D_folds_of.st f fd) : Binds K fd D_folds_of.ps [] := F.binds (ps := D_folds_of.ps) fun _ _ _ _ _ _ us hl => match us, hl with | [_], _ => rfl
theorem D_grounds_or_none.bd {K : PySem.W.Frag} {f : Addr} {fd : FuncData} (F : Fun K "grounds_or_none" "grounds_or_none" D_grounds_or_none.st f fd) : Binds K fd D_grounds_or_none.ps [] := F.binds (ps := D_grounds_or_none.ps) fun _ _ _ _ _ _ us hl => match us, hl with | [_, _], _ => rfl
theorem D_grounds_of.bd {K : PySem.W.Frag} {f : Addr} {fd : FuncData} (F : Fun K "grounds_of" "grounds_of" D_grounds_of.st f fd) : Binds K fd D_grounds_of.ps [] := F.binds (ps := D_grounds_of.ps) fun _ _ _ _ _ _ us hl => match us, hl with | [_, _], _ => rfl
theorem D_check_place.bd {K : PySem.W.Frag} {f : Addr} {fd : FuncData} (F : Fun K "check_place" "check_place" D_check_place.st f fd) : Binds K fd D_check_place.ps [] := F.binds (ps := D_check_place.ps) fun _ _ _ _ _ _ us hl => match us, hl with | [_, _], _ => rfl
theorem D_carried.bd {K : PySem.W.Frag} {f : Addr} {fd : FuncData} (F : Fun K "carried" "carried" D_carried.st f fd) : Binds K fd D_carried.ps [] := F.binds (ps := D_carried.ps) fun _ _ _ _ _ _ us hl => match us, hl with | [_, _, _], _ => rfl
theorem D_runs_of.bd {K : PySem.W.Frag} {f : Addr} {fd : FuncData} (F : Fun K "runs_of" "runs_of" D_runs_of.st f fd) : Binds K fd D_runs_of.ps [] := F.binds (ps := D_runs_of.ps) fun _ _ _ _ _ _ us hl => match us, hl with | [_, _, _], _ => rfl
theorem D_line_to.bd {K : PySem.W.Frag} {f : Addr} {fd : FuncData} (F : Fun K "line_to" "line_to" D_line_to.st f fd) : Binds K fd D_line_to.ps [] := F.binds (ps := D_line_to.ps) fun _ _ _ _ _ _ us hl => match us, hl with | [_, _, _, _], _ => rfl
theorem D__law_reel.bd {K : PySem.W.Frag} {f : Addr} {fd : FuncData} (F : Fun K "_law_reel" "_law_reel" D__law_reel.st f fd) : Binds K fd D__law_reel.ps [] := F.binds (ps := D__law_reel.ps) fun _ _ _ _ _ _ us hl => match us, hl with | [_], _ => rfl
theorem D__law_draw.bd {K : PySem.W.Frag} {f : Addr} {fd : FuncData} (F : Fun K "_law_draw" "_law_draw" D__law_draw.st f fd) : Binds K fd D__law_draw.ps [] := F.binds (ps := D__law_draw.ps) fun _ _ _ _ _ _ us hl => match us, hl with | [_, _], _ => rfl
theorem D__law_about.bd {K : PySem.W.Frag} {f : Addr} {fd : FuncData} (F : Fun K "_law_about" "_law_about" D__law_about.st f fd) : Binds K fd D__law_about.ps [] := F.binds (ps := D__law_about.ps) fun _ _ _ _ _ _ us hl => match us, hl with | [_], _ => rfl
theorem D__law_done.bd {K : PySem.W.Frag} {f : Addr} {fd : FuncData} (F : Fun K "_law_done" "_law_done" D__law_done.st f fd) : Binds K fd D__law_done.ps [] := F.binds (ps := D__law_done.ps) fun _ _ _ _ _ _ us hl => match us, hl with | [_, _], _ => rfl
theorem D__law_piles.bd {K : PySem.W.Frag} {f : Addr} {fd : FuncData} (F : Fun K "_law_piles" "_law_piles" D__law_piles.st f fd) : Binds K fd D__law_piles.ps [] := F.binds (ps := D__law_piles.ps) fun _ _ _ _ _ _ us hl => match us, hl with | [_, _], _ => rfl
theorem D__law_wide.bd {K : PySem.W.Frag} {f : Addr} {fd : FuncData} (F : Fun K "_law_wide" "_law_wide" D__law_wide.st f fd) : Binds K fd D__law_wide.ps [] := F.binds (ps := D__law_wide.ps) fun _ _ _ _ _ _ us hl => match us, hl with | [_, _], _ => rfl
theorem D__law_deed.bd {K : PySem.W.Frag} {f : Addr} {fd : FuncData} (F : Fun K "_law_deed" "_law_deed" D__law_deed.st f fd) : Binds K fd D__law_deed.ps [] := F.binds (ps := D__law_deed.ps) fun _ _ _ _ _ _ us hl => match us, hl with | [_, _], _ => rfl
theorem D__law_row.bd {K : PySem.W.Frag} {f : Addr} {fd : FuncData} (F : Fun K "_law_row" "_law_row" D__law_row.st f fd) : Binds K fd D__law_row.ps [] := F.binds (ps := D__law_row.ps) fun _ _ _ _ _ _ us hl => match us, hl with | [_, _, _], _ => rfl
theorem D__law_dressed.bd {K : PySem.W.Frag} {f : Addr} {fd : FuncData} (F : Fun K "_law_dressed" "_law_dressed" D__law_dressed.st f fd) : Binds K fd D__law_dressed.ps [] := F.binds (ps := D__law_dressed.ps) fun _ _ _ _ _ _ us hl => match us, hl with | [_, _], _ => rfl
theorem D__law_columns.bd {K : PySem.W.Frag} {f : Addr} {fd : FuncData} (F : Fun K "_law_columns" "_law_columns" D__law_columns.st f fd) : Binds K fd D__law_columns.ps [] := F.binds (ps := D__law_columns.ps) fun _ _ _ _ _ _ us hl => match us, hl with | [_], _ => rfl
theorem D__law_lines.bd {K : PySem.W.Frag} {f : Addr} {fd : FuncData} (F : Fun K "_law_lines" "_law_lines" D__law_lines.st f fd) : Binds K fd D__law_lines.ps [] := F.binds (ps := D__law_lines.ps) fun _ _ _ _ _ _ us hl => match us, hl with | [_], _ => rfl
theorem D_law.bd {K : PySem.W.Frag} {f : Addr} {fd : FuncData} (F : Fun K "law" "law" D_law.st f fd) : Binds K fd D_law.ps [] := F.binds (ps := D_law.ps) fun _ _ _ _ _ _ us hl => match us, hl with | [_], _ => rfl
theorem all_run {P : Program} {w : World} {K : PySem.W.Frag} {mg : Str → Option Value} (d_is_from : DefAt K mg "is_from" D_is_from.st D_is_from.ps) (d_is_among : DefAt K mg "is_among" D_is_among.st D_is_among.ps) (d_is_listing : DefAt K mg "is_listing" D_is_listing.st D_is_listing.ps) (d_check_places : DefAt K mg "check_places" D_check_places.st D_check_places.ps) (d_shift_of : DefAt K mg "shift_of" D_shift_of.st D_shift_of.ps) (d_layers_at : DefAt K mg "layers_at" D_layers_at.st D_layers_at.ps) (d_ground_behind : DefAt K mg "ground_behind" D_ground_behind.st D_ground_behind.ps) (d_is_deed : DefAt K mg "is_deed" D_is_deed.st D_is_deed.ps) (d_line_of : DefAt K mg "line_of" D_line_of.st D_line_of.ps) (d_folds_of : DefAt K mg "folds_of" D_folds_of.st D_folds_of.ps) (d_grounds_or_none : DefAt K mg "grounds_or_none" D_grounds_or_none.st D_grounds_or_none.ps) (d_grounds_of : DefAt K mg "grounds_of" D_grounds_of.st D_grounds_of.ps) (d_check_place : DefAt K mg "check_place" D_check_place.st D_check_place.ps) (d_carried : DefAt K mg "carried" D_carried.st D_carried.ps) (d_runs_of : DefAt K mg "runs_of" D_runs_of.st D_runs_of.ps) (d_line_to : DefAt K mg "line_to" D_line_to.st D_line_to.ps) (d__law_reel : DefAt K mg "_law_reel" D__law_reel.st D__law_reel.ps) (d__law_draw : DefAt K mg "_law_draw" D__law_draw.st D__law_draw.ps) (d__law_about : DefAt K mg "_law_about" D__law_about.st D__law_about.ps) (d__law_done : DefAt K mg "_law_done" D__law_done.st D__law_done.ps) (d__law_piles : DefAt K mg "_law_piles" D__law_piles.st D__law_piles.ps) (d__law_wide : DefAt K mg "_law_wide" D__law_wide.st D__law_wide.ps) (d__law_deed : DefAt K mg "_law_deed" D__law_deed.st D__law_deed.ps) (d__law_row : DefAt K mg "_law_row" D__law_row.st D__law_row.ps) (d__law_dressed : DefAt K mg "_law_dressed" D__law_dressed.st D__law_dressed.ps) (d__law_columns : DefAt K mg "_law_columns" D__law_columns.st D__law_columns.ps) (d__law_lines : DefAt K mg "_law_lines" D__law_lines.st D__law_lines.ps) (d_law : DefAt K mg "law" D_law.st D_law.ps) (T : Bi mg) {tP tD : Tok} {aF : Addr} (C : Co K mg tP tD aF) {fa : Addr} (hmg : mg "law" = some (.ref fa))
    (base : Heap) (s1 : Shared) (H : Hp) (a : Addr) (ns : List Int) (hn : ns.length ≤ 63) (hS : SqL K H a (ns.map V.int)) (en : Env0 P w K mg base callerA [] s1 H) :
    codeAny (model P w) callerA (.call (.ref fa) ⟨[.ref a], []⟩) (CR CX0 [] P w H s1 (fun v _ => v = .bl true) E0) s1 := by
  have g_is_from := good_is_from (P := P) (w := w) (base := base) d_is_from T
  have g_is_among := good_is_among d_is_among T g_is_from
  have g_shift_of := good_shift_of (P := P) (w := w) (base := base) d_shift_of T
  have g_is_listing := good_is_listing (P := P) (w := w) (base := base) d_is_listing T
  have g_check_places := good_check_places d_check_places T C g_is_among
  have g_layers_at := good_layers_at (P := P) (w := w) (base := base) d_layers_at T
  have g_ground_behind := good_ground_behind d_ground_behind T g_layers_at g_shift_of
  have g_is_deed := good_is_deed d_is_deed T C g_is_among g_is_listing
  have g_line_of := good_line_of (P := P) (w := w) (base := base) d_line_of T
  have g_grounds_or_none := good_grounds_or_none d_grounds_or_none T C g_is_listing g_is_deed g_ground_behind g_line_of
  have g_grounds_of := good_grounds_of d_grounds_of T g_check_places g_grounds_or_none
  have g_check_place := good_check_place d_check_place T g_is_among
  have g_carried := good_carried d_carried T g_layers_at g_shift_of
  have g_runs_of := good_runs_of d_runs_of T g_carried
  have g_folds_of := good_folds_of d_folds_of T g_line_of
  have g_line_to := good_line_to d_line_to T g_grounds_of g_check_place g_runs_of g_folds_of
  have g__law_reel := good__law_reel (P := P) (w := w) (base := base) d__law_reel T
  have g__law_draw := good__law_draw (P := P) (w := w) (base := base) d__law_draw T
  have g__law_wide := good__law_wide (P := P) (w := w) (base := base) d__law_wide T
  have g__law_deed := good__law_deed d__law_deed T g__law_draw
  have g__law_row := good__law_row d__law_row T g__law_draw g__law_deed g__law_wide
  have g__law_about := good__law_about (P := P) (w := w) (base := base) d__law_about T
  have g__law_done := good__law_done d__law_done T g__law_about
  have g__law_piles := good__law_piles d__law_piles T g__law_done
  have g__law_columns := good__law_columns (P := P) (w := w) (base := base) d__law_columns T
  have g__law_lines := good__law_lines d__law_lines T g__law_columns g__law_done
  have g_dressed0 := good_dressed0 (P := P) (w := w) (base := base) d__law_dressed T
  have g_dressed1 := good_dressed1 d__law_dressed T g__law_draw g_dressed0
  have g_dressed2 := good_dressed2 d__law_dressed T g__law_draw g_dressed1
  exact run_law d_law T g__law_reel g__law_draw g__law_row g__law_piles g_dressed2 g__law_lines g_line_to rfl hmg ⟨rfl, by decide, by decide⟩ en hS hn
theorem walk {l : PySem.W.OpenLaw} {q : Program} {loose : List Str} {XP : (Str → Option Value) → Heap → Prop} {YP : World → Heap → Prop} {d : DefRec} {K : Params → PySem.W.Frag} (hn : l.most = some 63) (hdf : d.params.defaults = [])
    (hY : ∀ (w : World) (h : Heap), YP w h → (K w.params).In h)
    (F : ∀ (w : World) (mg : Str → Option Value) (fa : Addr) (h : Heap), (K w.params).In h → h.Ns mainGlobals mg → XP mg h → mg d.name = some (.ref fa) →
      ∀ (base : Heap) (s1 : Shared) (H : Hp) (a : Addr) (ns : List Int), ns.length ≤ 63 → SqL (K w.params) H a (ns.map V.int) → Env0 l.prog w (K w.params) mg base callerA [] s1 H →
        codeAny (model l.prog w) callerA (.call (.ref fa) ⟨[.ref a], []⟩) (CR CX0 [] l.prog w H s1 (fun v _ => v = .bl true) E0) s1) :
    PySem.W.WalkO q loose XP YP l.row.toRowW d [] (fun f vs => PySem.call f vs) := by
  refine Att.attach_call hn hdf fun w s₀ s₁ mg mb fa o pm cd doc a vs ns G Y ho hd hcd hmg hobj hints hlen hg => ?_
  have KX := hY w _ Y
  exact law_top KX G.T.g G.T.b G.T.builtins G.T.nolimit hg hobj hints (Nat.le_trans hlen (by decide)) fun base H kb nb only sq en => F w mg fa _ KX G.T.g G.X hmg base s₁ H a ns hlen sq en
end Fv
open PySem PySem.W PyProof.Rows
set_option maxRecDepth 100000 in
set_option maxHeartbeats 0 in
theorem PySem.Challenge.cw_foldvat_k10_lines_near_holds : PySem.Challenge.rw_foldvat_k10_lines_near.Holds := by
  w_on; o_law; k_head; (case hw => w_witness2)
  k_fill
  refine Fv.walk (l := PySem.Challenge.rw_foldvat_k10_lines_near) rfl rfl (fun w h Y => PySem.W.kIn_of Y) ?F
  case F =>
    intro w mg fa h KX G XP hmg
    refine' Fv.with_def (nm := "is_from") (st := Fv.D_is_from.st) (ps := Fv.D_is_from.ps) KX G ?a_is_from ?l_is_from ?c_is_from ?k_is_from Fv.D_is_from.bd ?n_is_from
    (case a_is_from => k_is); (case l_is_from => k_is); (case c_is_from => k_is); (case k_is_from => k_is); intro d_is_from
    refine' Fv.with_def (nm := "is_among") (st := Fv.D_is_among.st) (ps := Fv.D_is_among.ps) KX G ?a_is_among ?l_is_among ?c_is_among ?k_is_among Fv.D_is_among.bd ?n_is_among
    (case a_is_among => k_is); (case l_is_among => k_is); (case c_is_among => k_is); (case k_is_among => k_is); intro d_is_among
    refine' Fv.with_def (nm := "is_listing") (st := Fv.D_is_listing.st) (ps := Fv.D_is_listing.ps) KX G ?a_is_listing ?l_is_listing ?c_is_listing ?k_is_listing Fv.D_is_listing.bd ?n_is_listing
    (case a_is_listing => k_is); (case l_is_listing => k_is); (case c_is_listing => k_is); (case k_is_listing => k_is); intro d_is_listing
    refine' Fv.with_def (nm := "check_places") (st := Fv.D_check_places.st) (ps := Fv.D_check_places.ps) KX G ?a_check_places ?l_check_places ?c_check_places ?k_check_places Fv.D_check_places.bd ?n_check_places
    (case a_check_places => k_is); (case l_check_places => k_is); (case c_check_places => k_is); (case k_check_places => k_is); intro d_check_places
    refine' Fv.with_def (nm := "shift_of") (st := Fv.D_shift_of.st) (ps := Fv.D_shift_of.ps) KX G ?a_shift_of ?l_shift_of ?c_shift_of ?k_shift_of Fv.D_shift_of.bd ?n_shift_of
    (case a_shift_of => k_is); (case l_shift_of => k_is); (case c_shift_of => k_is); (case k_shift_of => k_is); intro d_shift_of
    refine' Fv.with_def (nm := "layers_at") (st := Fv.D_layers_at.st) (ps := Fv.D_layers_at.ps) KX G ?a_layers_at ?l_layers_at ?c_layers_at ?k_layers_at Fv.D_layers_at.bd ?n_layers_at
    (case a_layers_at => k_is); (case l_layers_at => k_is); (case c_layers_at => k_is); (case k_layers_at => k_is); intro d_layers_at
    refine' Fv.with_def (nm := "ground_behind") (st := Fv.D_ground_behind.st) (ps := Fv.D_ground_behind.ps) KX G ?a_ground_behind ?l_ground_behind ?c_ground_behind ?k_ground_behind Fv.D_ground_behind.bd ?n_ground_behind
    (case a_ground_behind => k_is); (case l_ground_behind => k_is); (case c_ground_behind => k_is); (case k_ground_behind => k_is); intro d_ground_behind
    refine' Fv.with_def (nm := "is_deed") (st := Fv.D_is_deed.st) (ps := Fv.D_is_deed.ps) KX G ?a_is_deed ?l_is_deed ?c_is_deed ?k_is_deed Fv.D_is_deed.bd ?n_is_deed
    (case a_is_deed => k_is); (case l_is_deed => k_is); (case c_is_deed => k_is); (case k_is_deed => k_is); intro d_is_deed
    refine' Fv.with_def (nm := "line_of") (st := Fv.D_line_of.st) (ps := Fv.D_line_of.ps) KX G ?a_line_of ?l_line_of ?c_line_of ?k_line_of Fv.D_line_of.bd ?n_line_of
    (case a_line_of => k_is); (case l_line_of => k_is); (case c_line_of => k_is); (case k_line_of => k_is); intro d_line_of
    refine' Fv.with_def (nm := "folds_of") (st := Fv.D_folds_of.st) (ps := Fv.D_folds_of.ps) KX G ?a_folds_of ?l_folds_of ?c_folds_of ?k_folds_of Fv.D_folds_of.bd ?n_folds_of
    (case a_folds_of => k_is); (case l_folds_of => k_is); (case c_folds_of => k_is); (case k_folds_of => k_is); intro d_folds_of
    refine' Fv.with_def (nm := "grounds_or_none") (st := Fv.D_grounds_or_none.st) (ps := Fv.D_grounds_or_none.ps) KX G ?a_grounds_or_none ?l_grounds_or_none ?c_grounds_or_none ?k_grounds_or_none Fv.D_grounds_or_none.bd ?n_grounds_or_none
    (case a_grounds_or_none => k_is); (case l_grounds_or_none => k_is); (case c_grounds_or_none => k_is); (case k_grounds_or_none => k_is); intro d_grounds_or_none
    refine' Fv.with_def (nm := "grounds_of") (st := Fv.D_grounds_of.st) (ps := Fv.D_grounds_of.ps) KX G ?a_grounds_of ?l_grounds_of ?c_grounds_of ?k_grounds_of Fv.D_grounds_of.bd ?n_grounds_of
    (case a_grounds_of => k_is); (case l_grounds_of => k_is); (case c_grounds_of => k_is); (case k_grounds_of => k_is); intro d_grounds_of
    refine' Fv.with_def (nm := "check_place") (st := Fv.D_check_place.st) (ps := Fv.D_check_place.ps) KX G ?a_check_place ?l_check_place ?c_check_place ?k_check_place Fv.D_check_place.bd ?n_check_place
    (case a_check_place => k_is); (case l_check_place => k_is); (case c_check_place => k_is); (case k_check_place => k_is); intro d_check_place
    refine' Fv.with_def (nm := "carried") (st := Fv.D_carried.st) (ps := Fv.D_carried.ps) KX G ?a_carried ?l_carried ?c_carried ?k_carried Fv.D_carried.bd ?n_carried
    (case a_carried => k_is); (case l_carried => k_is); (case c_carried => k_is); (case k_carried => k_is); intro d_carried
    refine' Fv.with_def (nm := "runs_of") (st := Fv.D_runs_of.st) (ps := Fv.D_runs_of.ps) KX G ?a_runs_of ?l_runs_of ?c_runs_of ?k_runs_of Fv.D_runs_of.bd ?n_runs_of
    (case a_runs_of => k_is); (case l_runs_of => k_is); (case c_runs_of => k_is); (case k_runs_of => k_is); intro d_runs_of
    refine' Fv.with_def (nm := "line_to") (st := Fv.D_line_to.st) (ps := Fv.D_line_to.ps) KX G ?a_line_to ?l_line_to ?c_line_to ?k_line_to Fv.D_line_to.bd ?n_line_to
    (case a_line_to => k_is); (case l_line_to => k_is); (case c_line_to => k_is); (case k_line_to => k_is); intro d_line_to
    refine' Fv.with_def (nm := "_law_reel") (st := Fv.D__law_reel.st) (ps := Fv.D__law_reel.ps) KX G ?a__law_reel ?l__law_reel ?c__law_reel ?k__law_reel Fv.D__law_reel.bd ?n__law_reel
    (case a__law_reel => k_is); (case l__law_reel => k_is); (case c__law_reel => k_is); (case k__law_reel => k_is); intro d__law_reel
    refine' Fv.with_def (nm := "_law_draw") (st := Fv.D__law_draw.st) (ps := Fv.D__law_draw.ps) KX G ?a__law_draw ?l__law_draw ?c__law_draw ?k__law_draw Fv.D__law_draw.bd ?n__law_draw
    (case a__law_draw => k_is); (case l__law_draw => k_is); (case c__law_draw => k_is); (case k__law_draw => k_is); intro d__law_draw
    refine' Fv.with_def (nm := "_law_about") (st := Fv.D__law_about.st) (ps := Fv.D__law_about.ps) KX G ?a__law_about ?l__law_about ?c__law_about ?k__law_about Fv.D__law_about.bd ?n__law_about
    (case a__law_about => k_is); (case l__law_about => k_is); (case c__law_about => k_is); (case k__law_about => k_is); intro d__law_about
    refine' Fv.with_def (nm := "_law_done") (st := Fv.D__law_done.st) (ps := Fv.D__law_done.ps) KX G ?a__law_done ?l__law_done ?c__law_done ?k__law_done Fv.D__law_done.bd ?n__law_done
    (case a__law_done => k_is); (case l__law_done => k_is); (case c__law_done => k_is); (case k__law_done => k_is); intro d__law_done
    refine' Fv.with_def (nm := "_law_piles") (st := Fv.D__law_piles.st) (ps := Fv.D__law_piles.ps) KX G ?a__law_piles ?l__law_piles ?c__law_piles ?k__law_piles Fv.D__law_piles.bd ?n__law_piles
    (case a__law_piles => k_is); (case l__law_piles => k_is); (case c__law_piles => k_is); (case k__law_piles => k_is); intro d__law_piles
    refine' Fv.with_def (nm := "_law_wide") (st := Fv.D__law_wide.st) (ps := Fv.D__law_wide.ps) KX G ?a__law_wide ?l__law_wide ?c__law_wide ?k__law_wide Fv.D__law_wide.bd ?n__law_wide
    (case a__law_wide => k_is); (case l__law_wide => k_is); (case c__law_wide => k_is); (case k__law_wide => k_is); intro d__law_wide
    refine' Fv.with_def (nm := "_law_deed") (st := Fv.D__law_deed.st) (ps := Fv.D__law_deed.ps) KX G ?a__law_deed ?l__law_deed ?c__law_deed ?k__law_deed Fv.D__law_deed.bd ?n__law_deed
    (case a__law_deed => k_is); (case l__law_deed => k_is); (case c__law_deed => k_is); (case k__law_deed => k_is); intro d__law_deed
    refine' Fv.with_def (nm := "_law_row") (st := Fv.D__law_row.st) (ps := Fv.D__law_row.ps) KX G ?a__law_row ?l__law_row ?c__law_row ?k__law_row Fv.D__law_row.bd ?n__law_row
    (case a__law_row => k_is); (case l__law_row => k_is); (case c__law_row => k_is); (case k__law_row => k_is); intro d__law_row
    refine' Fv.with_def (nm := "_law_dressed") (st := Fv.D__law_dressed.st) (ps := Fv.D__law_dressed.ps) KX G ?a__law_dressed ?l__law_dressed ?c__law_dressed ?k__law_dressed Fv.D__law_dressed.bd ?n__law_dressed
    (case a__law_dressed => k_is); (case l__law_dressed => k_is); (case c__law_dressed => k_is); (case k__law_dressed => k_is); intro d__law_dressed
    refine' Fv.with_def (nm := "_law_columns") (st := Fv.D__law_columns.st) (ps := Fv.D__law_columns.ps) KX G ?a__law_columns ?l__law_columns ?c__law_columns ?k__law_columns Fv.D__law_columns.bd ?n__law_columns
    (case a__law_columns => k_is); (case l__law_columns => k_is); (case c__law_columns => k_is); (case k__law_columns => k_is); intro d__law_columns
    refine' Fv.with_def (nm := "_law_lines") (st := Fv.D__law_lines.st) (ps := Fv.D__law_lines.ps) KX G ?a__law_lines ?l__law_lines ?c__law_lines ?k__law_lines Fv.D__law_lines.bd ?n__law_lines
    (case a__law_lines => k_is); (case l__law_lines => k_is); (case c__law_lines => k_is); (case k__law_lines => k_is); intro d__law_lines
    refine' Fv.with_def (nm := "law") (st := Fv.D_law.st) (ps := Fv.D_law.ps) KX G ?a_law ?l_law ?c_law ?k_law Fv.D_law.bd ?n_law
    (case a_law => k_is); (case l_law => k_is); (case c_law => k_is); (case k_law => k_is); intro d_law
    have T : Fv.Bi mg := by
      refine' ⟨PySem.W.mg_none_of KX G ?b_type, PySem.W.mg_none_of KX G ?b_int, PySem.W.mg_none_of KX G ?b_str, PySem.W.mg_none_of KX G ?b_list, PySem.W.mg_none_of KX G ?b_tuple, PySem.W.mg_none_of KX G ?b_bool, PySem.W.mg_none_of KX G ?b_sum, PySem.W.mg_none_of KX G ?b_max, PySem.W.mg_none_of KX G ?b_min, PySem.W.mg_none_of KX G ?b_len, PySem.W.mg_none_of KX G ?b_sorted, PySem.W.mg_none_of KX G ?b_range, PySem.W.mg_none_of KX G ?b_zip, PySem.W.mg_none_of KX G ?b_reversed, PySem.W.mg_none_of KX G ?b_repr, PySem.W.mg_none_of KX G ?b_isinstance, PySem.W.mg_none_of KX G ?b_enumerate, PySem.W.mg_none_of KX G ?b_abs, PySem.W.mg_none_of KX G ?b_set, PySem.W.mg_none_of KX G ?b_all, PySem.W.mg_none_of KX G ?b_dict⟩
      all_goals k_is
    refine' Fv.with_co KX G (XP.2.val _ (.head _)) ?c1 ?c2 ?c3 ?c4
    (case c1 => k_is); (case c2 => k_is); (case c3 => k_is); intro tP tD aF C
    exact Fv.all_run d_is_from d_is_among d_is_listing d_check_places d_shift_of d_layers_at d_ground_behind d_is_deed d_line_of d_folds_of d_grounds_or_none d_grounds_of d_check_place d_carried d_runs_of d_line_to d__law_reel d__law_draw d__law_about d__law_done d__law_piles d__law_wide d__law_deed d__law_row d__law_dressed d__law_columns d__law_lines d_law T C hmg


