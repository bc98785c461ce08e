import PyProof.Rows.All
import Wide.All
import OpenK.AllK
import Wide.FinOn
import Open.SpecLaws
import KE.OsGo
import KE.HD4
import HandS.ForSpec
import HandS.ForMost
import HandS.Wide
import HandS.Zip
import HandS.Flow
import HandS.Defaults
import HandS.Head2
import HandS.HeadHook2
import HandS.Steps
import HandS.Evl
import PySem.Challenge.RW_warmthgrown_s01_answers
/-! The flat list of calls, call by call; nothing of the library. -/
namespace Wg
open Kh328
/-- a call's number and the numbers behind it -/
abbrev Rec := Nat × List Nat
def width : Nat → Nat
  | 0 => 4 | 1 => 1 | 2 => 2 | 3 => 2 | 4 => 2 | 5 => 2 | 6 => 2 | 7 => 1 | 8 => 1 | 9 => 2 | 10 => 3 | 11 => 3 | 12 => 2 | 13 => 2 | 14 => 2 | 15 => 1 | _ => 0
def callAt (p : Nat) (xs : List Nat) : Kh328.Call :=
  let x (k : Nat) := xs.getD k 0
  match p with
  | 0 => .begin_ (x 0) (x 1) (x 2) (xs.drop 4)
  | 1 => .eggs (x 0)
  | 2 => .stock (x 0) (x 1)
  | 3 => .day (x 0) (x 1)
  | 4 => .die (x 0) (x 1)
  | 5 => .split (x 0) (x 1)
  | 6 => .join (x 0) (x 1)
  | 7 => .look (x 0)
  | 8 => .needs (x 0)
  | 9 => .could (x 0) (x 1)
  | 10 => .until (x 0) (x 1) (x 2)
  | 11 => .eats (x 0) (x 1) (x 2)
  | 12 => .hatches (x 0) (x 1)
  | 13 => .ahead (x 0) (x 1)
  | 14 => .lasts (x 0) (x 1)
  | 15 => .best (x 0)
  | 16 => .sums
  | _ => .state
structure Ok (q : Rec) : Prop where
  num : q.1 < 18
  len : q.2.length = width q.1 + (if q.1 = 0 then q.2.getD 3 0 else 0)
  big : ∀ x ∈ q.2, x ≤ 4294967295
/-- one call, as it is handed in -/
def one (q : Rec) : List Int := (q.1 : Int) :: q.2.map Int.ofNat
def flat (ps : List Rec) : List Int := ps.flatMap one
def answered (a : Ans) : List Int := a.ret :: a.out.map Int.ofNat
def plays : Option Abs → List Rec → List (List Int)
  | _, [] => []
  | s, q :: r => answered (doing s (callAt q.1 q.2)).2 :: plays (doing s (callAt q.1 q.2)).1 r
theorem whole_id (c : List (List Int)) : PyKh328.whole c = c := by
  unfold PyKh328.whole
  split <;> rfl
theorem cong2 {A B C : Type} (f : A → B → C) {a a' : A} {b b' : B} (h1 : a = a') (h2 : b = b') : f a b = f a' b' := by rw [h1, h2]
theorem shape_some {p : Int} {n k : Nat} (h : PyKh328.shape p = some (n, k)) :
    (p = 0 ∧ n = 3 ∧ k = 1) ∨ ∃ m : Nat, 1 ≤ m ∧ m < 18 ∧ p = (m : Int) ∧ n = width m ∧ k = 0 := by
  by_cases hp : 0 ≤ p ∧ p < 18
  · obtain ⟨m, rfl⟩ := Int.eq_ofNat_of_zero_le hp.1
    have hm : m < 18 := by omega
    match m, hm with
    | 0, _ => cases (show some (3, 1) = some (n, k) from h); exact .inl ⟨rfl, rfl, rfl⟩
    | 1, _ => cases (show some (1, 0) = some (n, k) from h); exact .inr ⟨1, by decide, by decide, rfl, rfl, rfl⟩
    | 2, _ => cases (show some (2, 0) = some (n, k) from h); exact .inr ⟨2, by decide, by decide, rfl, rfl, rfl⟩
    | 3, _ => cases (show some (2, 0) = some (n, k) from h); exact .inr ⟨3, by decide, by decide, rfl, rfl, rfl⟩
    | 4, _ => cases (show some (2, 0) = some (n, k) from h); exact .inr ⟨4, by decide, by decide, rfl, rfl, rfl⟩
    | 5, _ => cases (show some (2, 0) = some (n, k) from h); exact .inr ⟨5, by decide, by decide, rfl, rfl, rfl⟩
    | 6, _ => cases (show some (2, 0) = some (n, k) from h); exact .inr ⟨6, by decide, by decide, rfl, rfl, rfl⟩
    | 7, _ => cases (show some (1, 0) = some (n, k) from h); exact .inr ⟨7, by decide, by decide, rfl, rfl, rfl⟩
    | 8, _ => cases (show some (1, 0) = some (n, k) from h); exact .inr ⟨8, by decide, by decide, rfl, rfl, rfl⟩
    | 9, _ => cases (show some (2, 0) = some (n, k) from h); exact .inr ⟨9, by decide, by decide, rfl, rfl, rfl⟩
    | 10, _ => cases (show some (3, 0) = some (n, k) from h); exact .inr ⟨10, by decide, by decide, rfl, rfl, rfl⟩
    | 11, _ => cases (show some (3, 0) = some (n, k) from h); exact .inr ⟨11, by decide, by decide, rfl, rfl, rfl⟩
    | 12, _ => cases (show some (2, 0) = some (n, k) from h); exact .inr ⟨12, by decide, by decide, rfl, rfl, rfl⟩
    | 13, _ => cases (show some (2, 0) = some (n, k) from h); exact .inr ⟨13, by decide, by decide, rfl, rfl, rfl⟩
    | 14, _ => cases (show some (2, 0) = some (n, k) from h); exact .inr ⟨14, by decide, by decide, rfl, rfl, rfl⟩
    | 15, _ => cases (show some (1, 0) = some (n, k) from h); exact .inr ⟨15, by decide, by decide, rfl, rfl, rfl⟩
    | 16, _ => cases (show some (0, 0) = some (n, k) from h); exact .inr ⟨16, by decide, by decide, rfl, rfl, rfl⟩
    | 17, _ => cases (show some (0, 0) = some (n, k) from h); exact .inr ⟨17, by decide, by decide, rfl, rfl, rfl⟩
    | m + 18, hm => omega
  · exfalso
    unfold PyKh328.shape at h
    rw [if_neg (by omega), if_neg (by omega), if_neg (by omega), if_neg (by omega), if_neg (by omega), if_neg (by omega), if_neg (by omega), if_neg (by omega), if_neg (by omega), if_neg (by omega), if_neg (by omega), if_neg (by omega), if_neg (by omega), if_neg (by omega), if_neg (by omega), if_neg (by omega), if_neg (by omega), if_neg (by omega)] at h
    cases h
theorem getD_toNat (l : List Int) (k : Nat) : (l.map Int.toNat).getD k 0 = (l.getD k 0).toNat := by
  rw [List.getD_eq_getElem?_getD, List.getD_eq_getElem?_getD, List.getElem?_map]
  cases l[k]? <;> rfl
theorem back {l : List Int} (h : ∀ x ∈ l, 0 ≤ x) : (l.map Int.toNat).map Int.ofNat = l := by
  rw [List.map_map]
  conv => rhs; rw [← List.map_id l]
  refine List.map_congr_left fun x m => ?_
  exact Int.toNat_of_nonneg (h x m)
theorem callOf_plain {m : Nat} (h1 : 1 ≤ m) (h2 : m < 18) (xs : List Int) : Kh328Neutral.callOf1 [(m : Int) :: xs] = callAt m (xs.map Int.toNat) := by
  have e : ∀ k, (xs.getD k 0).toNat = (xs.map Int.toNat).getD k 0 := fun k => (getD_toNat xs k).symm
  match m, h1, h2 with
  | 1, _, _ => show Kh328.Call.eggs _ = .eggs _; exact congrArg _ (e 0)
  | 2, _, _ => show Kh328.Call.stock _ _ = .stock _ _; exact cong2 _ (e 0) (e 1)
  | 3, _, _ => show Kh328.Call.day _ _ = .day _ _; exact cong2 _ (e 0) (e 1)
  | 4, _, _ => show Kh328.Call.die _ _ = .die _ _; exact cong2 _ (e 0) (e 1)
  | 5, _, _ => show Kh328.Call.split _ _ = .split _ _; exact cong2 _ (e 0) (e 1)
  | 6, _, _ => show Kh328.Call.join _ _ = .join _ _; exact cong2 _ (e 0) (e 1)
  | 7, _, _ => show Kh328.Call.look _ = .look _; exact congrArg _ (e 0)
  | 8, _, _ => show Kh328.Call.needs _ = .needs _; exact congrArg _ (e 0)
  | 9, _, _ => show Kh328.Call.could _ _ = .could _ _; exact cong2 _ (e 0) (e 1)
  | 10, _, _ => show Kh328.Call.until (xs.getD 0 0).toNat (xs.getD 1 0).toNat (xs.getD 2 0).toNat = .until _ _ _; rw [e 0, e 1, e 2] <;> rfl
  | 11, _, _ => show Kh328.Call.eats (xs.getD 0 0).toNat (xs.getD 1 0).toNat (xs.getD 2 0).toNat = .eats _ _ _; rw [e 0, e 1, e 2] <;> rfl
  | 12, _, _ => show Kh328.Call.hatches _ _ = .hatches _ _; exact cong2 _ (e 0) (e 1)
  | 13, _, _ => show Kh328.Call.ahead _ _ = .ahead _ _; exact cong2 _ (e 0) (e 1)
  | 14, _, _ => show Kh328.Call.lasts _ _ = .lasts _ _; exact cong2 _ (e 0) (e 1)
  | 15, _, _ => show Kh328.Call.best _ = .best _; exact congrArg _ (e 0)
  | 16, _, _ => rfl
  | 17, _, _ => rfl
  | m + 18, _, h => omega
/-- one call at a list's head -/
theorem one_call {l : List Int} {c : List (List Int)} {t : List Int} (hb : ∀ x ∈ l, 0 ≤ x ∧ x ≤ 4294967295) (h : PyFlat.call PyKh328.shape l = some (c, t)) :
    ∃ q : Rec, Ok q ∧ l = one q ++ t ∧ Kh328Neutral.callOf1 c = callAt q.1 q.2 := by
  cases l with
  | nil => cases h
  | cons p r =>
    unfold PyFlat.call at h
    cases hs : PyKh328.shape p with
    | none => simp [hs] at h
    | some nk =>
      obtain ⟨n, k⟩ := nk
      simp only [hs] at h
      split at h
      · cases h
      · rename_i hlen
        rcases shape_some hs with ⟨rfl, rfl, rfl⟩ | ⟨m, h1, h2, rfl, rfl, rfl⟩
        · -- begin
          match r, hlen with
          | x0 :: x1 :: x2 :: r3, _ =>
            match r3 with
            | [] => simp [PyFlat.rows, PyFlat.row] at h
            | x3 :: r4 =>
              have e0 : (x0 :: x1 :: x2 :: x3 :: r4).drop 3 = x3 :: r4 := rfl
              rw [e0] at h
              unfold PyFlat.rows PyFlat.row at h
              by_cases c3 : 0 ≤ x3 ∧ x3.toNat ≤ r4.length
              · simp only [c3, and_self, if_true, PyFlat.rows] at h
                have h' := Option.some.inj h
                have hc := (Prod.mk.inj h').1
                have ht := (Prod.mk.inj h').2
                subst hc ht
                have hm : ∀ x ∈ x0 :: x1 :: x2 :: x3 :: r4.take x3.toNat, 0 ≤ x ∧ x ≤ 4294967295 := fun x m => hb x (by
                  rcases List.mem_cons.mp m with e | m
                  · simp [e]
                  · rcases List.mem_cons.mp m with e | m
                    · simp [e]
                    · rcases List.mem_cons.mp m with e | m
                      · simp [e]
                      · rcases List.mem_cons.mp m with e | m
                        · simp [e]
                        · have := List.mem_of_mem_take m
                          simp [this])
                refine ⟨(0, (x0 :: x1 :: x2 :: x3 :: r4.take x3.toNat).map Int.toNat), ⟨(by decide : 0 < 18), ?_, ?_⟩, ?_, ?_⟩
                · show _ = 4 + x3.toNat
                  simp only [List.length_map, List.length_cons, List.length_take]
                  have := c3.2
                  omega
                · intro x m
                  obtain ⟨y, hy, rfl⟩ := List.mem_map.mp m
                  have := hm y hy
                  omega
                · unfold one
                  rw [back (fun x m => (hm x m).1)]
                  simp
                · rfl
              · simp only [c3, if_false] at h
                cases h
        · -- the others
          simp only [PyFlat.rows] at h
          have h' := Option.some.inj h
          have hc := (Prod.mk.inj h').1
          have ht := (Prod.mk.inj h').2
          subst hc ht
          have hm : ∀ x ∈ r.take (width m), 0 ≤ x ∧ x ≤ 4294967295 := fun x q => hb x (List.mem_cons_of_mem _ (List.mem_of_mem_take q))
          refine ⟨(m, (r.take (width m)).map Int.toNat), ⟨h2, ?_, ?_⟩, ?_, callOf_plain h1 h2 _⟩
          · have : ¬ m = 0 := by omega
            simp only [this, if_false, List.length_map, List.length_take]
            omega
          · intro x q
            obtain ⟨y, hy, rfl⟩ := List.mem_map.mp q
            have := hm y hy
            omega
          · unfold one
            rw [back (fun x q => (hm x q).1)]
            simp
theorem parse : ∀ (f : Nat) (l : List Int) (cs : List (List (List Int))), (∀ x ∈ l, 0 ≤ x ∧ x ≤ 4294967295) → PyFlat.calls PyKh328.shape f l = some cs →
    ∃ ps : List Rec, (∀ q ∈ ps, Ok q) ∧ l = flat ps ∧ cs.length = ps.length ∧ ∀ s, PyFlat.played Kh328Neutral.step s (cs.map PyKh328.whole) = plays s ps
  | _, [], cs, _, h => by
    unfold PyFlat.calls at h
    cases h
    exact ⟨[], by simp, rfl, rfl, fun _ => rfl⟩
  | 0, _ :: _, cs, _, h => by cases h
  | f + 1, p :: r, cs, hb, h => by
    unfold PyFlat.calls at h
    cases hc : PyFlat.call PyKh328.shape (p :: r) with
    | none => simp [hc] at h
    | some ct =>
      obtain ⟨c, t⟩ := ct
      simp only [hc] at h
      cases hr : PyFlat.calls PyKh328.shape f t with
      | none => simp [hr] at h
      | some ds =>
        simp only [hr] at h
        cases h
        obtain ⟨q, ok, e, eq⟩ := one_call hb hc
        obtain ⟨ps, oks, e2, el, ep⟩ := parse f t ds (fun x m => hb x (by rw [e]; exact List.mem_append_right _ m)) hr
        refine ⟨q :: ps, fun z m => ?_, ?_, by simp [el], fun s => ?_⟩
        · rcases List.mem_cons.mp m with rfl | m
          · exact ok
          · exact oks z m
        · rw [e, e2]
          rfl
        · rw [List.map_cons, whole_id]
          show answered (doing s (Kh328Neutral.callOf1 c)).2 :: PyFlat.played Kh328Neutral.step (doing s (Kh328Neutral.callOf1 c)).1 (ds.map PyKh328.whole) = answered (doing s (callAt q.1 q.2)).2 :: plays (doing s (callAt q.1 q.2)).1 ps
          rw [eq, ep]
/-- **what is asked, call by call** -/
theorem asked_calls {l : List Int} (hb : ∀ x ∈ l, 0 ≤ x ∧ x ≤ 4294967295) (h : PyKh328.answers_asked l = true) :
    ∃ ps : List Rec, (∀ q ∈ ps, Ok q) ∧ l = flat ps ∧ ps.length ≤ 100 ∧ PyKh328.answers l = PyFlat.told (plays none ps) := by
  unfold PyKh328.answers_asked at h
  cases hc : PyFlat.calls PyKh328.shape l.length l with
  | none => simp [hc] at h
  | some cs =>
    simp only [hc] at h
    obtain ⟨ps, oks, e, el, ep⟩ := parse _ _ _ hb hc
    refine ⟨ps, oks, e, ?_, ?_⟩
    · simp only [Bool.and_eq_true, PyFlat.atMost, decide_eq_true_eq] at h
      omega
    · unfold PyKh328.answers PyKh328.calls
      simp only [hc]
      rw [← ep]
      rfl
end Wg

/-! Bounds of what a farm holds behind so many calls; nothing of the library. -/
namespace Wg
open Kh328
structure LotBd (k : Nat) (l : Lot) : Prop where
  n : l.n < 2 ^ (20 + k)
  mass : l.mass < 2 ^ (40 + k)
  egg : l.hatched = false → l.mass = 0
structure Told (a : Abs) : Prop where
  len : a.pace.length = 26
  pace : ∀ x ∈ a.pace, x ≤ 500
  hatch : 1 ≤ a.hatch ∧ a.hatch ≤ 1000
  first : 1 ≤ a.first ∧ a.first ≤ 100
  conv : 50 ≤ a.conv ∧ a.conv ≤ 300
structure Bd (k : Nat) (a : Abs) : Prop where
  told : Told a
  few : a.lots.length ≤ 10
  lots : ∀ l ∈ a.lots, LotBd k l
  cold : ∀ l ∈ a.lots, l.hatched = false → l.warmth < a.hatch
theorem pow_up {a b : Nat} (h : a ≤ b) : 2 ^ a ≤ 2 ^ b := Nat.pow_le_pow_right (by decide) h
theorem pow_two (a k : Nat) : 2 ^ (a + (k + 1)) = 2 ^ (a + k) + 2 ^ (a + k) := by
  rw [← Nat.add_assoc, Nat.pow_succ]
  omega
theorem LotBd.up {k : Nat} {l : Lot} (h : LotBd k l) : LotBd (k + 1) l :=
  ⟨Nat.lt_of_lt_of_le h.n (pow_up (by omega)), Nat.lt_of_lt_of_le h.mass (pow_up (by omega)), h.egg⟩
theorem Told.at {a : Abs} (h : Told a) (t : Nat) : a.pace.getD t 0 ≤ 500 := by
  rw [List.getD_eq_getElem?_getD]
  cases e : a.pace[t]? with
  | none => exact Nat.zero_le _
  | some x => exact h.pace x (List.mem_of_getElem? e)
theorem could_le {a : Abs} (h : Told a) (t : Nat) (l : Lot) : could a t l ≤ l.mass := by
  unfold could
  split
  · refine Nat.div_le_of_le_mul ?_
    have h1 := h.at t
    have h2 : l.mass * a.pace.getD t 0 ≤ l.mass * 10000 := Nat.mul_le_mul_left _ (by omega)
    have h3 : (10000 + l.each) * l.mass = l.mass * 10000 + l.each * l.mass := by
      rw [Nat.add_mul, Nat.mul_comm 10000]
    omega
  · exact Nat.zero_le _
theorem dayOf_bd {k : Nat} {a : Abs} (h : Told a) (t f : Nat) {l : Lot} (b : LotBd k l) : LotBd (k + 1) (dayOf a t f l) := by
  have h40 := pow_two 40 k
  have h20 := pow_two 20 k
  have h42 : 2 ^ (20 + k) * 128 ≤ 2 ^ (40 + k) := by
    have e : (128 : Nat) = 2 ^ 7 := by decide
    rw [e, ← Nat.pow_add]
    exact pow_up (by omega)
  have bn := b.n
  have bm := b.mass
  unfold dayOf
  split
  · rename_i hh
    refine ⟨?_, ?_, fun z => ?_⟩
    · show l.n < _
      omega
    · show l.mass + grows a t (gets a t f l) l < _
      have := could_le h t l
      have : grows a t (gets a t f l) l ≤ could a t l := Nat.min_le_left _ _
      omega
    · have : l.hatched = false := z
      simp [hh] at this
  · split
    · refine ⟨?_, ?_, fun z => ?_⟩
      · show l.n < _
        omega
      · show l.n * a.first < _
        have h1 := h.first.2
        have h2 : l.n * a.first ≤ l.n * 100 := Nat.mul_le_mul_left _ h1
        omega
      · cases (show true = false from z)
    · exact ⟨by show l.n < _; omega, by show l.mass < _; omega, b.egg⟩
theorem passed_bd {k : Nat} {a : Abs} (h : Bd k a) (t f : Nat) : Bd (k + 1) (passed a t f) := by
  refine ⟨⟨h.told.len, h.told.pace, h.told.hatch, h.told.first, h.told.conv⟩, ?_, fun l m => ?_, fun l m => ?_⟩
  · show (a.lots.map _).length ≤ 10
    rw [List.length_map]
    exact h.few
  · obtain ⟨x, hx, rfl⟩ := List.mem_map.mp m
    exact dayOf_bd h.told t f (h.lots x hx)
  · obtain ⟨x, hx, rfl⟩ := List.mem_map.mp m
    intro z
    show (dayOf a t f x).warmth < a.hatch
    unfold dayOf at z ⊢
    split
    · rename_i c
      rw [if_pos c] at z
      exact absurd (z : x.hatched = false) (by rw [c]; decide)
    · rename_i c
      rw [if_neg c] at z
      split
      · rename_i d
        rw [if_pos d] at z
        cases z
      · rename_i d
        show x.warmth + t < a.hatch
        omega
theorem Bd.up {k : Nat} {a : Abs} (h : Bd k a) : Bd (k + 1) a := ⟨h.told, h.few, fun l m => (h.lots l m).up, h.cold⟩
theorem part_mass_le (l : Lot) {n : Nat} (h : n ≤ l.n) : (part l n).mass ≤ l.mass := by
  show (if l.n = 0 then 0 else l.mass * n / l.n) ≤ l.mass
  split
  · exact Nat.zero_le _
  · refine Nat.div_le_of_le_mul ?_
    rw [Nat.mul_comm l.n]
    exact Nat.mul_le_mul_left _ h
theorem part_bd {k : Nat} {l : Lot} (b : LotBd k l) {n : Nat} (h : n ≤ l.n) : LotBd k (part l n) := by
  have h1 := part_mass_le l h
  refine ⟨Nat.lt_of_le_of_lt h b.n, Nat.lt_of_le_of_lt h1 b.mass, fun z => ?_⟩
  have := b.egg z
  omega
theorem rest_bd {k : Nat} {l : Lot} (b : LotBd k l) (n : Nat) : LotBd k (rest l n) := by
  refine ⟨Nat.lt_of_le_of_lt (Nat.sub_le _ _) b.n, Nat.lt_of_le_of_lt (Nat.sub_le _ _) b.mass, fun z => ?_⟩
  have := b.egg z
  show l.mass - _ = 0
  omega
theorem set_bd {k i : Nat} {a : List Lot} {l : Lot} (h : ∀ x ∈ a, LotBd k x) (b : LotBd k l) : ∀ x ∈ a.set i l, LotBd k x := fun x m => by
  rcases List.mem_or_eq_of_mem_set m with q | q
  · exact h x q
  · exact q ▸ b
theorem set_cold {h i : Nat} {a : List Lot} {l : Lot} (q : ∀ x ∈ a, x.hatched = false → x.warmth < h) (b : l.hatched = false → l.warmth < h) : ∀ x ∈ a.set i l, x.hatched = false → x.warmth < h := fun x m => by
  rcases List.mem_or_eq_of_mem_set m with z | z
  · exact q x z
  · exact z ▸ b
theorem doing_bd {k : Nat} {s : Option Abs} (h : ∀ a, s = some a → Bd k a) (c : Kh328.Call) : ∀ a, (doing s c).1 = some a → Bd (k + 1) a := by
  have keep : ∀ a, s = some a → Bd (k + 1) a := fun a e => (h a e).up
  have p20 : 2 ^ 20 ≤ 2 ^ (20 + k) := pow_up (by omega)
  have p40 : 2 ^ 40 ≤ 2 ^ (40 + k) := pow_up (by omega)
  have h40 := pow_two 40 k
  have h20 := pow_two 20 k
  intro a' e
  cases c with
  | begin_ x w c p =>
    have e0 : doing s (.begin_ x w c p) = if x < 1 ∨ 1000 < x ∨ w < 1 ∨ 100 < w ∨ c < 50 ∨ 300 < c ∨ p.length ≠ WARM + 1 ∨ (p.any fun x => decide (500 < x)) = true then (s, say (-22)) else (some (begun x w c p), say 0) := by
      cases s <;> rfl
    rw [e0] at e
    split at e
    · exact keep a' e
    · rename_i hc
      cases e
      simp only [not_or] at hc
      obtain ⟨h1, h2, h3, h4, h5, h6, h7, h8⟩ := hc
      refine ⟨⟨?_, fun y m => ?_, ?_, ?_, ?_⟩, Nat.zero_le _, fun l m => ?_, fun l m => nomatch m⟩
      · have : p.length = WARM + 1 := Decidable.not_not.mp h7
        exact this
      · by_cases hy : y ≤ 500
        · exact hy
        · exact absurd (List.any_eq_true.mpr ⟨y, m, decide_eq_true (by omega)⟩) h8
      · show 1 ≤ x ∧ x ≤ 1000; omega
      · show 1 ≤ w ∧ w ≤ 100; omega
      · show 50 ≤ c ∧ c ≤ 300; omega
      · cases m
  | eggs n =>
    cases s with
    | none => cases e
    | some a =>
      have B := h a rfl
      unfold doing at e
      dsimp only at e
      split at e
      · exact keep a' e
      · split at e
        · exact keep a' e
        · rename_i h1 h2
          cases e
          simp only [LOTS, MOST] at h1 h2
          refine ⟨⟨B.told.1, B.told.2, B.told.3, B.told.4, B.told.5⟩, ?_, fun l m => ?_, fun l m => ?_⟩
          · show (a.lots ++ _).length ≤ 10
            simp only [List.length_append, List.length_cons, List.length_nil]
            omega
          · rcases List.mem_append.mp m with m | m
            · exact (B.lots l m).up
            · obtain rfl := List.mem_singleton.mp m
              exact ⟨by show n < _; omega, by show 0 < _; omega, fun _ => rfl⟩
          · rcases List.mem_append.mp m with m | m
            · exact B.cold l m
            · obtain rfl := List.mem_singleton.mp m
              intro _
              show 0 < a.hatch
              have := B.told.hatch
              omega
  | stock n w =>
    cases s with
    | none => cases e
    | some a =>
      have B := h a rfl
      unfold doing at e
      dsimp only at e
      split at e
      · exact keep a' e
      · split at e
        · exact keep a' e
        · rename_i h1 h2
          cases e
          simp only [LOTS, MOST] at h1 h2
          refine ⟨⟨B.told.1, B.told.2, B.told.3, B.told.4, B.told.5⟩, ?_, fun l m => ?_, fun l m => ?_⟩
          · show (a.lots ++ _).length ≤ 10
            simp only [List.length_append, List.length_cons, List.length_nil]
            omega
          · rcases List.mem_append.mp m with m | m
            · exact (B.lots l m).up
            · obtain rfl := List.mem_singleton.mp m
              refine ⟨by show n < _; omega, ?_, fun z => Bool.noConfusion (show true = false from z)⟩
              show n * w < _
              have : n * w ≤ 1000000 * 100000 := Nat.mul_le_mul (by omega) (by omega)
              omega
          · rcases List.mem_append.mp m with m | m
            · exact B.cold l m
            · obtain rfl := List.mem_singleton.mp m
              intro z
              cases z
  | day t f =>
    cases s with
    | none => cases e
    | some a =>
      unfold doing at e
      dsimp only at e
      split at e
      · exact keep a' e
      · cases e
        exact passed_bd (h a rfl) t f
  | die i n =>
    cases s with
    | none => cases e
    | some a =>
      have B := h a rfl
      unfold doing at e
      dsimp only at e
      split at e
      · exact keep a' e
      · rename_i l hl
        split at e
        · exact keep a' e
        · cases e
          refine ⟨⟨B.told.1, B.told.2, B.told.3, B.told.4, B.told.5⟩, ?_, ?_, ?_⟩
          · show (a.lots.set i _).length ≤ 10
            rw [List.length_set]
            exact B.few
          · exact set_bd (fun x m => (B.lots x m).up) (rest_bd (B.lots l (List.mem_of_getElem? hl)).up n)
          · exact set_cold B.cold (B.cold l (List.mem_of_getElem? hl))
  | split i n =>
    cases s with
    | none => cases e
    | some a =>
      have B := h a rfl
      unfold doing at e
      dsimp only at e
      split at e
      · exact keep a' e
      · rename_i l hl
        split at e
        · exact keep a' e
        · split at e
          · exact keep a' e
          · split at e
            · exact keep a' e
            · rename_i h1 h2 h3
              cases e
              simp only [LOTS] at h3
              refine ⟨⟨B.told.1, B.told.2, B.told.3, B.told.4, B.told.5⟩, ?_, fun x m => ?_, fun x m => ?_⟩
              · show (a.lots.set i _ ++ [_]).length ≤ 10
                simp only [List.length_append, List.length_set, List.length_cons, List.length_nil]
                omega
              · have bl := (B.lots l (List.mem_of_getElem? hl)).up
                rcases List.mem_append.mp m with m | m
                · exact set_bd (fun x m => (B.lots x m).up) (rest_bd bl n) x m
                · obtain rfl := List.mem_singleton.mp m
                  exact part_bd bl (by omega)
              · rcases List.mem_append.mp m with m | m
                · exact set_cold B.cold (l := rest l n) (B.cold l (List.mem_of_getElem? hl)) x m
                · obtain rfl := List.mem_singleton.mp m
                  exact B.cold l (List.mem_of_getElem? hl)
  | join i j =>
    cases s with
    | none => cases e
    | some a =>
      have B := h a rfl
      unfold doing at e
      dsimp only at e
      split at e
      · rename_i l m hl hm
        split at e
        · exact keep a' e
        · split at e
          · exact keep a' e
          · rename_i h1 h2
            cases e
            have bl := B.lots l (List.mem_of_getElem? hl)
            have bm := B.lots m (List.mem_of_getElem? hm)
            have n1 := bl.n
            have n2 := bm.n
            have m1 := bl.mass
            have m2 := bm.mass
            simp only [not_or, ne_eq, Decidable.not_not] at h2
            refine ⟨⟨B.told.1, B.told.2, B.told.3, B.told.4, B.told.5⟩, ?_, ?_, set_cold (set_cold B.cold (B.cold l (List.mem_of_getElem? hl))) (B.cold m (List.mem_of_getElem? hm))⟩
            · show ((a.lots.set i _).set j _).length ≤ 10
              rw [List.length_set, List.length_set]
              exact B.few
            · refine set_bd (set_bd (fun x m => (B.lots x m).up) ⟨?_, ?_, fun z => ?_⟩) ⟨?_, ?_, fun _ => rfl⟩
              · show l.n + m.n < _
                omega
              · show l.mass + m.mass < _
                omega
              · have e1 : l.mass = 0 := bl.egg z
                have e2 : m.mass = 0 := bm.egg (h2.1 ▸ z)
                show l.mass + m.mass = 0
                omega
              · show 0 < _
                omega
              · show 0 < _
                omega
      · exact keep a' e
  | look i =>
    cases s with
    | none => cases e
    | some a => unfold doing at e; dsimp only at e; split at e <;> exact keep a' e
  | needs t =>
    cases s with
    | none => cases e
    | some a => unfold doing at e; dsimp only at e; split at e <;> exact keep a' e
  | could i t =>
    cases s with
    | none => cases e
    | some a => unfold doing at e; dsimp only at e; repeat' (split at e) <;> try exact keep a' e
  | «until» i w t =>
    cases s with
    | none => cases e
    | some a => unfold doing at e; dsimp only at e; repeat' (split at e) <;> try exact keep a' e
  | eats i w t =>
    cases s with
    | none => cases e
    | some a => unfold doing at e; dsimp only at e; repeat' (split at e) <;> try exact keep a' e
  | hatches i t =>
    cases s with
    | none => cases e
    | some a => unfold doing at e; dsimp only at e; repeat' (split at e) <;> try exact keep a' e
  | ahead n t =>
    cases s with
    | none => cases e
    | some a => unfold doing at e; dsimp only at e; split at e <;> exact keep a' e
  | lasts f t =>
    cases s with
    | none => cases e
    | some a => unfold doing at e; dsimp only at e; split at e <;> exact keep a' e
  | best i =>
    cases s with
    | none => cases e
    | some a => unfold doing at e; dsimp only at e; split at e <;> exact keep a' e
  | sums =>
    cases s with
    | none => cases e
    | some a => exact keep a' e
  | state =>
    cases s with
    | none => cases e
    | some a => exact keep a' e
theorem out_len (s : Option Abs) (c : Kh328.Call) : (doing s c).2.out.length ≤ 4 := by
  unfold doing
  repeat' split
  all_goals first | exact Nat.zero_le _ | (simp only [say, List.length_cons, List.length_nil]; omega) | (simp [say]; done)
end Wg

/-! Days ahead, all fed as much as they need; nothing of the library. -/
namespace Wg
open Kh328
/-- the same but for the day and the sums -/
structure Like (a b : Abs) : Prop where
  hatch : a.hatch = b.hatch
  first : a.first = b.first
  conv : a.conv = b.conv
  pace : a.pace = b.pace
  lots : a.lots = b.lots
theorem Like.refl (a : Abs) : Like a a := ⟨rfl, rfl, rfl, rfl, rfl⟩
theorem Like.symm {a b : Abs} (h : Like a b) : Like b a := ⟨h.hatch.symm, h.first.symm, h.conv.symm, h.pace.symm, h.lots.symm⟩
theorem Like.trans {a b c : Abs} (h : Like a b) (g : Like b c) : Like a c := ⟨h.hatch.trans g.hatch, h.first.trans g.first, h.conv.trans g.conv, h.pace.trans g.pace, h.lots.trans g.lots⟩
theorem Like.could {a b : Abs} (h : Like a b) (t : Nat) : Kh328.could a t = Kh328.could b t := by
  funext l
  unfold Kh328.could
  rw [h.pace]
theorem Like.need {a b : Abs} (h : Like a b) (t : Nat) : Kh328.need a t = Kh328.need b t := by
  funext l
  unfold Kh328.need
  rw [h.could, h.conv]
theorem Like.needs {a b : Abs} (h : Like a b) (t : Nat) : Kh328.needs a t = Kh328.needs b t := by
  unfold Kh328.needs
  rw [h.need, h.lots]
theorem Like.gets {a b : Abs} (h : Like a b) (t f : Nat) : Kh328.gets a t f = Kh328.gets b t f := by
  funext l
  unfold Kh328.gets
  rw [h.needs, h.need]
theorem Like.dayOf {a b : Abs} (h : Like a b) (t f : Nat) : Kh328.dayOf a t f = Kh328.dayOf b t f := by
  funext l
  unfold Kh328.dayOf Kh328.grows
  rw [h.could, h.gets, h.conv, h.hatch, h.first]
theorem Like.passed {a b : Abs} (h : Like a b) (t f : Nat) : Like (Kh328.passed a t f) (Kh328.passed b t f) := by
  refine ⟨h.hatch, h.first, h.conv, h.pace, ?_⟩
  show a.lots.map _ = b.lots.map _
  rw [h.dayOf, h.lots]
theorem Like.massOf {a b : Abs} (h : Like a b) : Kh328.massOf a = Kh328.massOf b := by
  unfold Kh328.massOf
  rw [h.lots]
theorem Like.eachOf {a b : Abs} (h : Like a b) (i : Nat) : Kh328.eachOf a i = Kh328.eachOf b i := by
  unfold Kh328.eachOf
  rw [h.lots]
theorem Like.hatchedOf {a b : Abs} (h : Like a b) (i : Nat) : Kh328.hatchedOf a i = Kh328.hatchedOf b i := by
  unfold Kh328.hatchedOf
  rw [h.lots]
theorem Like.bd {k : Nat} {a b : Abs} (h : Like a b) (B : Bd k a) : Bd k b :=
  ⟨⟨h.pace ▸ B.told.len, h.pace ▸ B.told.pace, h.hatch ▸ B.told.hatch, h.first ▸ B.told.first, h.conv ▸ B.told.conv⟩, h.lots ▸ B.few, h.lots ▸ B.lots, h.hatch ▸ h.lots ▸ B.cold⟩
/-- one day, all fed enough -/
def fedDay (t : Nat) (a : Abs) : Abs := Kh328.passed a t (Kh328.needs a t)
theorem Like.fedDay {a b : Abs} (h : Like a b) (t : Nat) : Like (fedDay t a) (fedDay t b) := by
  unfold Wg.fedDay
  rw [h.needs]
  exact h.passed t _
theorem gets_needs (a : Abs) (t : Nat) : (a.lots.map (Kh328.gets a t (Kh328.needs a t))).sum = Kh328.needs a t := by
  have e : a.lots.map (Kh328.gets a t (Kh328.needs a t)) = a.lots.map (Kh328.need a t) := List.map_congr_left fun l _ => if_pos (Nat.le_refl _)
  rw [e]
  rfl
theorem fedDay_eaten (t : Nat) (a : Abs) : (fedDay t a).eaten = a.eaten + Kh328.needs a t := by
  show a.eaten + (a.lots.map (Kh328.gets a t (Kh328.needs a t))).sum = _
  rw [gets_needs]
theorem full_zero (t : Nat) (a : Abs) : full t 0 a = a := rfl
theorem full_succ (t n : Nat) (a : Abs) : full t (n + 1) a = full t n (fedDay t a) := rfl
theorem full_snoc (t : Nat) : ∀ (n : Nat) (a : Abs), full t (n + 1) a = fedDay t (full t n a)
  | 0, _ => rfl
  | n + 1, a => full_snoc t n (fedDay t a)
theorem fedDay_bd {k : Nat} {a : Abs} (B : Bd k a) (t : Nat) : Bd (k + 1) (fedDay t a) := passed_bd B t _
theorem full_bd {k : Nat} (t : Nat) : ∀ (n : Nat) {a : Abs}, Bd k a → Bd (k + n) (full t n a)
  | 0, _, B => B
  | n + 1, a, B => by
    rw [full_snoc]
    exact fedDay_bd (full_bd t n B) t
theorem Like.full {a b : Abs} (h : Like a b) (t : Nat) : ∀ n, Like (Kh328.full t n a) (Kh328.full t n b)
  | 0 => h
  | n + 1 => by
    rw [full_snoc, full_snoc]
    exact (h.full t n).fedDay t
/-- what is eaten in n such days -/
def eats (t : Nat) : Nat → Abs → Nat
  | 0, _ => 0
  | n + 1, a => Kh328.needs a t + eats t n (fedDay t a)
theorem full_eaten (t : Nat) : ∀ (n : Nat) (a : Abs), (full t n a).eaten = a.eaten + eats t n a
  | 0, _ => rfl
  | n + 1, a => by
    rw [full_succ, full_eaten t n, fedDay_eaten, Nat.add_assoc]
    rfl
theorem full_eaten_sub (t n : Nat) (a : Abs) : (full t n a).eaten - a.eaten = eats t n a := by
  rw [full_eaten]
  omega
theorem eats_snoc (t : Nat) : ∀ (n : Nat) (a : Abs), eats t (n + 1) a = eats t n a + Kh328.needs (full t n a) t
  | 0, a => by
    show Kh328.needs a t + 0 = 0 + Kh328.needs a t
    omega
  | n + 1, a => by
    show Kh328.needs a t + eats t (n + 1) (fedDay t a) = Kh328.needs a t + eats t n (fedDay t a) + Kh328.needs (full t n (fedDay t a)) t
    rw [eats_snoc t n (fedDay t a), Nat.add_assoc]
theorem Like.eats {a b : Abs} (h : Like a b) (t : Nat) : ∀ n, Wg.eats t n a = Wg.eats t n b
  | 0 => rfl
  | n + 1 => by
    rw [eats_snoc, eats_snoc, h.eats t n, (h.full t n).needs]
/-- the first day is so, none ahead of it -/
theorem first_some (t : Nat) (f : Abs → Bool) : ∀ (n j k : Nat) (a : Abs), j < n → f (full t j a) = true → (∀ i, i < j → f (full t i a) = false) → firstDay t f n k a = some (k + j)
  | 0, _, _, _, h, _, _ => absurd h (Nat.not_lt_zero _)
  | n + 1, 0, k, a, _, h, _ => by
    show (if f a = true then some k else _) = _
    rw [if_pos (show f a = true from h)]
    rfl
  | n + 1, j + 1, k, a, hj, h, hi => by
    show (if f a = true then some k else firstDay t f n (k + 1) (fedDay t a)) = _
    have h0 : f a = false := hi 0 (by omega)
    rw [h0, if_neg Bool.false_ne_true, first_some t f n j (k + 1) (fedDay t a) (by omega) h fun i z => hi (i + 1) (by omega)]
    congr 1
    omega
theorem first_none (t : Nat) (f : Abs → Bool) : ∀ (n k : Nat) (a : Abs), (∀ i, i < n → f (full t i a) = false) → firstDay t f n k a = none
  | 0, _, _, _ => rfl
  | n + 1, k, a, hi => by
    show (if f a = true then some k else firstDay t f n (k + 1) (fedDay t a)) = _
    have h0 : f a = false := hi 0 (by omega)
    rw [h0, if_neg Bool.false_ne_true]
    exact first_none t f n (k + 1) (fedDay t a) fun i z => hi (i + 1) (by omega)
/-- feed lasts for j days, and not for one more (or for all n) -/
theorem lasts_is (t : Nat) : ∀ (n j f : Nat) (a : Abs), j ≤ n → eats t j a ≤ f → (j < n → f < eats t (j + 1) a) → Kh328.lasts t n f a = j
  | 0, j, _, _, h, _, _ => by
    have e : j = 0 := by omega
    rw [e]
    rfl
  | n + 1, 0, f, a, _, _, h => by
    show (if f < Kh328.needs a t then 0 else _) = 0
    have h1 : f < Kh328.needs a t + 0 := h (by omega)
    exact if_pos h1
  | n + 1, j + 1, f, a, hj, h1, h2 => by
    have e1 : eats t (j + 1) a = Kh328.needs a t + eats t j (fedDay t a) := rfl
    show (if f < Kh328.needs a t then 0 else 1 + Kh328.lasts t n (f - Kh328.needs a t) (fedDay t a)) = j + 1
    rw [if_neg (by omega), lasts_is t n j (f - Kh328.needs a t) (fedDay t a) (by omega) (by omega) fun z => ?_]
    · omega
    · have h3 : f < Kh328.needs a t + eats t (j + 1) (fedDay t a) := h2 (by omega)
      omega
/-- the best warmth by a walk over 0 to 25 -/
theorem best_foldl (a : Abs) (l : Lot) : Kh328.best a l = (List.range 26).foldl (fun (b : Nat × Nat) t => if b.2 < could a t l then (t, could a t l) else b) (0, could a 0 l) := rfl
/-- the least place of the greatest -/
theorem best_walk (g : Nat → Nat) : ∀ (n : Nat), 0 < n → ∃ t, t < n ∧ (List.range n).foldl (fun (b : Nat × Nat) t => if b.2 < g t then (t, g t) else b) (0, g 0) = (t, g t) ∧ (∀ i, i < n → g i ≤ g t) ∧ ∀ i, i < t → g i < g t
  | 0, h => absurd h (Nat.lt_irrefl _)
  | 1, _ => ⟨0, by decide, by simp, fun i h => by
      have e : i = 0 := by omega
      rw [e]
      exact Nat.le_refl _, fun i h => absurd h (Nat.not_lt_zero _)⟩
  | n + 2, _ => by
    obtain ⟨t, h1, h2, h3, h4⟩ := best_walk g (n + 1) (by omega)
    rw [List.range_succ, List.foldl_append, h2]
    show ∃ t', t' < n + 2 ∧ (if g t < g (n + 1) then (n + 1, g (n + 1)) else (t, g t)) = (t', g t') ∧ _
    by_cases c : g t < g (n + 1)
    · rw [if_pos c]
      refine ⟨n + 1, by omega, rfl, fun i hi => ?_, fun i hi => ?_⟩
      · by_cases z : i = n + 1
        · rw [z]; exact Nat.le_refl _
        · have := h3 i (by omega)
          omega
      · have := h3 i hi
        omega
    · rw [if_neg c]
      refine ⟨t, by omega, rfl, fun i hi => ?_, h4⟩
      by_cases z : i = n + 1
      · rw [z]; omega
      · exact h3 i (by omega)
theorem best_is {a : Abs} {l : Lot} {t : Nat} (ht : t < 26) (h1 : ∀ i, i < 26 → could a i l ≤ could a t l) (h2 : ∀ i, i < t → could a i l < could a t l) : Kh328.best a l = (t, could a t l) := by
  obtain ⟨t', g1, g2, g3, g4⟩ := best_walk (fun i => could a i l) 26 (by decide)
  rw [best_foldl, g2]
  have e : t' = t := by
    rcases Nat.lt_trichotomy t' t with z | z | z
    · have := h2 t' z
      have := g3 t ht
      omega
    · exact z
    · have := g4 t z
      have := h1 t' g1
      omega
  rw [e]
/-! ### days ahead keep what was told -/
theorem full_told (t : Nat) : ∀ (n : Nat) (a : Abs), (full t n a).hatch = a.hatch ∧ (full t n a).first = a.first ∧ (full t n a).conv = a.conv ∧ (full t n a).pace = a.pace
  | 0, _ => ⟨rfl, rfl, rfl, rfl⟩
  | n + 1, a => by
    rw [full_succ]
    exact full_told t n (fedDay t a)
theorem full_len (t : Nat) : ∀ (n : Nat) (a : Abs), (full t n a).lots.length = a.lots.length
  | 0, _ => rfl
  | n + 1, a => by
    rw [full_succ, full_len t n (fedDay t a)]
    exact List.length_map _
/-! ### eggs, day by day -/
theorem egg_day {t i : Nat} {a : Abs} {l : Lot} (hl : a.lots[i]? = some l) (he : l.hatched = false) : ∀ j, l.warmth + j * t < a.hatch → (full t j a).lots[i]? = some { l with warmth := l.warmth + j * t }
  | 0, _ => by
    rw [Nat.zero_mul]
    exact hl
  | j + 1, hc => by
    rw [Nat.add_mul, Nat.one_mul] at hc ⊢
    have ih := egg_day (t := t) hl he j (by omega)
    rw [full_snoc]
    show ((full t j a).lots.map _)[i]? = _
    rw [List.getElem?_map, ih]
    show some (Kh328.dayOf _ _ _ _) = _
    unfold Kh328.dayOf
    have e1 : ({ l with warmth := l.warmth + j * t } : Lot).hatched = false := he
    rw [e1, if_neg Bool.false_ne_true, if_neg (by rw [(full_told t j a).1]; show ¬ a.hatch ≤ l.warmth + j * t + t; omega)]
    show some (⟨false, l.n, l.mass, l.warmth + j * t + t⟩ : Lot) = _
    rw [Nat.add_assoc]
theorem egg_last {t i : Nat} {a : Abs} {l : Lot} (hl : a.lots[i]? = some l) (he : l.hatched = false) {j : Nat} (hc : l.warmth + j * t < a.hatch) (hd : a.hatch ≤ l.warmth + (j + 1) * t) : hatchedOf (full t (j + 1) a) i = true := by
  rw [Nat.add_mul, Nat.one_mul] at hd
  have ih := egg_day (t := t) hl he j hc
  rw [full_snoc]
  unfold hatchedOf
  show (Option.map Lot.hatched ((full t j a).lots.map _)[i]?).getD false = true
  rw [List.getElem?_map, ih]
  show (Kh328.dayOf _ _ _ _).hatched = true
  unfold Kh328.dayOf
  have e1 : ({ l with warmth := l.warmth + j * t } : Lot).hatched = false := he
  rw [e1, if_neg Bool.false_ne_true, if_pos (by rw [(full_told t j a).1]; show a.hatch ≤ l.warmth + j * t + t; omega)]
theorem egg_not {t i : Nat} {a : Abs} {l : Lot} (hl : a.lots[i]? = some l) (he : l.hatched = false) {j : Nat} (hc : l.warmth + j * t < a.hatch) : hatchedOf (full t j a) i = false := by
  unfold hatchedOf
  rw [egg_day hl he j hc]
  exact he
theorem hatch_never {t i : Nat} {a : Abs} {l : Lot} (hl : a.lots[i]? = some l) (he : l.hatched = false) (h : 1000 * t < a.hatch - l.warmth) : firstDay t (fun b => hatchedOf b i) (DAYS + 1) 0 a = none :=
  first_none t _ _ 0 a fun j hj => egg_not hl he (by
    have h1 : j < 1001 := hj
    have h2 : j * t ≤ 1000 * t := Nat.mul_le_mul_right _ (by omega)
    omega)
theorem hatch_in {t i : Nat} {a : Abs} {l : Lot} (hl : a.lots[i]? = some l) (he : l.hatched = false) (h0 : l.warmth < a.hatch) (h : a.hatch - l.warmth ≤ 1000 * t) : 0 < t ∧ firstDay t (fun b => hatchedOf b i) (DAYS + 1) 0 a = some ((a.hatch - l.warmth + t - 1) / t) := by
  have ht : 0 < t := by
    rcases Nat.eq_zero_or_pos t with z | z
    · rw [z] at h
      omega
    · exact z
  refine ⟨ht, ?_⟩
  have e1 := Nat.div_add_mod (a.hatch - l.warmth + t - 1) t
  have e2 := Nat.mod_lt (a.hatch - l.warmth + t - 1) ht
  generalize hn : (a.hatch - l.warmth + t - 1) / t = n at e1
  generalize (a.hatch - l.warmth + t - 1) % t = r at e1 e2
  rw [Nat.mul_comm] at e1
  have n1 : 1 ≤ n := by
    rcases Nat.eq_zero_or_pos n with z | z
    · rw [z] at e1
      omega
    · exact z
  obtain ⟨m, rfl⟩ : ∃ m, n = m + 1 := ⟨n - 1, by omega⟩
  have e3 : (m + 1) * t = m * t + t := by rw [Nat.add_mul, Nat.one_mul]
  have hm : m < 1000 := by
    rcases Nat.lt_or_ge m 1000 with z | z
    · exact z
    · have := Nat.mul_le_mul_right t z
      omega
  have r := first_some t (fun b => hatchedOf b i) (DAYS + 1) (m + 1) 0 a (by show m + 1 < 1001; omega) (egg_last hl he (by omega) (by omega)) fun j hj => egg_not hl he (by
    have := Nat.mul_le_mul_right t (show j ≤ m by omega)
    omega)
  rw [r, Nat.zero_add]
/-! ### how heavy each is, day by day -/
theorem eachOf_at {a : Abs} {i : Nat} {l : Lot} (h : a.lots[i]? = some l) : eachOf a i = l.each := by
  unfold eachOf
  rw [h]
  rfl
theorem until_some {t i w j : Nat} {a : Abs} (hj : j ≤ 1000) (h : ¬ eachOf (full t j a) i < w) (hb : ∀ m, m < j → eachOf (full t m a) i < w) : firstDay t (fun b => decide (w ≤ eachOf b i)) (DAYS + 1) 0 a = some j := by
  rw [first_some t _ (DAYS + 1) j 0 a (by show j < 1001; omega) (decide_eq_true (by omega)) fun m hm => decide_eq_false (by have := hb m hm; omega), Nat.zero_add]
theorem until_none {t i w : Nat} {a : Abs} (hb : ∀ m, m ≤ 1000 → eachOf (full t m a) i < w) : firstDay t (fun b => decide (w ≤ eachOf b i)) (DAYS + 1) 0 a = none :=
  first_none t _ _ 0 a fun m hm => decide_eq_false (by have := hb m (by have : m < 1001 := hm; omega); omega)
end Wg

set_option Elab.async false
set_option linter.all false
set_option maxRecDepth 100000
set_option maxHeartbeats 4000000
namespace Wg
open PySem PySem.Spec PyProof.Rows L2
/-! ### the text by places -/
def top (i : Nat) : Stmt := PySem.Challenge.pw_warmthgrown_s01_answers.main.body.getD i (.Pass ⟨0, 0, 0, 0⟩)
abbrev s_Lot_init : Stmt := inClass (top 1) 0
abbrev s_copy_of_lot : Stmt := top 2
abbrev s_each_weighs : Stmt := top 3
abbrev s_could_grow : Stmt := top 4
abbrev s_needed_feed : Stmt := top 5
abbrev s_eat_and_grow : Stmt := top 6
abbrev s_gather_warmth : Stmt := top 7
abbrev s_take_part : Stmt := top 8
abbrev s_all_mass : Stmt := top 11
abbrev s_needs_of_lots : Stmt := top 12
abbrev s_shares_of_feed : Stmt := top 13
abbrev s_live_day : Stmt := top 14
abbrev s_pass_day : Stmt := top 15
abbrev s_copy_of_lots : Stmt := top 16
abbrev s_live_fed_day : Stmt := top 17
abbrev s_till_weight : Stmt := top 18
abbrev s_till_hatched : Stmt := top 19
abbrev s_after_days : Stmt := top 20
abbrev s_days_of_feed : Stmt := top 21
abbrev s_Farm_init : Stmt := inClass (top 35) 0
abbrev s_within : Stmt := top 36
abbrev s_lacks_lot : Stmt := top 37
abbrev s_is_full : Stmt := top 38
abbrev s_add_lot : Stmt := top 39
abbrev s_refusal_of : Stmt := top 40
abbrev s_is_pace : Stmt := top 41
abbrev s_call_begin : Stmt := top 42
abbrev s_call_eggs : Stmt := top 43
abbrev s_call_stock : Stmt := top 44
abbrev s_call_day : Stmt := top 45
abbrev s_call_die : Stmt := top 46
abbrev s_call_split : Stmt := top 47
abbrev s_call_join : Stmt := top 48
abbrev s_call_look : Stmt := top 49
abbrev s_call_needs : Stmt := top 50
abbrev s_call_could : Stmt := top 51
abbrev s_call_until : Stmt := top 52
abbrev s_call_eats : Stmt := top 53
abbrev s_call_hatches : Stmt := top 54
abbrev s_call_ahead : Stmt := top 55
abbrev s_call_lasts : Stmt := top 56
abbrev s_call_best : Stmt := top 57
abbrev s_call_sums : Stmt := top 58
abbrev s_call_state : Stmt := top 59
abbrev s_end_of_call : Stmt := top 62
abbrev s_answer_call : Stmt := top 63
abbrev s_answers : Stmt := top 64
abbrev N_Lot_init : List Str := ["self", "hatched", "many", "mass", "degrees"]
theorem sc_Lot_init : FnScope N_Lot_init ["self", "hatched", "many", "mass", "degrees"] (defScope s_Lot_init) := ⟨rfl, rfl, rfl, by decide +kernel, rfl, by decide +kernel, by decide +kernel⟩
abbrev N_copy_of_lot : List Str := ["lot"]
theorem sc_copy_of_lot : FnScope N_copy_of_lot ["lot"] (defScope s_copy_of_lot) := ⟨rfl, rfl, rfl, by decide +kernel, rfl, by decide +kernel, by decide +kernel⟩
abbrev N_each_weighs : List Str := ["lot"]
theorem sc_each_weighs : FnScope N_each_weighs ["lot"] (defScope s_each_weighs) := ⟨rfl, rfl, rfl, by decide +kernel, rfl, by decide +kernel, by decide +kernel⟩
abbrev N_could_grow : List Str := ["lot", "pace"]
theorem sc_could_grow : FnScope N_could_grow ["lot", "pace"] (defScope s_could_grow) := ⟨rfl, rfl, rfl, by decide +kernel, rfl, by decide +kernel, by decide +kernel⟩
abbrev N_needed_feed : List Str := ["growth", "conv"]
theorem sc_needed_feed : FnScope N_needed_feed ["growth", "conv"] (defScope s_needed_feed) := ⟨rfl, rfl, rfl, by decide +kernel, rfl, by decide +kernel, by decide +kernel⟩
abbrev N_eat_and_grow : List Str := ["lot", "share", "pace", "conv"]
theorem sc_eat_and_grow : FnScope N_eat_and_grow ["lot", "share", "pace", "conv"] (defScope s_eat_and_grow) := ⟨rfl, rfl, rfl, by decide +kernel, rfl, by decide +kernel, by decide +kernel⟩
abbrev N_gather_warmth : List Str := ["lot", "warmth", "hatch", "first"]
theorem sc_gather_warmth : FnScope N_gather_warmth ["lot", "warmth", "hatch", "first"] (defScope s_gather_warmth) := ⟨rfl, rfl, rfl, by decide +kernel, rfl, by decide +kernel, by decide +kernel⟩
abbrev N_take_part : List Str := ["lot", "many", "mass"]
theorem sc_take_part : FnScope N_take_part ["lot", "many"] (defScope s_take_part) := ⟨rfl, rfl, rfl, by decide +kernel, rfl, by decide +kernel, by decide +kernel⟩
abbrev N_all_mass : List Str := ["lots", "lot"]
theorem sc_all_mass : FnScope N_all_mass ["lots"] (defScope s_all_mass) := ⟨rfl, rfl, rfl, by decide +kernel, rfl, by decide +kernel, by decide +kernel⟩
abbrev N_needs_of_lots : List Str := ["farm", "lots", "warmth", "pace", "lot"]
theorem sc_needs_of_lots : FnScope N_needs_of_lots ["farm", "lots", "warmth"] (defScope s_needs_of_lots) := ⟨rfl, rfl, rfl, by decide +kernel, rfl, by decide +kernel, by decide +kernel⟩
abbrev N_shares_of_feed : List Str := ["feed", "wanted", "need", "want"]
theorem sc_shares_of_feed : FnScope N_shares_of_feed ["feed", "wanted"] (defScope s_shares_of_feed) := ⟨rfl, rfl, rfl, by decide +kernel, rfl, by decide +kernel, by decide +kernel⟩
abbrev N_live_day : List Str := ["farm", "lots", "warmth", "shares", "lot", "share"]
theorem sc_live_day : FnScope N_live_day ["farm", "lots", "warmth", "shares"] (defScope s_live_day) := ⟨rfl, rfl, rfl, by decide +kernel, rfl, by decide +kernel, by decide +kernel⟩
abbrev N_pass_day : List Str := ["farm", "warmth", "feed", "shares", "eaten"]
theorem sc_pass_day : FnScope N_pass_day ["farm", "warmth", "feed"] (defScope s_pass_day) := ⟨rfl, rfl, rfl, by decide +kernel, rfl, by decide +kernel, by decide +kernel⟩
abbrev N_copy_of_lots : List Str := ["farm", "lot"]
theorem sc_copy_of_lots : FnScope N_copy_of_lots ["farm"] (defScope s_copy_of_lots) := ⟨rfl, rfl, rfl, by decide +kernel, rfl, by decide +kernel, by decide +kernel⟩
abbrev N_live_fed_day : List Str := ["farm", "lots", "warmth"]
theorem sc_live_fed_day : FnScope N_live_fed_day ["farm", "lots", "warmth"] (defScope s_live_fed_day) := ⟨rfl, rfl, rfl, by decide +kernel, rfl, by decide +kernel, by decide +kernel⟩
abbrev N_till_weight : List Str := ["farm", "i", "weight", "warmth", "lots", "days", "eaten"]
theorem sc_till_weight : FnScope N_till_weight ["farm", "i", "weight", "warmth"] (defScope s_till_weight) := ⟨rfl, rfl, rfl, by decide +kernel, rfl, by decide +kernel, by decide +kernel⟩
abbrev N_till_hatched : List Str := ["farm", "lot", "warmth", "lacking"]
theorem sc_till_hatched : FnScope N_till_hatched ["farm", "lot", "warmth"] (defScope s_till_hatched) := ⟨rfl, rfl, rfl, by decide +kernel, rfl, by decide +kernel, by decide +kernel⟩
abbrev N_after_days : List Str := ["farm", "days", "warmth", "lots", "eaten", "day"]
theorem sc_after_days : FnScope N_after_days ["farm", "days", "warmth"] (defScope s_after_days) := ⟨rfl, rfl, rfl, by decide +kernel, rfl, by decide +kernel, by decide +kernel⟩
abbrev N_days_of_feed : List Str := ["farm", "feed", "warmth", "lots", "days", "left"]
theorem sc_days_of_feed : FnScope N_days_of_feed ["farm", "feed", "warmth"] (defScope s_days_of_feed) := ⟨rfl, rfl, rfl, by decide +kernel, rfl, by decide +kernel, by decide +kernel⟩
abbrev N_Farm_init : List Str := ["self"]
theorem sc_Farm_init : FnScope N_Farm_init ["self"] (defScope s_Farm_init) := ⟨rfl, rfl, rfl, by decide +kernel, rfl, by decide +kernel, by decide +kernel⟩
abbrev N_within : List Str := ["number", "least", "most"]
theorem sc_within : FnScope N_within ["number", "least", "most"] (defScope s_within) := ⟨rfl, rfl, rfl, by decide +kernel, rfl, by decide +kernel, by decide +kernel⟩
abbrev N_lacks_lot : List Str := ["farm", "i"]
theorem sc_lacks_lot : FnScope N_lacks_lot ["farm", "i"] (defScope s_lacks_lot) := ⟨rfl, rfl, rfl, by decide +kernel, rfl, by decide +kernel, by decide +kernel⟩
abbrev N_is_full : List Str := ["farm"]
theorem sc_is_full : FnScope N_is_full ["farm"] (defScope s_is_full) := ⟨rfl, rfl, rfl, by decide +kernel, rfl, by decide +kernel, by decide +kernel⟩
abbrev N_add_lot : List Str := ["farm", "lot"]
theorem sc_add_lot : FnScope N_add_lot ["farm", "lot"] (defScope s_add_lot) := ⟨rfl, rfl, rfl, by decide +kernel, rfl, by decide +kernel, by decide +kernel⟩
abbrev N_refusal_of : List Str := ["farm", "i", "warmth"]
theorem sc_refusal_of : FnScope N_refusal_of ["farm", "i", "warmth"] (defScope s_refusal_of) := ⟨rfl, rfl, rfl, by decide +kernel, rfl, by decide +kernel, by decide +kernel⟩
abbrev N_is_pace : List Str := ["pace"]
theorem sc_is_pace : FnScope N_is_pace ["pace"] (defScope s_is_pace) := ⟨rfl, rfl, rfl, by decide +kernel, rfl, by decide +kernel, by decide +kernel⟩
abbrev N_call_begin : List Str := ["farm", "numbers", "hatch", "first", "conv", "pace"]
theorem sc_call_begin : FnScope N_call_begin ["farm", "numbers"] (defScope s_call_begin) := ⟨rfl, rfl, rfl, by decide +kernel, rfl, by decide +kernel, by decide +kernel⟩
abbrev N_call_eggs : List Str := ["farm", "numbers", "many"]
theorem sc_call_eggs : FnScope N_call_eggs ["farm", "numbers"] (defScope s_call_eggs) := ⟨rfl, rfl, rfl, by decide +kernel, rfl, by decide +kernel, by decide +kernel⟩
abbrev N_call_stock : List Str := ["farm", "numbers", "many", "weight"]
theorem sc_call_stock : FnScope N_call_stock ["farm", "numbers"] (defScope s_call_stock) := ⟨rfl, rfl, rfl, by decide +kernel, rfl, by decide +kernel, by decide +kernel⟩
abbrev N_call_day : List Str := ["farm", "numbers", "warmth", "feed", "eaten"]
theorem sc_call_day : FnScope N_call_day ["farm", "numbers"] (defScope s_call_day) := ⟨rfl, rfl, rfl, by decide +kernel, rfl, by decide +kernel, by decide +kernel⟩
abbrev N_call_die : List Str := ["farm", "numbers", "many", "lot", "gone"]
theorem sc_call_die : FnScope N_call_die ["farm", "numbers"] (defScope s_call_die) := ⟨rfl, rfl, rfl, by decide +kernel, rfl, by decide +kernel, by decide +kernel⟩
abbrev N_call_split : List Str := ["farm", "numbers", "many", "lot"]
theorem sc_call_split : FnScope N_call_split ["farm", "numbers"] (defScope s_call_split) := ⟨rfl, rfl, rfl, by decide +kernel, rfl, by decide +kernel, by decide +kernel⟩
abbrev N_call_join : List Str := ["farm", "numbers", "lot", "other"]
theorem sc_call_join : FnScope N_call_join ["farm", "numbers"] (defScope s_call_join) := ⟨rfl, rfl, rfl, by decide +kernel, rfl, by decide +kernel, by decide +kernel⟩
abbrev N_call_look : List Str := ["farm", "numbers", "lot", "hatched"]
theorem sc_call_look : FnScope N_call_look ["farm", "numbers"] (defScope s_call_look) := ⟨rfl, rfl, rfl, by decide +kernel, rfl, by decide +kernel, by decide +kernel⟩
abbrev N_call_needs : List Str := ["farm", "numbers", "warmth"]
theorem sc_call_needs : FnScope N_call_needs ["farm", "numbers"] (defScope s_call_needs) := ⟨rfl, rfl, rfl, by decide +kernel, rfl, by decide +kernel, by decide +kernel⟩
abbrev N_call_could : List Str := ["farm", "numbers", "warmth", "refusal", "growth"]
theorem sc_call_could : FnScope N_call_could ["farm", "numbers"] (defScope s_call_could) := ⟨rfl, rfl, rfl, by decide +kernel, rfl, by decide +kernel, by decide +kernel⟩
abbrev N_call_until : List Str := ["farm", "numbers", "refusal", "till"]
theorem sc_call_until : FnScope N_call_until ["farm", "numbers"] (defScope s_call_until) := ⟨rfl, rfl, rfl, by decide +kernel, rfl, by decide +kernel, by decide +kernel⟩
abbrev N_call_eats : List Str := ["farm", "numbers", "refusal", "till"]
theorem sc_call_eats : FnScope N_call_eats ["farm", "numbers"] (defScope s_call_eats) := ⟨rfl, rfl, rfl, by decide +kernel, rfl, by decide +kernel, by decide +kernel⟩
abbrev N_call_hatches : List Str := ["farm", "numbers", "warmth", "refusal", "lot", "days"]
theorem sc_call_hatches : FnScope N_call_hatches ["farm", "numbers"] (defScope s_call_hatches) := ⟨rfl, rfl, rfl, by decide +kernel, rfl, by decide +kernel, by decide +kernel⟩
abbrev N_call_ahead : List Str := ["farm", "numbers", "days", "warmth"]
theorem sc_call_ahead : FnScope N_call_ahead ["farm", "numbers"] (defScope s_call_ahead) := ⟨rfl, rfl, rfl, by decide +kernel, rfl, by decide +kernel, by decide +kernel⟩
abbrev N_call_lasts : List Str := ["farm", "numbers", "feed", "warmth"]
theorem sc_call_lasts : FnScope N_call_lasts ["farm", "numbers"] (defScope s_call_lasts) := ⟨rfl, rfl, rfl, by decide +kernel, rfl, by decide +kernel, by decide +kernel⟩
abbrev N_call_best : List Str := ["farm", "numbers", "lot", "growths", "most", "pace"]
theorem sc_call_best : FnScope N_call_best ["farm", "numbers"] (defScope s_call_best) := ⟨rfl, rfl, rfl, by decide +kernel, rfl, by decide +kernel, by decide +kernel⟩
abbrev N_call_sums : List Str := ["farm", "numbers"]
theorem sc_call_sums : FnScope N_call_sums ["farm", "numbers"] (defScope s_call_sums) := ⟨rfl, rfl, rfl, by decide +kernel, rfl, by decide +kernel, by decide +kernel⟩
abbrev N_call_state : List Str := ["farm", "numbers", "lot"]
theorem sc_call_state : FnScope N_call_state ["farm", "numbers"] (defScope s_call_state) := ⟨rfl, rfl, rfl, by decide +kernel, rfl, by decide +kernel, by decide +kernel⟩
abbrev N_end_of_call : List Str := ["calls", "start", "end"]
theorem sc_end_of_call : FnScope N_end_of_call ["calls", "start"] (defScope s_end_of_call) := ⟨rfl, rfl, rfl, by decide +kernel, rfl, by decide +kernel, by decide +kernel⟩
abbrev N_answer_call : List Str := ["farm", "number", "numbers"]
theorem sc_answer_call : FnScope N_answer_call ["farm", "number", "numbers"] (defScope s_answer_call) := ⟨rfl, rfl, rfl, by decide +kernel, rfl, by decide +kernel, by decide +kernel⟩
abbrev N_answers : List Str := ["calls", "farm", "told", "start", "end", "answer"]
theorem sc_answers : FnScope N_answers ["calls"] (defScope s_answers) := ⟨rfl, rfl, rfl, by decide +kernel, rfl, by decide +kernel, by decide +kernel⟩
/-! ### facts of the top, by names -/
def w_Lot_init : He.DefD := ⟨("Lot", some "__init__"), "__init__", "Lot.__init__", defArgs s_Lot_init, defBody s_Lot_init, defScope s_Lot_init, [], []⟩
def w_copy_of_lot : He.DefD := ⟨("copy_of_lot", none), "copy_of_lot", "copy_of_lot", defArgs s_copy_of_lot, defBody s_copy_of_lot, defScope s_copy_of_lot, [], []⟩
def w_each_weighs : He.DefD := ⟨("each_weighs", none), "each_weighs", "each_weighs", defArgs s_each_weighs, defBody s_each_weighs, defScope s_each_weighs, [], []⟩
def w_could_grow : He.DefD := ⟨("could_grow", none), "could_grow", "could_grow", defArgs s_could_grow, defBody s_could_grow, defScope s_could_grow, [], []⟩
def w_needed_feed : He.DefD := ⟨("needed_feed", none), "needed_feed", "needed_feed", defArgs s_needed_feed, defBody s_needed_feed, defScope s_needed_feed, [], []⟩
def w_eat_and_grow : He.DefD := ⟨("eat_and_grow", none), "eat_and_grow", "eat_and_grow", defArgs s_eat_and_grow, defBody s_eat_and_grow, defScope s_eat_and_grow, [], []⟩
def w_gather_warmth : He.DefD := ⟨("gather_warmth", none), "gather_warmth", "gather_warmth", defArgs s_gather_warmth, defBody s_gather_warmth, defScope s_gather_warmth, [], []⟩
def w_take_part : He.DefD := ⟨("take_part", none), "take_part", "take_part", defArgs s_take_part, defBody s_take_part, defScope s_take_part, [], []⟩
def w_all_mass : He.DefD := ⟨("all_mass", none), "all_mass", "all_mass", defArgs s_all_mass, defBody s_all_mass, defScope s_all_mass, [], []⟩
def w_needs_of_lots : He.DefD := ⟨("needs_of_lots", none), "needs_of_lots", "needs_of_lots", defArgs s_needs_of_lots, defBody s_needs_of_lots, defScope s_needs_of_lots, [], []⟩
def w_shares_of_feed : He.DefD := ⟨("shares_of_feed", none), "shares_of_feed", "shares_of_feed", defArgs s_shares_of_feed, defBody s_shares_of_feed, defScope s_shares_of_feed, [], []⟩
def w_live_day : He.DefD := ⟨("live_day", none), "live_day", "live_day", defArgs s_live_day, defBody s_live_day, defScope s_live_day, [], []⟩
def w_pass_day : He.DefD := ⟨("pass_day", none), "pass_day", "pass_day", defArgs s_pass_day, defBody s_pass_day, defScope s_pass_day, [], []⟩
def w_copy_of_lots : He.DefD := ⟨("copy_of_lots", none), "copy_of_lots", "copy_of_lots", defArgs s_copy_of_lots, defBody s_copy_of_lots, defScope s_copy_of_lots, [], []⟩
def w_live_fed_day : He.DefD := ⟨("live_fed_day", none), "live_fed_day", "live_fed_day", defArgs s_live_fed_day, defBody s_live_fed_day, defScope s_live_fed_day, [], []⟩
def w_till_weight : He.DefD := ⟨("till_weight", none), "till_weight", "till_weight", defArgs s_till_weight, defBody s_till_weight, defScope s_till_weight, [], []⟩
def w_till_hatched : He.DefD := ⟨("till_hatched", none), "till_hatched", "till_hatched", defArgs s_till_hatched, defBody s_till_hatched, defScope s_till_hatched, [], []⟩
def w_after_days : He.DefD := ⟨("after_days", none), "after_days", "after_days", defArgs s_after_days, defBody s_after_days, defScope s_after_days, [], []⟩
def w_days_of_feed : He.DefD := ⟨("days_of_feed", none), "days_of_feed", "days_of_feed", defArgs s_days_of_feed, defBody s_days_of_feed, defScope s_days_of_feed, [], []⟩
def w_Farm_init : He.DefD := ⟨("Farm", some "__init__"), "__init__", "Farm.__init__", defArgs s_Farm_init, defBody s_Farm_init, defScope s_Farm_init, [], []⟩
def w_within : He.DefD := ⟨("within", none), "within", "within", defArgs s_within, defBody s_within, defScope s_within, [], []⟩
def w_lacks_lot : He.DefD := ⟨("lacks_lot", none), "lacks_lot", "lacks_lot", defArgs s_lacks_lot, defBody s_lacks_lot, defScope s_lacks_lot, [], []⟩
def w_is_full : He.DefD := ⟨("is_full", none), "is_full", "is_full", defArgs s_is_full, defBody s_is_full, defScope s_is_full, [], []⟩
def w_add_lot : He.DefD := ⟨("add_lot", none), "add_lot", "add_lot", defArgs s_add_lot, defBody s_add_lot, defScope s_add_lot, [], []⟩
def w_refusal_of : He.DefD := ⟨("refusal_of", none), "refusal_of", "refusal_of", defArgs s_refusal_of, defBody s_refusal_of, defScope s_refusal_of, [], []⟩
def w_is_pace : He.DefD := ⟨("is_pace", none), "is_pace", "is_pace", defArgs s_is_pace, defBody s_is_pace, defScope s_is_pace, [], []⟩
def w_call_begin : He.DefD := ⟨("call_begin", none), "call_begin", "call_begin", defArgs s_call_begin, defBody s_call_begin, defScope s_call_begin, [], []⟩
def w_call_eggs : He.DefD := ⟨("call_eggs", none), "call_eggs", "call_eggs", defArgs s_call_eggs, defBody s_call_eggs, defScope s_call_eggs, [], []⟩
def w_call_stock : He.DefD := ⟨("call_stock", none), "call_stock", "call_stock", defArgs s_call_stock, defBody s_call_stock, defScope s_call_stock, [], []⟩
def w_call_day : He.DefD := ⟨("call_day", none), "call_day", "call_day", defArgs s_call_day, defBody s_call_day, defScope s_call_day, [], []⟩
def w_call_die : He.DefD := ⟨("call_die", none), "call_die", "call_die", defArgs s_call_die, defBody s_call_die, defScope s_call_die, [], []⟩
def w_call_split : He.DefD := ⟨("call_split", none), "call_split", "call_split", defArgs s_call_split, defBody s_call_split, defScope s_call_split, [], []⟩
def w_call_join : He.DefD := ⟨("call_join", none), "call_join", "call_join", defArgs s_call_join, defBody s_call_join, defScope s_call_join, [], []⟩
def w_call_look : He.DefD := ⟨("call_look", none), "call_look", "call_look", defArgs s_call_look, defBody s_call_look, defScope s_call_look, [], []⟩
def w_call_needs : He.DefD := ⟨("call_needs", none), "call_needs", "call_needs", defArgs s_call_needs, defBody s_call_needs, defScope s_call_needs, [], []⟩
def w_call_could : He.DefD := ⟨("call_could", none), "call_could", "call_could", defArgs s_call_could, defBody s_call_could, defScope s_call_could, [], []⟩
def w_call_until : He.DefD := ⟨("call_until", none), "call_until", "call_until", defArgs s_call_until, defBody s_call_until, defScope s_call_until, [], []⟩
def w_call_eats : He.DefD := ⟨("call_eats", none), "call_eats", "call_eats", defArgs s_call_eats, defBody s_call_eats, defScope s_call_eats, [], []⟩
def w_call_hatches : He.DefD := ⟨("call_hatches", none), "call_hatches", "call_hatches", defArgs s_call_hatches, defBody s_call_hatches, defScope s_call_hatches, [], []⟩
def w_call_ahead : He.DefD := ⟨("call_ahead", none), "call_ahead", "call_ahead", defArgs s_call_ahead, defBody s_call_ahead, defScope s_call_ahead, [], []⟩
def w_call_lasts : He.DefD := ⟨("call_lasts", none), "call_lasts", "call_lasts", defArgs s_call_lasts, defBody s_call_lasts, defScope s_call_lasts, [], []⟩
def w_call_best : He.DefD := ⟨("call_best", none), "call_best", "call_best", defArgs s_call_best, defBody s_call_best, defScope s_call_best, [], []⟩
def w_call_sums : He.DefD := ⟨("call_sums", none), "call_sums", "call_sums", defArgs s_call_sums, defBody s_call_sums, defScope s_call_sums, [], []⟩
def w_call_state : He.DefD := ⟨("call_state", none), "call_state", "call_state", defArgs s_call_state, defBody s_call_state, defScope s_call_state, [], []⟩
def w_end_of_call : He.DefD := ⟨("end_of_call", none), "end_of_call", "end_of_call", defArgs s_end_of_call, defBody s_end_of_call, defScope s_end_of_call, [], []⟩
def w_answer_call : He.DefD := ⟨("answer_call", none), "answer_call", "answer_call", defArgs s_answer_call, defBody s_answer_call, defScope s_answer_call, [], []⟩
def w_answers : He.DefD := ⟨("answers", none), "answers", "answers", defArgs s_answers, defBody s_answers, defScope s_answers, [], []⟩
def fn : List He.DefD := [w_Lot_init, w_copy_of_lot, w_each_weighs, w_could_grow, w_needed_feed, w_eat_and_grow, w_gather_warmth, w_take_part, w_all_mass, w_needs_of_lots, w_shares_of_feed, w_live_day, w_pass_day, w_copy_of_lots, w_live_fed_day, w_till_weight, w_till_hatched, w_after_days, w_days_of_feed, w_Farm_init, w_within, w_lacks_lot, w_is_full, w_add_lot, w_refusal_of, w_is_pace, w_call_begin, w_call_eggs, w_call_stock, w_call_day, w_call_die, w_call_split, w_call_join, w_call_look, w_call_needs, w_call_could, w_call_until, w_call_eats, w_call_hatches, w_call_ahead, w_call_lasts, w_call_best, w_call_sums, w_call_state, w_end_of_call, w_answer_call, w_answers]
def fa : List He.Fa := [.glo "copy_of_lot", .glo "each_weighs", .glo "could_grow", .glo "needed_feed", .glo "eat_and_grow", .glo "gather_warmth", .glo "take_part", .glo "all_mass", .glo "needs_of_lots", .glo "shares_of_feed", .glo "live_day", .glo "pass_day", .glo "copy_of_lots", .glo "live_fed_day", .glo "till_weight", .glo "till_hatched", .glo "after_days", .glo "days_of_feed", .glo "within", .glo "lacks_lot", .glo "is_full", .glo "add_lot", .glo "refusal_of", .glo "is_pace", .glo "call_begin", .glo "call_eggs", .glo "call_stock", .glo "call_day", .glo "call_die", .glo "call_split", .glo "call_join", .glo "call_look", .glo "call_needs", .glo "call_could", .glo "call_until", .glo "call_eats", .glo "call_hatches", .glo "call_ahead", .glo "call_lasts", .glo "call_best", .glo "call_sums", .glo "call_state", .glo "end_of_call", .glo "answer_call", .glo "answers", .glo "Lot", .cls "Lot", .mkr "Lot", .noat "Lot" "hatched", .noat "Lot" "many", .noat "Lot" "mass", .noat "Lot" "degrees", .glo "Farm", .cls "Farm", .mkr "Farm", .noat "Farm" "begun", .noat "Farm" "hatch", .noat "Farm" "first", .noat "Farm" "conv", .noat "Farm" "pace", .noat "Farm" "lots", .noat "Farm" "today", .noat "Farm" "fed", .noat "Farm" "eaten", .noat "Farm" "died", .noat "Farm" "died_mass", .int "MOST_DAYS" (1000), .int "NO_LOT" (-2), .int "HATCHED" (-6), .int "TOO_FEW" (-12), .int "WRONG" (-22), .int "NO_ROOM" (-28), .int "UNLIKE" (-33), .int "NEVER" (-33), .int "NOT_BEGUN" (-61), .int "BEGIN" (0), .int "MOST_LOTS" (10), .int "MOST_IN_LOT" (1000000), .int "WARMEST" (25), .glo "CALLS", .glo "WIDTHS", .free "min", .free "sum", .free "zip", .free "range", .free "len", .free "max", .free "list"]
def tab_CALLS : List He.Dv := [.glo "call_begin", .glo "call_eggs", .glo "call_stock", .glo "call_day", .glo "call_die", .glo "call_split", .glo "call_join", .glo "call_look", .glo "call_needs", .glo "call_could", .glo "call_until", .glo "call_eats", .glo "call_hatches", .glo "call_ahead", .glo "call_lasts", .glo "call_best", .glo "call_sums", .glo "call_state"]
def tab_WIDTHS : List He.Dv := [.int (4), .int (1), .int (2), .int (2), .int (2), .int (2), .int (2), .int (1), .int (1), .int (2), .int (3), .int (3), .int (2), .int (2), .int (2), .int (1), .int (0), .int (0)]
def ex (K : PySem.W.Frag) : Bool := He.tupB K "CALLS" tab_CALLS && He.tupB K "WIDTHS" tab_WIDTHS
/-! ### the Hook: defs, facts, tables -/
abbrev Al : Type := He.AlD × Bool
def obsW (K : PySem.W.Frag) : Al := (He.obsD fa fn K, ex K)
def SaysW (K : PySem.W.Frag) : Prop := obsW K = (He.valD fn, true)
def obsG (g : Addr → Option Obj) : Al := obsW (He.frG g (He.asD g 5))
def hk : PySem.W.Hook where
  α := Al
  obs := fun s => obsG s.heap.get?
  val := fun _ => (He.valD fn, true)
  says := fun _ h => ∃ K : PySem.W.Frag, K.In h ∧ SaysW K
  of := fun _ _ e => ⟨_, He.frG_in, e⟩
  keeps := fun _ _ _ ⟨K, hK, c⟩ k => ⟨K, PySem.W.Frag.In.keeps hK k, c⟩
def ob (s : PySem.W.SharedT) : Al := obsG (HandSHeadRun.getT s)
theorem ob_eq (s : PySem.W.SharedT) : ob s = hk.obs s.abs := by
  have e : HandSHeadRun.getT s = s.abs.heap.get? := funext (HandSHeadRun.getT_eq s)
  show obsG (HandSHeadRun.getT s) = obsG s.abs.heap.get?
  rw [e]
theorem SaysW.d {K : PySem.W.Frag} (c : SaysW K) : He.SaysD fa fn K := congrArg (fun z : Al => z.1) c
theorem SaysW.x {K : PySem.W.Frag} (c : SaysW K) : ex K = true := congrArg (fun z : Al => z.2) c
/-- where a walk stands: what the top left -/
structure Tx (K : PySem.W.Frag) (mg : Str → Option Value) : Prop where
  ex : ∃ h : Heap, K.In h ∧ h.Ns mainGlobals mg
  says : SaysW K
section
variable {K : PySem.W.Frag} {mg : Str → Option Value}
theorem Tx.g_copy_of_lot (T : Tx K mg) : mg "copy_of_lot" = some (.ref (He.ga K "copy_of_lot")) := let ⟨_, X, G⟩ := T.ex; He.glo_ok X G (T.says.d.fact 0 (f := .glo "copy_of_lot") rfl)
theorem Tx.g_each_weighs (T : Tx K mg) : mg "each_weighs" = some (.ref (He.ga K "each_weighs")) := let ⟨_, X, G⟩ := T.ex; He.glo_ok X G (T.says.d.fact 1 (f := .glo "each_weighs") rfl)
theorem Tx.g_could_grow (T : Tx K mg) : mg "could_grow" = some (.ref (He.ga K "could_grow")) := let ⟨_, X, G⟩ := T.ex; He.glo_ok X G (T.says.d.fact 2 (f := .glo "could_grow") rfl)
theorem Tx.g_needed_feed (T : Tx K mg) : mg "needed_feed" = some (.ref (He.ga K "needed_feed")) := let ⟨_, X, G⟩ := T.ex; He.glo_ok X G (T.says.d.fact 3 (f := .glo "needed_feed") rfl)
theorem Tx.g_eat_and_grow (T : Tx K mg) : mg "eat_and_grow" = some (.ref (He.ga K "eat_and_grow")) := let ⟨_, X, G⟩ := T.ex; He.glo_ok X G (T.says.d.fact 4 (f := .glo "eat_and_grow") rfl)
theorem Tx.g_gather_warmth (T : Tx K mg) : mg "gather_warmth" = some (.ref (He.ga K "gather_warmth")) := let ⟨_, X, G⟩ := T.ex; He.glo_ok X G (T.says.d.fact 5 (f := .glo "gather_warmth") rfl)
theorem Tx.g_take_part (T : Tx K mg) : mg "take_part" = some (.ref (He.ga K "take_part")) := let ⟨_, X, G⟩ := T.ex; He.glo_ok X G (T.says.d.fact 6 (f := .glo "take_part") rfl)
theorem Tx.g_all_mass (T : Tx K mg) : mg "all_mass" = some (.ref (He.ga K "all_mass")) := let ⟨_, X, G⟩ := T.ex; He.glo_ok X G (T.says.d.fact 7 (f := .glo "all_mass") rfl)
theorem Tx.g_needs_of_lots (T : Tx K mg) : mg "needs_of_lots" = some (.ref (He.ga K "needs_of_lots")) := let ⟨_, X, G⟩ := T.ex; He.glo_ok X G (T.says.d.fact 8 (f := .glo "needs_of_lots") rfl)
theorem Tx.g_shares_of_feed (T : Tx K mg) : mg "shares_of_feed" = some (.ref (He.ga K "shares_of_feed")) := let ⟨_, X, G⟩ := T.ex; He.glo_ok X G (T.says.d.fact 9 (f := .glo "shares_of_feed") rfl)
theorem Tx.g_live_day (T : Tx K mg) : mg "live_day" = some (.ref (He.ga K "live_day")) := let ⟨_, X, G⟩ := T.ex; He.glo_ok X G (T.says.d.fact 10 (f := .glo "live_day") rfl)
theorem Tx.g_pass_day (T : Tx K mg) : mg "pass_day" = some (.ref (He.ga K "pass_day")) := let ⟨_, X, G⟩ := T.ex; He.glo_ok X G (T.says.d.fact 11 (f := .glo "pass_day") rfl)
theorem Tx.g_copy_of_lots (T : Tx K mg) : mg "copy_of_lots" = some (.ref (He.ga K "copy_of_lots")) := let ⟨_, X, G⟩ := T.ex; He.glo_ok X G (T.says.d.fact 12 (f := .glo "copy_of_lots") rfl)
theorem Tx.g_live_fed_day (T : Tx K mg) : mg "live_fed_day" = some (.ref (He.ga K "live_fed_day")) := let ⟨_, X, G⟩ := T.ex; He.glo_ok X G (T.says.d.fact 13 (f := .glo "live_fed_day") rfl)
theorem Tx.g_till_weight (T : Tx K mg) : mg "till_weight" = some (.ref (He.ga K "till_weight")) := let ⟨_, X, G⟩ := T.ex; He.glo_ok X G (T.says.d.fact 14 (f := .glo "till_weight") rfl)
theorem Tx.g_till_hatched (T : Tx K mg) : mg "till_hatched" = some (.ref (He.ga K "till_hatched")) := let ⟨_, X, G⟩ := T.ex; He.glo_ok X G (T.says.d.fact 15 (f := .glo "till_hatched") rfl)
theorem Tx.g_after_days (T : Tx K mg) : mg "after_days" = some (.ref (He.ga K "after_days")) := let ⟨_, X, G⟩ := T.ex; He.glo_ok X G (T.says.d.fact 16 (f := .glo "after_days") rfl)
theorem Tx.g_days_of_feed (T : Tx K mg) : mg "days_of_feed" = some (.ref (He.ga K "days_of_feed")) := let ⟨_, X, G⟩ := T.ex; He.glo_ok X G (T.says.d.fact 17 (f := .glo "days_of_feed") rfl)
theorem Tx.g_within (T : Tx K mg) : mg "within" = some (.ref (He.ga K "within")) := let ⟨_, X, G⟩ := T.ex; He.glo_ok X G (T.says.d.fact 18 (f := .glo "within") rfl)
theorem Tx.g_lacks_lot (T : Tx K mg) : mg "lacks_lot" = some (.ref (He.ga K "lacks_lot")) := let ⟨_, X, G⟩ := T.ex; He.glo_ok X G (T.says.d.fact 19 (f := .glo "lacks_lot") rfl)
theorem Tx.g_is_full (T : Tx K mg) : mg "is_full" = some (.ref (He.ga K "is_full")) := let ⟨_, X, G⟩ := T.ex; He.glo_ok X G (T.says.d.fact 20 (f := .glo "is_full") rfl)
theorem Tx.g_add_lot (T : Tx K mg) : mg "add_lot" = some (.ref (He.ga K "add_lot")) := let ⟨_, X, G⟩ := T.ex; He.glo_ok X G (T.says.d.fact 21 (f := .glo "add_lot") rfl)
theorem Tx.g_refusal_of (T : Tx K mg) : mg "refusal_of" = some (.ref (He.ga K "refusal_of")) := let ⟨_, X, G⟩ := T.ex; He.glo_ok X G (T.says.d.fact 22 (f := .glo "refusal_of") rfl)
theorem Tx.g_is_pace (T : Tx K mg) : mg "is_pace" = some (.ref (He.ga K "is_pace")) := let ⟨_, X, G⟩ := T.ex; He.glo_ok X G (T.says.d.fact 23 (f := .glo "is_pace") rfl)
theorem Tx.g_call_begin (T : Tx K mg) : mg "call_begin" = some (.ref (He.ga K "call_begin")) := let ⟨_, X, G⟩ := T.ex; He.glo_ok X G (T.says.d.fact 24 (f := .glo "call_begin") rfl)
theorem Tx.g_call_eggs (T : Tx K mg) : mg "call_eggs" = some (.ref (He.ga K "call_eggs")) := let ⟨_, X, G⟩ := T.ex; He.glo_ok X G (T.says.d.fact 25 (f := .glo "call_eggs") rfl)
theorem Tx.g_call_stock (T : Tx K mg) : mg "call_stock" = some (.ref (He.ga K "call_stock")) := let ⟨_, X, G⟩ := T.ex; He.glo_ok X G (T.says.d.fact 26 (f := .glo "call_stock") rfl)
theorem Tx.g_call_day (T : Tx K mg) : mg "call_day" = some (.ref (He.ga K "call_day")) := let ⟨_, X, G⟩ := T.ex; He.glo_ok X G (T.says.d.fact 27 (f := .glo "call_day") rfl)
theorem Tx.g_call_die (T : Tx K mg) : mg "call_die" = some (.ref (He.ga K "call_die")) := let ⟨_, X, G⟩ := T.ex; He.glo_ok X G (T.says.d.fact 28 (f := .glo "call_die") rfl)
theorem Tx.g_call_split (T : Tx K mg) : mg "call_split" = some (.ref (He.ga K "call_split")) := let ⟨_, X, G⟩ := T.ex; He.glo_ok X G (T.says.d.fact 29 (f := .glo "call_split") rfl)
theorem Tx.g_call_join (T : Tx K mg) : mg "call_join" = some (.ref (He.ga K "call_join")) := let ⟨_, X, G⟩ := T.ex; He.glo_ok X G (T.says.d.fact 30 (f := .glo "call_join") rfl)
theorem Tx.g_call_look (T : Tx K mg) : mg "call_look" = some (.ref (He.ga K "call_look")) := let ⟨_, X, G⟩ := T.ex; He.glo_ok X G (T.says.d.fact 31 (f := .glo "call_look") rfl)
theorem Tx.g_call_needs (T : Tx K mg) : mg "call_needs" = some (.ref (He.ga K "call_needs")) := let ⟨_, X, G⟩ := T.ex; He.glo_ok X G (T.says.d.fact 32 (f := .glo "call_needs") rfl)
theorem Tx.g_call_could (T : Tx K mg) : mg "call_could" = some (.ref (He.ga K "call_could")) := let ⟨_, X, G⟩ := T.ex; He.glo_ok X G (T.says.d.fact 33 (f := .glo "call_could") rfl)
theorem Tx.g_call_until (T : Tx K mg) : mg "call_until" = some (.ref (He.ga K "call_until")) := let ⟨_, X, G⟩ := T.ex; He.glo_ok X G (T.says.d.fact 34 (f := .glo "call_until") rfl)
theorem Tx.g_call_eats (T : Tx K mg) : mg "call_eats" = some (.ref (He.ga K "call_eats")) := let ⟨_, X, G⟩ := T.ex; He.glo_ok X G (T.says.d.fact 35 (f := .glo "call_eats") rfl)
theorem Tx.g_call_hatches (T : Tx K mg) : mg "call_hatches" = some (.ref (He.ga K "call_hatches")) := let ⟨_, X, G⟩ := T.ex; He.glo_ok X G (T.says.d.fact 36 (f := .glo "call_hatches") rfl)
theorem Tx.g_call_ahead (T : Tx K mg) : mg "call_ahead" = some (.ref (He.ga K "call_ahead")) := let ⟨_, X, G⟩ := T.ex; He.glo_ok X G (T.says.d.fact 37 (f := .glo "call_ahead") rfl)
theorem Tx.g_call_lasts (T : Tx K mg) : mg "call_lasts" = some (.ref (He.ga K "call_lasts")) := let ⟨_, X, G⟩ := T.ex; He.glo_ok X G (T.says.d.fact 38 (f := .glo "call_lasts") rfl)
theorem Tx.g_call_best (T : Tx K mg) : mg "call_best" = some (.ref (He.ga K "call_best")) := let ⟨_, X, G⟩ := T.ex; He.glo_ok X G (T.says.d.fact 39 (f := .glo "call_best") rfl)
theorem Tx.g_call_sums (T : Tx K mg) : mg "call_sums" = some (.ref (He.ga K "call_sums")) := let ⟨_, X, G⟩ := T.ex; He.glo_ok X G (T.says.d.fact 40 (f := .glo "call_sums") rfl)
theorem Tx.g_call_state (T : Tx K mg) : mg "call_state" = some (.ref (He.ga K "call_state")) := let ⟨_, X, G⟩ := T.ex; He.glo_ok X G (T.says.d.fact 41 (f := .glo "call_state") rfl)
theorem Tx.g_end_of_call (T : Tx K mg) : mg "end_of_call" = some (.ref (He.ga K "end_of_call")) := let ⟨_, X, G⟩ := T.ex; He.glo_ok X G (T.says.d.fact 42 (f := .glo "end_of_call") rfl)
theorem Tx.g_answer_call (T : Tx K mg) : mg "answer_call" = some (.ref (He.ga K "answer_call")) := let ⟨_, X, G⟩ := T.ex; He.glo_ok X G (T.says.d.fact 43 (f := .glo "answer_call") rfl)
theorem Tx.g_answers (T : Tx K mg) : mg "answers" = some (.ref (He.ga K "answers")) := let ⟨_, X, G⟩ := T.ex; He.glo_ok X G (T.says.d.fact 44 (f := .glo "answers") rfl)
theorem Tx.g_Lot (T : Tx K mg) : mg "Lot" = some (.ref (He.ga K "Lot")) := let ⟨_, X, G⟩ := T.ex; He.glo_ok X G (T.says.d.fact 45 (f := .glo "Lot") rfl)
theorem Tx.c_Lot (T : Tx K mg) : Cls K (He.ga K "Lot") := He.cls_ok (T.says.d.fact 46 (f := .cls "Lot") rfl)
theorem Tx.m_Lot (T : Tx K mg) : Mk K (He.ga K "Lot") (He.ma K (He.ga K "Lot") "__init__") := He.mkr_ok (T.says.d.fact 47 (f := .mkr "Lot") rfl)
theorem Tx.n_Lot_hatched (T : Tx K mg) : NoAttr K (He.ga K "Lot") "hatched" := He.noat_ok (T.says.d.fact 48 (f := .noat "Lot" "hatched") rfl)
theorem Tx.n_Lot_many (T : Tx K mg) : NoAttr K (He.ga K "Lot") "many" := He.noat_ok (T.says.d.fact 49 (f := .noat "Lot" "many") rfl)
theorem Tx.n_Lot_mass (T : Tx K mg) : NoAttr K (He.ga K "Lot") "mass" := He.noat_ok (T.says.d.fact 50 (f := .noat "Lot" "mass") rfl)
theorem Tx.n_Lot_degrees (T : Tx K mg) : NoAttr K (He.ga K "Lot") "degrees" := He.noat_ok (T.says.d.fact 51 (f := .noat "Lot" "degrees") rfl)
theorem Tx.g_Farm (T : Tx K mg) : mg "Farm" = some (.ref (He.ga K "Farm")) := let ⟨_, X, G⟩ := T.ex; He.glo_ok X G (T.says.d.fact 52 (f := .glo "Farm") rfl)
theorem Tx.c_Farm (T : Tx K mg) : Cls K (He.ga K "Farm") := He.cls_ok (T.says.d.fact 53 (f := .cls "Farm") rfl)
theorem Tx.m_Farm (T : Tx K mg) : Mk K (He.ga K "Farm") (He.ma K (He.ga K "Farm") "__init__") := He.mkr_ok (T.says.d.fact 54 (f := .mkr "Farm") rfl)
theorem Tx.n_Farm_begun (T : Tx K mg) : NoAttr K (He.ga K "Farm") "begun" := He.noat_ok (T.says.d.fact 55 (f := .noat "Farm" "begun") rfl)
theorem Tx.n_Farm_hatch (T : Tx K mg) : NoAttr K (He.ga K "Farm") "hatch" := He.noat_ok (T.says.d.fact 56 (f := .noat "Farm" "hatch") rfl)
theorem Tx.n_Farm_first (T : Tx K mg) : NoAttr K (He.ga K "Farm") "first" := He.noat_ok (T.says.d.fact 57 (f := .noat "Farm" "first") rfl)
theorem Tx.n_Farm_conv (T : Tx K mg) : NoAttr K (He.ga K "Farm") "conv" := He.noat_ok (T.says.d.fact 58 (f := .noat "Farm" "conv") rfl)
theorem Tx.n_Farm_pace (T : Tx K mg) : NoAttr K (He.ga K "Farm") "pace" := He.noat_ok (T.says.d.fact 59 (f := .noat "Farm" "pace") rfl)
theorem Tx.n_Farm_lots (T : Tx K mg) : NoAttr K (He.ga K "Farm") "lots" := He.noat_ok (T.says.d.fact 60 (f := .noat "Farm" "lots") rfl)
theorem Tx.n_Farm_today (T : Tx K mg) : NoAttr K (He.ga K "Farm") "today" := He.noat_ok (T.says.d.fact 61 (f := .noat "Farm" "today") rfl)
theorem Tx.n_Farm_fed (T : Tx K mg) : NoAttr K (He.ga K "Farm") "fed" := He.noat_ok (T.says.d.fact 62 (f := .noat "Farm" "fed") rfl)
theorem Tx.n_Farm_eaten (T : Tx K mg) : NoAttr K (He.ga K "Farm") "eaten" := He.noat_ok (T.says.d.fact 63 (f := .noat "Farm" "eaten") rfl)
theorem Tx.n_Farm_died (T : Tx K mg) : NoAttr K (He.ga K "Farm") "died" := He.noat_ok (T.says.d.fact 64 (f := .noat "Farm" "died") rfl)
theorem Tx.n_Farm_died_mass (T : Tx K mg) : NoAttr K (He.ga K "Farm") "died_mass" := He.noat_ok (T.says.d.fact 65 (f := .noat "Farm" "died_mass") rfl)
theorem Tx.i_MOST_DAYS (T : Tx K mg) : ∃ t, mg "MOST_DAYS" = some (.int (1000) t) := let ⟨_, X, G⟩ := T.ex; He.int_ok X G (T.says.d.fact 66 (f := .int "MOST_DAYS" (1000)) rfl)
theorem Tx.i_NO_LOT (T : Tx K mg) : ∃ t, mg "NO_LOT" = some (.int (-2) t) := let ⟨_, X, G⟩ := T.ex; He.int_ok X G (T.says.d.fact 67 (f := .int "NO_LOT" (-2)) rfl)
theorem Tx.i_HATCHED (T : Tx K mg) : ∃ t, mg "HATCHED" = some (.int (-6) t) := let ⟨_, X, G⟩ := T.ex; He.int_ok X G (T.says.d.fact 68 (f := .int "HATCHED" (-6)) rfl)
theorem Tx.i_TOO_FEW (T : Tx K mg) : ∃ t, mg "TOO_FEW" = some (.int (-12) t) := let ⟨_, X, G⟩ := T.ex; He.int_ok X G (T.says.d.fact 69 (f := .int "TOO_FEW" (-12)) rfl)
theorem Tx.i_WRONG (T : Tx K mg) : ∃ t, mg "WRONG" = some (.int (-22) t) := let ⟨_, X, G⟩ := T.ex; He.int_ok X G (T.says.d.fact 70 (f := .int "WRONG" (-22)) rfl)
theorem Tx.i_NO_ROOM (T : Tx K mg) : ∃ t, mg "NO_ROOM" = some (.int (-28) t) := let ⟨_, X, G⟩ := T.ex; He.int_ok X G (T.says.d.fact 71 (f := .int "NO_ROOM" (-28)) rfl)
theorem Tx.i_UNLIKE (T : Tx K mg) : ∃ t, mg "UNLIKE" = some (.int (-33) t) := let ⟨_, X, G⟩ := T.ex; He.int_ok X G (T.says.d.fact 72 (f := .int "UNLIKE" (-33)) rfl)
theorem Tx.i_NEVER (T : Tx K mg) : ∃ t, mg "NEVER" = some (.int (-33) t) := let ⟨_, X, G⟩ := T.ex; He.int_ok X G (T.says.d.fact 73 (f := .int "NEVER" (-33)) rfl)
theorem Tx.i_NOT_BEGUN (T : Tx K mg) : ∃ t, mg "NOT_BEGUN" = some (.int (-61) t) := let ⟨_, X, G⟩ := T.ex; He.int_ok X G (T.says.d.fact 74 (f := .int "NOT_BEGUN" (-61)) rfl)
theorem Tx.i_BEGIN (T : Tx K mg) : ∃ t, mg "BEGIN" = some (.int (0) t) := let ⟨_, X, G⟩ := T.ex; He.int_ok X G (T.says.d.fact 75 (f := .int "BEGIN" (0)) rfl)
theorem Tx.i_MOST_LOTS (T : Tx K mg) : ∃ t, mg "MOST_LOTS" = some (.int (10) t) := let ⟨_, X, G⟩ := T.ex; He.int_ok X G (T.says.d.fact 76 (f := .int "MOST_LOTS" (10)) rfl)
theorem Tx.i_MOST_IN_LOT (T : Tx K mg) : ∃ t, mg "MOST_IN_LOT" = some (.int (1000000) t) := let ⟨_, X, G⟩ := T.ex; He.int_ok X G (T.says.d.fact 77 (f := .int "MOST_IN_LOT" (1000000)) rfl)
theorem Tx.i_WARMEST (T : Tx K mg) : ∃ t, mg "WARMEST" = some (.int (25) t) := let ⟨_, X, G⟩ := T.ex; He.int_ok X G (T.says.d.fact 78 (f := .int "WARMEST" (25)) rfl)
theorem Tx.g_CALLS (T : Tx K mg) : mg "CALLS" = some (.ref (He.ga K "CALLS")) := let ⟨_, X, G⟩ := T.ex; He.glo_ok X G (T.says.d.fact 79 (f := .glo "CALLS") rfl)
theorem Tx.g_WIDTHS (T : Tx K mg) : mg "WIDTHS" = some (.ref (He.ga K "WIDTHS")) := let ⟨_, X, G⟩ := T.ex; He.glo_ok X G (T.says.d.fact 80 (f := .glo "WIDTHS") rfl)
theorem Tx.b_min (T : Tx K mg) : mg "min" = none := let ⟨_, X, G⟩ := T.ex; He.free_ok X G (T.says.d.fact 81 (f := .free "min") rfl)
theorem Tx.b_sum (T : Tx K mg) : mg "sum" = none := let ⟨_, X, G⟩ := T.ex; He.free_ok X G (T.says.d.fact 82 (f := .free "sum") rfl)
theorem Tx.b_zip (T : Tx K mg) : mg "zip" = none := let ⟨_, X, G⟩ := T.ex; He.free_ok X G (T.says.d.fact 83 (f := .free "zip") rfl)
theorem Tx.b_range (T : Tx K mg) : mg "range" = none := let ⟨_, X, G⟩ := T.ex; He.free_ok X G (T.says.d.fact 84 (f := .free "range") rfl)
theorem Tx.b_len (T : Tx K mg) : mg "len" = none := let ⟨_, X, G⟩ := T.ex; He.free_ok X G (T.says.d.fact 85 (f := .free "len") rfl)
theorem Tx.b_max (T : Tx K mg) : mg "max" = none := let ⟨_, X, G⟩ := T.ex; He.free_ok X G (T.says.d.fact 86 (f := .free "max") rfl)
theorem Tx.b_list (T : Tx K mg) : mg "list" = none := let ⟨_, X, G⟩ := T.ex; He.free_ok X G (T.says.d.fact 87 (f := .free "list") rfl)
theorem Tx.d_Lot_init (T : Tx K mg) : ∃ fd, FunD K "__init__" "Lot.__init__" (defArgs s_Lot_init) (defBody s_Lot_init) (defScope s_Lot_init) [] [] (He.ma K (He.ga K "Lot") "__init__") fd := T.says.d.def_ 0 (d := w_Lot_init) rfl
theorem Tx.d_copy_of_lot (T : Tx K mg) : ∃ fd, FunD K "copy_of_lot" "copy_of_lot" (defArgs s_copy_of_lot) (defBody s_copy_of_lot) (defScope s_copy_of_lot) [] [] (He.ga K "copy_of_lot") fd := T.says.d.def_ 1 (d := w_copy_of_lot) rfl
theorem Tx.d_each_weighs (T : Tx K mg) : ∃ fd, FunD K "each_weighs" "each_weighs" (defArgs s_each_weighs) (defBody s_each_weighs) (defScope s_each_weighs) [] [] (He.ga K "each_weighs") fd := T.says.d.def_ 2 (d := w_each_weighs) rfl
theorem Tx.d_could_grow (T : Tx K mg) : ∃ fd, FunD K "could_grow" "could_grow" (defArgs s_could_grow) (defBody s_could_grow) (defScope s_could_grow) [] [] (He.ga K "could_grow") fd := T.says.d.def_ 3 (d := w_could_grow) rfl
theorem Tx.d_needed_feed (T : Tx K mg) : ∃ fd, FunD K "needed_feed" "needed_feed" (defArgs s_needed_feed) (defBody s_needed_feed) (defScope s_needed_feed) [] [] (He.ga K "needed_feed") fd := T.says.d.def_ 4 (d := w_needed_feed) rfl
theorem Tx.d_eat_and_grow (T : Tx K mg) : ∃ fd, FunD K "eat_and_grow" "eat_and_grow" (defArgs s_eat_and_grow) (defBody s_eat_and_grow) (defScope s_eat_and_grow) [] [] (He.ga K "eat_and_grow") fd := T.says.d.def_ 5 (d := w_eat_and_grow) rfl
theorem Tx.d_gather_warmth (T : Tx K mg) : ∃ fd, FunD K "gather_warmth" "gather_warmth" (defArgs s_gather_warmth) (defBody s_gather_warmth) (defScope s_gather_warmth) [] [] (He.ga K "gather_warmth") fd := T.says.d.def_ 6 (d := w_gather_warmth) rfl
theorem Tx.d_take_part (T : Tx K mg) : ∃ fd, FunD K "take_part" "take_part" (defArgs s_take_part) (defBody s_take_part) (defScope s_take_part) [] [] (He.ga K "take_part") fd := T.says.d.def_ 7 (d := w_take_part) rfl
theorem Tx.d_all_mass (T : Tx K mg) : ∃ fd, FunD K "all_mass" "all_mass" (defArgs s_all_mass) (defBody s_all_mass) (defScope s_all_mass) [] [] (He.ga K "all_mass") fd := T.says.d.def_ 8 (d := w_all_mass) rfl
theorem Tx.d_needs_of_lots (T : Tx K mg) : ∃ fd, FunD K "needs_of_lots" "needs_of_lots" (defArgs s_needs_of_lots) (defBody s_needs_of_lots) (defScope s_needs_of_lots) [] [] (He.ga K "needs_of_lots") fd := T.says.d.def_ 9 (d := w_needs_of_lots) rfl
theorem Tx.d_shares_of_feed (T : Tx K mg) : ∃ fd, FunD K "shares_of_feed" "shares_of_feed" (defArgs s_shares_of_feed) (defBody s_shares_of_feed) (defScope s_shares_of_feed) [] [] (He.ga K "shares_of_feed") fd := T.says.d.def_ 10 (d := w_shares_of_feed) rfl
theorem Tx.d_live_day (T : Tx K mg) : ∃ fd, FunD K "live_day" "live_day" (defArgs s_live_day) (defBody s_live_day) (defScope s_live_day) [] [] (He.ga K "live_day") fd := T.says.d.def_ 11 (d := w_live_day) rfl
theorem Tx.d_pass_day (T : Tx K mg) : ∃ fd, FunD K "pass_day" "pass_day" (defArgs s_pass_day) (defBody s_pass_day) (defScope s_pass_day) [] [] (He.ga K "pass_day") fd := T.says.d.def_ 12 (d := w_pass_day) rfl
theorem Tx.d_copy_of_lots (T : Tx K mg) : ∃ fd, FunD K "copy_of_lots" "copy_of_lots" (defArgs s_copy_of_lots) (defBody s_copy_of_lots) (defScope s_copy_of_lots) [] [] (He.ga K "copy_of_lots") fd := T.says.d.def_ 13 (d := w_copy_of_lots) rfl
theorem Tx.d_live_fed_day (T : Tx K mg) : ∃ fd, FunD K "live_fed_day" "live_fed_day" (defArgs s_live_fed_day) (defBody s_live_fed_day) (defScope s_live_fed_day) [] [] (He.ga K "live_fed_day") fd := T.says.d.def_ 14 (d := w_live_fed_day) rfl
theorem Tx.d_till_weight (T : Tx K mg) : ∃ fd, FunD K "till_weight" "till_weight" (defArgs s_till_weight) (defBody s_till_weight) (defScope s_till_weight) [] [] (He.ga K "till_weight") fd := T.says.d.def_ 15 (d := w_till_weight) rfl
theorem Tx.d_till_hatched (T : Tx K mg) : ∃ fd, FunD K "till_hatched" "till_hatched" (defArgs s_till_hatched) (defBody s_till_hatched) (defScope s_till_hatched) [] [] (He.ga K "till_hatched") fd := T.says.d.def_ 16 (d := w_till_hatched) rfl
theorem Tx.d_after_days (T : Tx K mg) : ∃ fd, FunD K "after_days" "after_days" (defArgs s_after_days) (defBody s_after_days) (defScope s_after_days) [] [] (He.ga K "after_days") fd := T.says.d.def_ 17 (d := w_after_days) rfl
theorem Tx.d_days_of_feed (T : Tx K mg) : ∃ fd, FunD K "days_of_feed" "days_of_feed" (defArgs s_days_of_feed) (defBody s_days_of_feed) (defScope s_days_of_feed) [] [] (He.ga K "days_of_feed") fd := T.says.d.def_ 18 (d := w_days_of_feed) rfl
theorem Tx.d_Farm_init (T : Tx K mg) : ∃ fd, FunD K "__init__" "Farm.__init__" (defArgs s_Farm_init) (defBody s_Farm_init) (defScope s_Farm_init) [] [] (He.ma K (He.ga K "Farm") "__init__") fd := T.says.d.def_ 19 (d := w_Farm_init) rfl
theorem Tx.d_within (T : Tx K mg) : ∃ fd, FunD K "within" "within" (defArgs s_within) (defBody s_within) (defScope s_within) [] [] (He.ga K "within") fd := T.says.d.def_ 20 (d := w_within) rfl
theorem Tx.d_lacks_lot (T : Tx K mg) : ∃ fd, FunD K "lacks_lot" "lacks_lot" (defArgs s_lacks_lot) (defBody s_lacks_lot) (defScope s_lacks_lot) [] [] (He.ga K "lacks_lot") fd := T.says.d.def_ 21 (d := w_lacks_lot) rfl
theorem Tx.d_is_full (T : Tx K mg) : ∃ fd, FunD K "is_full" "is_full" (defArgs s_is_full) (defBody s_is_full) (defScope s_is_full) [] [] (He.ga K "is_full") fd := T.says.d.def_ 22 (d := w_is_full) rfl
theorem Tx.d_add_lot (T : Tx K mg) : ∃ fd, FunD K "add_lot" "add_lot" (defArgs s_add_lot) (defBody s_add_lot) (defScope s_add_lot) [] [] (He.ga K "add_lot") fd := T.says.d.def_ 23 (d := w_add_lot) rfl
theorem Tx.d_refusal_of (T : Tx K mg) : ∃ fd, FunD K "refusal_of" "refusal_of" (defArgs s_refusal_of) (defBody s_refusal_of) (defScope s_refusal_of) [] [] (He.ga K "refusal_of") fd := T.says.d.def_ 24 (d := w_refusal_of) rfl
theorem Tx.d_is_pace (T : Tx K mg) : ∃ fd, FunD K "is_pace" "is_pace" (defArgs s_is_pace) (defBody s_is_pace) (defScope s_is_pace) [] [] (He.ga K "is_pace") fd := T.says.d.def_ 25 (d := w_is_pace) rfl
theorem Tx.d_call_begin (T : Tx K mg) : ∃ fd, FunD K "call_begin" "call_begin" (defArgs s_call_begin) (defBody s_call_begin) (defScope s_call_begin) [] [] (He.ga K "call_begin") fd := T.says.d.def_ 26 (d := w_call_begin) rfl
theorem Tx.d_call_eggs (T : Tx K mg) : ∃ fd, FunD K "call_eggs" "call_eggs" (defArgs s_call_eggs) (defBody s_call_eggs) (defScope s_call_eggs) [] [] (He.ga K "call_eggs") fd := T.says.d.def_ 27 (d := w_call_eggs) rfl
theorem Tx.d_call_stock (T : Tx K mg) : ∃ fd, FunD K "call_stock" "call_stock" (defArgs s_call_stock) (defBody s_call_stock) (defScope s_call_stock) [] [] (He.ga K "call_stock") fd := T.says.d.def_ 28 (d := w_call_stock) rfl
theorem Tx.d_call_day (T : Tx K mg) : ∃ fd, FunD K "call_day" "call_day" (defArgs s_call_day) (defBody s_call_day) (defScope s_call_day) [] [] (He.ga K "call_day") fd := T.says.d.def_ 29 (d := w_call_day) rfl
theorem Tx.d_call_die (T : Tx K mg) : ∃ fd, FunD K "call_die" "call_die" (defArgs s_call_die) (defBody s_call_die) (defScope s_call_die) [] [] (He.ga K "call_die") fd := T.says.d.def_ 30 (d := w_call_die) rfl
theorem Tx.d_call_split (T : Tx K mg) : ∃ fd, FunD K "call_split" "call_split" (defArgs s_call_split) (defBody s_call_split) (defScope s_call_split) [] [] (He.ga K "call_split") fd := T.says.d.def_ 31 (d := w_call_split) rfl
theorem Tx.d_call_join (T : Tx K mg) : ∃ fd, FunD K "call_join" "call_join" (defArgs s_call_join) (defBody s_call_join) (defScope s_call_join) [] [] (He.ga K "call_join") fd := T.says.d.def_ 32 (d := w_call_join) rfl
theorem Tx.d_call_look (T : Tx K mg) : ∃ fd, FunD K "call_look" "call_look" (defArgs s_call_look) (defBody s_call_look) (defScope s_call_look) [] [] (He.ga K "call_look") fd := T.says.d.def_ 33 (d := w_call_look) rfl
theorem Tx.d_call_needs (T : Tx K mg) : ∃ fd, FunD K "call_needs" "call_needs" (defArgs s_call_needs) (defBody s_call_needs) (defScope s_call_needs) [] [] (He.ga K "call_needs") fd := T.says.d.def_ 34 (d := w_call_needs) rfl
theorem Tx.d_call_could (T : Tx K mg) : ∃ fd, FunD K "call_could" "call_could" (defArgs s_call_could) (defBody s_call_could) (defScope s_call_could) [] [] (He.ga K "call_could") fd := T.says.d.def_ 35 (d := w_call_could) rfl
theorem Tx.d_call_until (T : Tx K mg) : ∃ fd, FunD K "call_until" "call_until" (defArgs s_call_until) (defBody s_call_until) (defScope s_call_until) [] [] (He.ga K "call_until") fd := T.says.d.def_ 36 (d := w_call_until) rfl
theorem Tx.d_call_eats (T : Tx K mg) : ∃ fd, FunD K "call_eats" "call_eats" (defArgs s_call_eats) (defBody s_call_eats) (defScope s_call_eats) [] [] (He.ga K "call_eats") fd := T.says.d.def_ 37 (d := w_call_eats) rfl
theorem Tx.d_call_hatches (T : Tx K mg) : ∃ fd, FunD K "call_hatches" "call_hatches" (defArgs s_call_hatches) (defBody s_call_hatches) (defScope s_call_hatches) [] [] (He.ga K "call_hatches") fd := T.says.d.def_ 38 (d := w_call_hatches) rfl
theorem Tx.d_call_ahead (T : Tx K mg) : ∃ fd, FunD K "call_ahead" "call_ahead" (defArgs s_call_ahead) (defBody s_call_ahead) (defScope s_call_ahead) [] [] (He.ga K "call_ahead") fd := T.says.d.def_ 39 (d := w_call_ahead) rfl
theorem Tx.d_call_lasts (T : Tx K mg) : ∃ fd, FunD K "call_lasts" "call_lasts" (defArgs s_call_lasts) (defBody s_call_lasts) (defScope s_call_lasts) [] [] (He.ga K "call_lasts") fd := T.says.d.def_ 40 (d := w_call_lasts) rfl
theorem Tx.d_call_best (T : Tx K mg) : ∃ fd, FunD K "call_best" "call_best" (defArgs s_call_best) (defBody s_call_best) (defScope s_call_best) [] [] (He.ga K "call_best") fd := T.says.d.def_ 41 (d := w_call_best) rfl
theorem Tx.d_call_sums (T : Tx K mg) : ∃ fd, FunD K "call_sums" "call_sums" (defArgs s_call_sums) (defBody s_call_sums) (defScope s_call_sums) [] [] (He.ga K "call_sums") fd := T.says.d.def_ 42 (d := w_call_sums) rfl
theorem Tx.d_call_state (T : Tx K mg) : ∃ fd, FunD K "call_state" "call_state" (defArgs s_call_state) (defBody s_call_state) (defScope s_call_state) [] [] (He.ga K "call_state") fd := T.says.d.def_ 43 (d := w_call_state) rfl
theorem Tx.d_end_of_call (T : Tx K mg) : ∃ fd, FunD K "end_of_call" "end_of_call" (defArgs s_end_of_call) (defBody s_end_of_call) (defScope s_end_of_call) [] [] (He.ga K "end_of_call") fd := T.says.d.def_ 44 (d := w_end_of_call) rfl
theorem Tx.d_answer_call (T : Tx K mg) : ∃ fd, FunD K "answer_call" "answer_call" (defArgs s_answer_call) (defBody s_answer_call) (defScope s_answer_call) [] [] (He.ga K "answer_call") fd := T.says.d.def_ 45 (d := w_answer_call) rfl
theorem Tx.d_answers (T : Tx K mg) : ∃ fd, FunD K "answers" "answers" (defArgs s_answers) (defBody s_answers) (defScope s_answers) [] [] (He.ga K "answers") fd := T.says.d.def_ 46 (d := w_answers) rfl
theorem Tx.t_CALLS (T : Tx K mg) (H : Hp) : SqT K H (He.ga K "CALLS") (tab_CALLS.map (He.Dv.v K)) := He.tupB_ok (x := "CALLS") (vs := tab_CALLS) (He.ba T.says.x).1 H
theorem Tx.t_WIDTHS (T : Tx K mg) (H : Hp) : SqT K H (He.ga K "WIDTHS") (tab_WIDTHS.map (He.Dv.v K)) := He.tupB_ok (x := "WIDTHS") (vs := tab_WIDTHS) (He.ba T.says.x).2 H
end
abbrev R : PySem.W.OpenSpec := PySem.Challenge.rw_warmthgrown_s01_answers
def names0 : List Str := ["Lot", "copy_of_lot", "each_weighs", "could_grow", "needed_feed", "eat_and_grow", "gather_warmth", "take_part", "all_mass", "needs_of_lots", "shares_of_feed", "live_day", "pass_day", "copy_of_lots", "live_fed_day", "till_weight", "till_hatched", "after_days", "days_of_feed", "Farm", "within", "lacks_lot", "is_full", "add_lot", "refusal_of", "is_pace", "call_begin", "call_eggs", "call_stock", "call_day"]
def names1 : List Str := ["call_die", "call_split", "call_join", "call_look", "call_needs", "call_could", "call_until", "call_eats", "call_hatches", "call_ahead", "call_lasts", "call_best", "call_sums", "call_state", "end_of_call", "answer_call", "MOST_DAYS", "NO_LOT", "HATCHED", "TOO_FEW", "WRONG", "NO_ROOM", "UNLIKE", "NEVER", "NOT_BEGUN", "BEGIN", "MOST_LOTS", "MOST_IN_LOT", "WARMEST", "CALLS"]
def names2 : List Str := ["WIDTHS"]
def names : List Str := names0 ++ names1 ++ names2
abbrev qv : Program := PySem.W.view R.prog [64]
def ansPlace : Nat := 64
end Wg

set_option Elab.async false
set_option linter.all false
set_option maxRecDepth 100000
set_option maxHeartbeats 4000000
/-! Short words over the layer: a def by its name, a class by its name, a call of what a table holds, the end of the row by a Hook. -/
namespace Wg
open PySem PySem.Spec PyProof.Rows L2
open PySem.W (WData Codec OpenSpec Well WellAll ReadsW ReadsAllW)
/-- the def that the module's name x stands for keeps sp -/
structure Kp (P : Program) (w : World) (K : PySem.W.Frag) (mg : Str → Option Value) (base : Heap) (k : Nat) (x : Str) (sp : Sp) : Prop where
  has : ∃ (fd : FuncData) (ps : List Str), FnOk P w K mg base CX0 k (He.ga K x) fd ps sp ∧ Binds K fd ps []
  kp : PySem.W.keepIn K (.ref (He.ga K x)) = true
  g : mg x = some (.ref (He.ga K x))
/-- a method of the class that the name c stands for -/
structure Km (P : Program) (w : World) (K : PySem.W.Frag) (mg : Str → Option Value) (base : Heap) (k : Nat) (c m : Str) (sp : Sp) : Prop where
  has : ∃ (fd : FuncData) (ps : List Str), FnOk P w K mg base CX0 k (He.ma K (He.ga K c) m) fd ps sp ∧ Binds K fd ps []
  kp : PySem.W.keepIn K (.ref (He.ma K (He.ga K c) m)) = true
section
variable {P : Program} {w : World} {K : PySem.W.Frag} {mg : Str → Option Value} {base : Heap}
theorem kp_of {x : Str} {st : Stmt} {fd : FuncData} {N ps : List Str} {k : Nat} {sp : Sp} (F : FunD K x x (defArgs st) (defBody st) (defScope st) [] [] (He.ga K x) fd) (g : mg x = some (.ref (He.ga K x)))
    (hb : ∀ (kV doc pm : Value) (an : Option Addr) (cdv ct : Value) (us : List Value), us.length = ps.length → bindArgs (PySem.W.fnOf x x (defArgs st) (defBody st) (defScope st) .none kV doc pm an cdv ct) ⟨us, []⟩ = pure (ps.zip us))
    (S : FnScope N ps (defScope st)) (len : ∀ vs H Q E, sp vs H Q E → vs.length = ps.length)
    (body : ∀ (cdv : Value) (A : Around) (outer : List Env) (s : Shared) (H : Hp) (vs : List V) (Q : VK) (E : XK), Room k (A.deeper (envOfC x (defScope st) s.heap.objs.size (He.ga K x) cdv)) → sp vs H Q E →
      ∃ t, PSs (cxOf CX0 P w K mg base N x (defScope st) (He.ga K x) cdv A outer s H E).nox (defBody st) t ∧ t { nx := fun _ H' => Q .non H', rt := Q } (start N vs) H) : Kp P w K mg base (k + 1) x sp :=
  ⟨⟨fd, ps, F.ok S len fun cdv A outer s H vs Q E hr h => let ⟨t, a, b⟩ := body cdv A outer s H vs Q E hr h; ⟨t, a.nox, b⟩, F.bindsN hb⟩, F.kp, g⟩
theorem km_of {c m q : Str} {st : Stmt} {fd : FuncData} {N ps : List Str} {k : Nat} {sp : Sp} (F : FunD K m q (defArgs st) (defBody st) (defScope st) [] [] (He.ma K (He.ga K c) m) fd)
    (hb : ∀ (kV doc pm : Value) (an : Option Addr) (cdv ct : Value) (us : List Value), us.length = ps.length → bindArgs (PySem.W.fnOf m q (defArgs st) (defBody st) (defScope st) .none kV doc pm an cdv ct) ⟨us, []⟩ = pure (ps.zip us))
    (S : FnScope N ps (defScope st)) (len : ∀ vs H Q E, sp vs H Q E → vs.length = ps.length)
    (body : ∀ (cdv : Value) (A : Around) (outer : List Env) (s : Shared) (H : Hp) (vs : List V) (Q : VK) (E : XK), Room k (A.deeper (envOfC q (defScope st) s.heap.objs.size (He.ma K (He.ga K c) m) cdv)) → sp vs H Q E →
      ∃ t, PSs (cxOf CX0 P w K mg base N q (defScope st) (He.ma K (He.ga K c) m) cdv A outer s H E).nox (defBody st) t ∧ t { nx := fun _ H' => Q .non H', rt := Q } (start N vs) H) : Km P w K mg base (k + 1) c m sp :=
  ⟨⟨fd, ps, F.ok S len fun cdv A outer s H vs Q E hr h => let ⟨t, a, b⟩ := body cdv A outer s H vs Q E hr h; ⟨t, a.nox, b⟩, F.bindsN hb⟩, F.kp⟩
end
/-! ### rules by names -/
section
variable {X : Cx} {k : Nat} {x : Str} {sp : Sp} {p pos : Pos} {e : Expr} {es : List Expr} {t : TA}
/-- f(e, ..), f a def of the module -/
def tK (sp : Sp) (t : TA) : TE := fun σ H Q => t σ H fun vs H1 => sp vs H1 Q E0
theorem tK_eq (sp : Sp) (t : TA) : tCall sp [] E0 t = tK sp t := by
  funext σ H Q
  show t σ H (fun vs H1 => sp (vs ++ []) H1 Q E0) = t σ H fun vs H1 => sp vs H1 Q E0
  have e0 : (fun (vs : List V) (H1 : Hp) => sp (vs ++ []) H1 Q E0) = fun vs H1 => sp vs H1 Q E0 := by
    funext vs H1
    rw [List.append_nil]
  rw [e0]
theorem pe_k (G : Kp X.prog X.w X.K X.mg X.base k x sp) (hr : Room k X.A) (hg : Gl X x) (ha : PA X (e :: es) t)
    (hd : (x == ("__debug__" : Str)) = false := by decide) (he : starEach (e :: es) X.env = (false, eval e X.env) :: starEach es X.env := by rfl) (hpl : (backTo pos (starEach es X.env)).any (·.1) = false := by rfl) :
    PE X (.Call (.Name x p) (e :: es) [] pos) (tK sp t) := by
  obtain ⟨fd, ps, F, b⟩ := G.has
  rw [← tK_eq]
  exact pe_call F hr hg G.g G.kp b .nil pass0 ha hd he hpl
theorem pe_gint {i : Int} (hm : ∃ u, X.mg x = some (.int i u)) (hg : Gl X x) (hd : (x == ("__debug__" : Str)) = false := by decide) : PE X (.Name x pos) (tC (.int i)) := by
  obtain ⟨u, h⟩ := hm
  exact pe_glob hg h ⟨_, rfl⟩ hd
theorem pe_gref {a : Addr} (hm : X.mg x = some (.ref a)) (hg : Gl X x) (hd : (x == ("__debug__" : Str)) = false := by decide) : PE X (.Name x pos) (tC (.ref a)) := pe_glob hg hm rfl hd
/-- C(e, ..), C a class of the module -/
def tMk (C : Addr) (sp : Sp) (t : TA) : TE := fun σ H Q => t σ H fun vs H1 => ∀ x dx, H1 x = none → H1 dx = none → dx ≠ x → sp (.ref x :: vs) (upd (upd H1 dx (.own x)) x (.ins C dx [])) (fun v H2 => v = .non ∧ Q (.ref x) H2) E0
theorem tMk_eq (C : Addr) (sp : Sp) (t : TA) : tMake C sp [] E0 t = tMk C sp t := by
  funext σ H Q
  unfold tMake tMk
  congr 1
  funext vs H1
  rw [List.append_nil]
theorem pe_mk (M : Mk X.K (He.ga X.K x) (He.ma X.K (He.ga X.K x) "__init__")) (G : Km X.prog X.w X.K X.mg X.base k x "__init__" sp) (hr : Room (k + 1) X.A) (hg : Gl X x) (hm : X.mg x = some (.ref (He.ga X.K x))) (ha : PA X (e :: es) t)
    (hd : (x == ("__debug__" : Str)) = false := by decide) (he : starEach (e :: es) X.env = (false, eval e X.env) :: starEach es X.env := by rfl) (hpl : (backTo pos (starEach es X.env)).any (·.1) = false := by rfl) :
    PE X (.Call (.Name x p) (e :: es) [] pos) (tMk (He.ga X.K x) sp t) := by
  obtain ⟨fd, ps, F, b⟩ := G.has
  rw [← tMk_eq]
  exact pe_make M F hr hg hm b .nil pass0 ha hd he hpl
theorem pe_mk0 (M : Mk X.K (He.ga X.K x) (He.ma X.K (He.ga X.K x) "__init__")) (G : Km X.prog X.w X.K X.mg X.base k x "__init__" sp) (hr : Room (k + 1) X.A) (hg : Gl X x) (hm : X.mg x = some (.ref (He.ga X.K x)))
    (hd : (x == ("__debug__" : Str)) = false := by decide) : PE X (.Call (.Name x p) [] [] pos) (tMk (He.ga X.K x) sp tNil) := by
  obtain ⟨fd, ps, F, b⟩ := G.has
  rw [← tMk_eq]
  exact pe_make0 M F hr hg hm b .nil pass0 hd
/-- T[i](e, ..): what the table holds there is a def that keeps its promise -/
structure Hd (P : Program) (w : World) (K : PySem.W.Frag) (mg : Str → Option Value) (base : Heap) (k : Nat) (f : Addr) (sp : Sp) : Prop where
  has : ∃ (fd : FuncData) (ps : List Str), FnOk P w K mg base CX0 k f fd ps sp ∧ Binds K fd ps []
  kp : PySem.W.keepIn K (.ref f) = true
theorem Kp.hd {P : Program} {w : World} {K : PySem.W.Frag} {mg : Str → Option Value} {base : Heap} {j k : Nat} {x : Str} {sp : Sp} (G : Kp P w K mg base j x sp) (h : j ≤ k) : Hd P w K mg base k (He.ga K x) sp :=
  ⟨let ⟨fd, ps, F, b⟩ := G.has; ⟨fd, ps, F.mono h, b⟩, G.kp⟩
def tTab (P : Program) (w : World) (K : PySem.W.Frag) (mg : Str → Option Value) (base : Heap) (k : Nat) (tf : TE) (t : TA) : TE := fun σ H Q => tf σ H fun v H1 => ∃ f sp, v = .ref f ∧ Hd P w K mg base k f sp ∧ t σ H1 fun vs H2 => sp vs H2 Q E0
theorem eval_Call_Sub (v i : Expr) (p : Pos) (args : List Expr) (keywords : List Keyword) (pos : Pos) (env : Env) : eval (.Call (.Subscript v i p) args keywords pos) env = (do
    callWith pos (← eval (.Subscript v i p) env) [] (backTo pos (starEach args env)) (backToKw pos (keywordEach keywords env))) := rfl
theorem pe_tab {v i : Expr} {tf : TE} (hf : PE X (.Subscript v i p) tf) (hr : Room k X.A) (ha : PA X (e :: es) t)
    (he : starEach (e :: es) X.env = (false, eval e X.env) :: starEach es X.env := by rfl) (hpl : (backTo pos (starEach es X.env)).any (·.1) = false := by rfl) :
    PE X (.Call (.Subscript v i p) (e :: es) [] pos) (tTab X.prog X.w X.K X.mg X.base k tf t) := by
  refine ⟨fun pins s σ H Q I h => ?_⟩
  rw [eval_Call_Sub]
  refine wpAny_bind (thn (hf.run pins s σ H _ I h) fun u s1 ⟨z, H1, I1, r1, f, sp, ez, hd, q1⟩ => ?_)
  subst ez
  cases r1
  obtain ⟨fd, ps, F, b⟩ := hd.has
  refine PySem.W.callWith_K (h₀ := X.base) I.ok.mod.kin hd.kp (thn (ha.run pos pins s1 σ _ _ I1 q1) fun us s2 ⟨vs, H2, I2, r, q⟩ => ⟨I2.kIn, ?_⟩) he hpl
  refine run_fn (dvs := []) F hr b .nil pass0 I2 r ?_
  rw [List.append_nil]
  exact q
end
/-! ### the end of the row -/
theorem walk_by {r : OpenSpec} {k : Nat} {q : Program} {loose : List Str} {XP : (Str → Option Value) → Heap → Prop} {YP : World → Heap → Prop} {d : DefRec} {ps : List Str}
    (hwell : r.wellSaid = true) (hdf : d.params.defaults = []) (hlen : r.args.length = ps.length) (room : Room k callerA)
    (F : ∀ (w : World) (mg : Str → Option Value) (fa : Addr) (h : Heap), YP w h → h.Ns mainGlobals mg → mg d.name = some (.ref fa) →
      ∃ (K : PySem.W.Frag) (fd : FuncData) (sp : Sp), K.In h ∧ (∀ (s : Shared) (us : List Value), us.length = ps.length → BindsTo s fd ⟨us, []⟩ (ps.zip us)) ∧
        (∀ (H : Hp) (xs : List V) (a : Codec.denoteAll r.args), OnlyF H → Codec.withinAll r.args a = true → Codec.app r.args r.asked a = true → DwAll K H xs (Codec.encAll r.args a) →
          sp xs H (fun v H' => Dw K H' v (r.ret.enc (Codec.app r.args r.f a))) E0) ∧
        ∀ base : Heap, K.In base → base.Ns mainGlobals mg → FnOk r.prog w K mg base CX0 k fa fd ps sp) :
    PySem.W.WalkOS q loose XP YP r d [] (fun f vs => PySem.call f vs) := by
  intro w s0 s1 mg mb G Y fa o pm cd doc dV kV ho hd hcd hD hmg hg args vals as hpre hlay hrd hwl hlo
  obtain ⟨a, e1, e2⟩ := PySem.W.os_pre_some hpre
  have e3w := Codec.encAll_of_decAll r.args args a e1
  have hwi := e3w.2
  have e3 := e3w.1
  subst e3
  obtain ⟨K, fd, sp, KX, hb, hsp, hF⟩ := F w mg fa _ Y G.T.g hmg
  have call := spec_call (R := []) (cl := classAt s0.heap) (d0 := r.ret.enc (Codec.app r.args r.f a)) (CX := CX0) KX G.T.g G.T.b
    G.T.builtins G.T.nolimit hg hwl (pl_encAll _ _) (layable_weight hlay) room hF hb
    (by rw [encAll_len]; exact hlen) (fun H xs hO hS => hsp H xs a hO hwi e2 hS) (fun H e s' z => z.elim)
  refine PySem.W.enter_call (codeAny_mono call fun r' s' hq => ?_)
  obtain ⟨u, as', er, h1, h2, h3, h4⟩ := hq
  subst er
  exact ⟨.inl ⟨u, _, as', rfl, fun _ => rfl, h1, (OpenSpec.post_iff hwell hwi _ _).mpr rfl, fun z => Bool.noConfusion (show false = true from z)⟩, h2, h3, h4⟩
end Wg

set_option Elab.async false
set_option linter.all false
set_option maxRecDepth 100000
set_option maxHeartbeats 4000000
/-! What a reading gives where the heap stays: more of Steps' Val and Ans. -/
namespace Wg
open PySem PySem.Spec PyProof.Rows L2
section
variable {σ : L2.St} {H : Hp} {K : PySem.W.Frag} {ta tb te : TE} {v x y : V} {i j : Int}
/-- arguments -/
def VA (t : TA) (σ : L2.St) (H : Hp) (vs : List V) : Prop := ∀ Q : List V → Hp → Prop, Q vs H → t σ H Q
theorem va_nil : VA tNil σ H [] := fun _ q => q
theorem va_cons {tr : TA} {vs : List V} (h : Val ta σ H x) (hr : VA tr σ H vs) : VA (tCons ta tr) σ H (x :: vs) := fun _ q => h _ (hr _ q)
theorem va1 (h : Val ta σ H x) : VA (tCons ta tNil) σ H [x] := va_cons h va_nil
theorem va2 (h : Val ta σ H x) (h2 : Val tb σ H y) : VA (tCons ta (tCons tb tNil)) σ H [x, y] := va_cons h (va_cons h2 va_nil)
theorem val_k {sp : Sp} {t : TA} {vs : List V} (h : VA t σ H vs) (hs : ∀ Q : VK, Q v H → sp vs H Q E0) : Val (tK sp t) σ H v := fun Q q => h _ (hs Q q)
theorem valH_k {sp : Sp} {t : TA} {vs : List V} {P : V → Hp → Prop} (h : VA t σ H vs) (hs : ∀ Q : VK, (∀ v H', P v H' → Q v H') → sp vs H Q E0) : ValH (tK sp t) σ H P := fun Q q => h _ (hs Q q)
theorem val_cb {r : List V → Hp → VK → Prop} {t : TA} {vs : List V} (h : VA t σ H vs) (hs : ∀ Q : VK, Q v H → r vs H Q) : Val (tCB r t) σ H v := fun Q q => h _ (hs Q q)
theorem vi0 {g : Int → Int → V} : ∀ Q : VK, Q (g i j) H → rI0 g (.int i) (.int j) H Q := fun _ q => ⟨i, j, rfl, rfl, q⟩
theorem vi {C : Int → Int → Prop} {g : Int → Int → V} (c : C i j) : ∀ Q : VK, Q (g i j) H → rI C g (.int i) (.int j) H Q := fun _ q => ⟨i, j, rfl, rfl, c, q⟩
theorem val_is (h : Val te σ H x) (e : x = y) : Val te σ H y := e ▸ h
theorem val_add (ha : Val ta σ H (.int i)) (hb : Val tb σ H (.int j)) : Val (tOp (rI0 fun i j => .int (i + j)) ta tb) σ H (.int (i + j)) := val_op ha hb (vi0 (g := fun i j => .int (i + j)))
theorem val_sub (ha : Val ta σ H (.int i)) (hb : Val tb σ H (.int j)) : Val (tOp (rI0 fun i j => .int (i - j)) ta tb) σ H (.int (i - j)) := val_op ha hb (vi0 (g := fun i j => .int (i - j)))
theorem val_mul (ha : Val ta σ H (.int i)) (hb : Val tb σ H (.int j)) (c : CMul i j) : Val (tOp (rI CMul fun i j => .int (i * j)) ta tb) σ H (.int (i * j)) := val_op ha hb (vi (g := fun i j => .int (i * j)) c)
theorem val_div (ha : Val ta σ H (.int i)) (hb : Val tb σ H (.int j)) (c : CDivW i j) : Val (tOp (rI CDivW fun i j => .int (i / j)) ta tb) σ H (.int (i / j)) := val_op ha hb (vi (g := fun i j => .int (i / j)) c)
/-- with natural numbers -/
theorem nval_add {m n : Nat} (ha : Val ta σ H (.int m)) (hb : Val tb σ H (.int n)) : Val (tOp (rI0 fun i j => .int (i + j)) ta tb) σ H (.int ((m + n : Nat) : Int)) := val_is (val_add ha hb) (by rw [Int.natCast_add])
theorem nval_sub {m n : Nat} (ha : Val ta σ H (.int m)) (hb : Val tb σ H (.int n)) (h : n ≤ m) : Val (tOp (rI0 fun i j => .int (i - j)) ta tb) σ H (.int ((m - n : Nat) : Int)) := val_is (val_sub ha hb) (by rw [Int.ofNat_sub h])
theorem small64 {n : Nat} (h : n ≤ 4294967296) : -(2 ^ 64) < (n : Int) ∧ (n : Int) < 2 ^ 64 := by omega
theorem nval_mulR {m n : Nat} (ha : Val ta σ H (.int m)) (hb : Val tb σ H (.int n)) (h : n ≤ 4294967296) : Val (tOp (rI CMul fun i j => .int (i * j)) ta tb) σ H (.int ((m * n : Nat) : Int)) := val_is (val_mul ha hb (.inr (small64 h))) (by rw [Int.natCast_mul])
theorem nval_mulL {m n : Nat} (ha : Val ta σ H (.int m)) (hb : Val tb σ H (.int n)) (h : m ≤ 4294967296) : Val (tOp (rI CMul fun i j => .int (i * j)) ta tb) σ H (.int ((m * n : Nat) : Int)) := val_is (val_mul ha hb (.inl (small64 h))) (by rw [Int.natCast_mul])
theorem nval_div {m n : Nat} (ha : Val ta σ H (.int m)) (hb : Val tb σ H (.int n)) {b : Nat} (h0 : 0 < n) (h : n < 2 ^ b) (h9 : 0 < b ∧ b ≤ 9000) : Val (tOp (rI CDivW fun i j => .int (i / j)) ta tb) σ H (.int ((m / n : Nat) : Int)) :=
  val_is (val_div ha hb (wide_div (b := b) (by omega) (by simpa using h) h9.1 h9.2)) (by rw [Int.natCast_ediv])
theorem ans_i {g : Int → Int → Bool} {b : Bool} (ha : Val ta σ H (.int i)) (hb : Val tb σ H (.int j)) (e : g i j = b) : Ans (tTest (tOp (rI0 fun i j => .bl (g i j)) ta tb)) σ H b :=
  ans_cmp ha hb fun Q q => ⟨i, j, rfl, rfl, by show Q (.bl (g i j)) H; rw [e]; exact q⟩
theorem ans_le {b : Bool} (ha : Val ta σ H (.int i)) (hb : Val tb σ H (.int j)) (e : decide (i ≤ j) = b) : Ans (tTest (tOp (rI0 fun i j => .bl (decide (i ≤ j))) ta tb)) σ H b := ans_i (g := fun i j => decide (i ≤ j)) ha hb e
theorem ans_lt {b : Bool} (ha : Val ta σ H (.int i)) (hb : Val tb σ H (.int j)) (e : decide (i < j) = b) : Ans (tTest (tOp (rI0 fun i j => .bl (decide (i < j))) ta tb)) σ H b := ans_i (g := fun i j => decide (i < j)) ha hb e
theorem ans_gt2 {b : Bool} (ha : Val ta σ H (.int i)) (hb : Val tb σ H (.int j)) (e : decide (j < i) = b) : Ans (tTest (tOp (rI0 fun i j => .bl (decide (j < i))) ta tb)) σ H b := ans_i (g := fun i j => decide (j < i)) ha hb e
theorem ans_ge2 {b : Bool} (ha : Val ta σ H (.int i)) (hb : Val tb σ H (.int j)) (e : decide (j ≤ i) = b) : Ans (tTest (tOp (rI0 fun i j => .bl (decide (j ≤ i))) ta tb)) σ H b := ans_i (g := fun i j => decide (j ≤ i)) ha hb e
theorem ans_eqI {b : Bool} (ha : Val ta σ H (.int i)) (hb : Val tb σ H (.int j)) (e : decide (i = j) = b) : Ans (tTest (tOp rEq ta tb)) σ H b :=
  ans_eq ha hb rfl (by rw [dec_int, ← e]; by_cases h : i = j <;> simp [h])
theorem ans_neI {b : Bool} (ha : Val ta σ H (.int i)) (hb : Val tb σ H (.int j)) (e : (!decide (i = j)) = b) : Ans (tTest (tOp rNe ta tb)) σ H b :=
  ans_ne ha hb rfl (by rw [dec_int, ← e]; by_cases h : i = j <;> simp [h])
theorem ans_neB {b c d : Bool} (ha : Val ta σ H (.bl c)) (hb : Val tb σ H (.bl d)) (e : (!decide (c = d)) = b) : Ans (tTest (tOp rNe ta tb)) σ H b :=
  ans_ne ha hb rfl (by rw [dec_bl, ← e]; cases c <;> cases d <;> rfl)
/-- an if whose test is told -/
theorem st_if {c : TT} {t1 t2 : TS} {D : Ends} {b : Bool} (h : Ans c σ H b) (h1 : b = true → t1 D σ H) (h2 : b = false → t2 D σ H) : tIfS c t1 t2 D σ H := by
  cases b with
  | true => exact st_yes h (h1 rfl)
  | false => exact st_no h (h2 rfl)
/-! the same ahead of a rest: what is left is the rest's own reading -/
variable {tz : TS} {D : Ends}
theorem q_set {i : Nat} (h : Val te σ H v) (q : tz D (σ.set i (some v)) H) : tSeq (tAsg te (gName i)) tz D σ H := h _ q
theorem q_setH {i : Nat} {PV : V → Hp → Prop} (h : ValH te σ H PV) (q : ∀ v H', PV v H' → tz D (σ.set i (some v)) H') : tSeq (tAsg te (gName i)) tz D σ H := h _ q
theorem q_when {c : TT} {t1 : TS} {b : Bool} (h : Ans c σ H b) (h1 : b = true → t1 { D with nx := tz D } σ H) (h2 : b = false → tz D σ H) : tSeq (tIfS c t1 tNext) tz D σ H := by
  cases b with
  | true => exact h _ (iteT (h1 rfl))
  | false => exact h _ (iteF (h2 rfl))
theorem q_fld {tv : TE} {a dx C : Addr} {fs : List (Str × V)} {f : Str} (hv : Val tv σ H y) (ha : Val ta σ H (.ref a)) (ho : H a = some (.ins C dx fs)) (hc : Cls K C) (hn : NoAttr K C f) (hl : fs.length < 1000) (q : tz D σ (upd H a (.ins C dx (putF f y fs)))) : tSeq (sFld K ta tv f) tz D σ H :=
  st_fld (D := { D with nx := tz D }) hv ha ho hc hn hl q
/-- c(o).f where o is an instance -/
theorem val_f {C dx a : Addr} {fs : List (Str × V)} {f : Str} (h : Val ta σ H (.ref a)) (ho : H a = some (.ins C dx fs)) (hc : Cls K C) (hn : NoAttr K C f) (hl : fs.lookup f = some v) : Val (tFld K ta f) σ H v := val_fld h ho hc hn hl
theorem val_ixL {p : Addr} {xs : List V} {n : Nat} (ha : Val ta σ H (.ref p)) (hb : Val tb σ H (.int n)) (hs : SqL K H p xs) (hx : xs[n]? = some v) : Val (tOp (rIxL K) ta tb) σ H v := val_op ha hb fun _ q => ⟨p, xs, _, v, rfl, rfl, hs, atI_nat hx, q⟩
theorem val_ixT {p : Addr} {xs : List V} {n : Nat} (ha : Val ta σ H (.ref p)) (hb : Val tb σ H (.int n)) (hs : SqT K H p xs) (hx : xs[n]? = some v) : Val (tOp (rIxT K) ta tb) σ H v := val_op ha hb fun _ q => ⟨p, xs, _, v, rfl, rfl, hs, atI_nat hx, q⟩
theorem val_lenL {p : Addr} {xs : List V} (ha : Val ta σ H (.ref p)) (hs : SqL K H p xs) : Val (tCB (fun xs H Q => ∃ p ys, xs = [.ref p] ∧ (SqL K H p ys ∨ SqT K H p ys) ∧ Q (.int ys.length) H) (tCons ta tNil)) σ H (.int (xs.length : Nat)) :=
  val_cb (va1 ha) fun _ q => ⟨p, xs, rfl, .inl hs, q⟩
/-- a new list -/
theorem valH_lst {t : TA} {vs : List V} (h : VA t σ H vs) (hl : vs.length ≤ 1000) : ValH (tLst t) σ H (fun v H' => ∃ p, v = .ref p ∧ H p = none ∧ H' = upd H p (.lst vs)) := fun Q q =>
  h _ ⟨Nat.le_trans hl (by decide), fun p hp => q _ _ ⟨p, rfl, hp, rfl⟩⟩
theorem st_ret_mk {C : Addr} {sp : Sp} {t : TA} {vs : List V} {D : Ends} (h : VA t σ H vs) (q : ∀ x dx, H x = none → H dx = none → dx ≠ x → sp (.ref x :: vs) (upd (upd H dx (.own x)) x (.ins C dx [])) (fun v H2 => v = .non ∧ D.rt (.ref x) H2) E0) :
    tRet (tMk C sp t) D σ H := h _ q
theorem st_retH {PV : V → Hp → Prop} {D : Ends} (h : ValH te σ H PV) (q : ∀ v H', PV v H' → D.rt v H') : tRet te D σ H := h _ q
/-! arguments, the heap as it is behind them -/
section
variable {t tr : TA}
def VAH (t : TA) (σ : L2.St) (H : Hp) (P : List V → Hp → Prop) : Prop := ∀ Q : List V → Hp → Prop, (∀ vs H', P vs H' → Q vs H') → t σ H Q
theorem vah_of {vs : List V} (h : VA t σ H vs) : VAH t σ H (fun us H' => us = vs ∧ H' = H) := fun Q q => h _ (q _ _ ⟨rfl, rfl⟩)
theorem vah1 {P : V → Hp → Prop} (h : ValH ta σ H P) : VAH (tCons ta tNil) σ H (fun vs H' => ∃ v, vs = [v] ∧ P v H') := fun Q q => h _ fun v H' p => q _ _ ⟨v, rfl, p⟩
theorem vah_cons {P : List V → Hp → Prop} (h : Val ta σ H x) (hr : VAH tr σ H P) : VAH (tCons ta tr) σ H (fun vs H' => ∃ r, vs = x :: r ∧ P r H') := fun Q q => h _ (hr _ fun r H' p => q _ _ ⟨r, rfl, p⟩)
theorem vahH_cons {P : V → Hp → Prop} {P2 : V → Hp → List V → Hp → Prop} (h : ValH ta σ H P) (hr : ∀ v H', P v H' → VAH tr σ H' (P2 v H')) : VAH (tCons ta tr) σ H (fun vs H2 => ∃ v r H', vs = v :: r ∧ P v H' ∧ P2 v H' r H2) := fun Q q => h _ fun v H' p => hr v H' p _ fun r H2 p2 => q _ _ ⟨v, r, H', rfl, p, p2⟩
theorem valH_kH {sp : Sp} {P : List V → Hp → Prop} {PV : V → Hp → Prop} (h : VAH t σ H P) (hs : ∀ vs H', P vs H' → ∀ Q : VK, (∀ v H2, PV v H2 → Q v H2) → sp vs H' Q E0) : ValH (tK sp t) σ H PV := fun Q q => h _ fun vs H' p => hs vs H' p Q q
theorem st_ret_lst {P : List V → Hp → Prop} (h : VAH t σ H P) (q : ∀ vs H', P vs H' → vs.length ≤ 1000 ∧ ∀ r, H' r = none → D.rt (.ref r) (upd H' r (.lst vs))) : tRet (tLst t) D σ H :=
  h _ fun vs H' p => ⟨Nat.le_trans (q vs H' p).1 (by decide), fun r hr => (q vs H' p).2 r hr⟩
theorem st_ret_tup {P : List V → Hp → Prop} (h : VAH t σ H P) (q : ∀ vs H', P vs H' → vs.length ≤ 1000 ∧ ∀ r, H' r = none → D.rt (.ref r) (upd H' r (.tup vs))) : tRet (tTup t) D σ H :=
  h _ fun vs H' p => ⟨Nat.le_trans (q vs H' p).1 (by decide), fun r hr => (q vs H' p).2 r hr⟩
/-- a + b, a - b where b changes the heap -/
theorem valH_addN {m n : Nat} {PH : Hp → Prop} (ha : Val ta σ H (.int m)) (hb : ValH tb σ H (fun v H' => v = .int (n : Nat) ∧ PH H')) : ValH (tOp (rI0 fun i j => .int (i + j)) ta tb) σ H (fun v H' => v = .int ((m + n : Nat) : Int) ∧ PH H') := fun Q q =>
  ha _ (hb _ fun v H' p => ⟨m, n, rfl, p.1, by
    show Q (.int ((m : Int) + (n : Int))) H'
    rw [← Int.natCast_add]
    exact q _ _ ⟨rfl, p.2⟩⟩)
theorem valH_subI {m : Int} {n : Nat} {PH : Hp → Prop} (ha : Val ta σ H (.int m)) (hb : ValH tb σ H (fun v H' => v = .int (n : Nat) ∧ PH H')) : ValH (tOp (rI0 fun i j => .int (i - j)) ta tb) σ H (fun v H' => v = .int (m - n) ∧ PH H') := fun Q q =>
  ha _ (hb _ fun v H' p => ⟨m, n, rfl, p.1, q _ _ ⟨rfl, p.2⟩⟩)
theorem q_while {c : TT} {tb tz : TS} {D : Ends} (W : Nat → L2.St → Hp → Prop) (m0 : Nat) (h0 : W m0 σ H)
    (turn : ∀ m σ H, W m σ H → c σ H fun b H1 => if b = true then ∃ N : L2.St → Hp → Prop, (∀ σ' H', N σ' H' → ∃ m', m' < m ∧ W m' σ' H') ∧ tb { D with nx := N, ct := N, bk := tz D } σ H1 else tz D σ H1) : tSeq (tWhile c tb) tz D σ H := ⟨W, ⟨m0, h0⟩, turn⟩
theorem q_forRange {n : Nat} {g : TG} {tb tz : TS} {D : Ends} (h : VA t σ H [.int (n : Nat)]) (hn : n ≤ 4294967296) (Pv : Nat → L2.St → Hp → Prop) (h0 : Pv 0 σ H)
    (hs : ∀ i σ H, i < n → Pv i σ H → g (.int (i : Nat)) σ H fun σ2 H2 => tb { D with nx := Pv (i + 1), ct := Pv (i + 1), bk := tz D } σ2 H2) (hd : ∀ σ H, Pv n σ H → tz D σ H) : tSeq (tFor (iRng1 t) g tb) tz D σ H :=
  h _ ⟨(n : Int), rfl, by omega, by omega, for_range (D := { D with nx := tz D }) (lo := 0) (n := n) Pv h0 (fun i σ H hi p => by
    rw [Int.zero_add]
    exact hs i σ H hi p) hd⟩
end
end
end Wg

set_option Elab.async false
set_option linter.all false
set_option maxRecDepth 100000
set_option maxHeartbeats 4000000
/-! warmthgrown.lots: a lot in the heap, and what its defs do. -/
namespace Wg
open PySem PySem.Spec PyProof.Rows L2
open Kh328 (Lot)
theorem lk_here {k : Str} {v : V} {r : List (Str × V)} : List.lookup k ((k, v) :: r) = some v := by
  have e : (k == k) = true := beq_self_eq_true k
  simp only [List.lookup, e]
theorem lk_past {k g : Str} {v : V} {r : List (Str × V)} (h : (k == g) = false) : List.lookup k ((g, v) :: r) = List.lookup k r := by
  simp only [List.lookup, h]
theorem put_here {f : Str} {v x : V} {r : List (Str × V)} : putF f v ((f, x) :: r) = (f, v) :: r := if_pos rfl
theorem put_past {f g : Str} {v x : V} {r : List (Str × V)} (h : ¬ g = f) : putF f v ((g, x) :: r) = (g, x) :: putF f v r := if_neg h
/-! ### a lot's fields -/
def lotF (l : Lot) : List (Str × V) := [("hatched", .bl l.hatched), ("many", .int l.n), ("mass", .int l.mass), ("degrees", .int l.warmth)]
theorem lotF_hatched (l : Lot) : (lotF l).lookup ("hatched" : Str) = some (.bl l.hatched) := lk_here
theorem lotF_many (l : Lot) : (lotF l).lookup ("many" : Str) = some (.int l.n) := (lk_past (by decide +kernel)).trans lk_here
theorem lotF_mass (l : Lot) : (lotF l).lookup ("mass" : Str) = some (.int l.mass) := (lk_past (by decide +kernel)).trans ((lk_past (by decide +kernel)).trans lk_here)
theorem lotF_degrees (l : Lot) : (lotF l).lookup ("degrees" : Str) = some (.int l.warmth) := (lk_past (by decide +kernel)).trans ((lk_past (by decide +kernel)).trans ((lk_past (by decide +kernel)).trans lk_here))
theorem n_hm : ¬ (("hatched" : Str) = "many") := by decide +kernel
theorem n_hs : ¬ (("hatched" : Str) = "mass") := by decide +kernel
theorem n_hd : ¬ (("hatched" : Str) = "degrees") := by decide +kernel
theorem n_ms : ¬ (("many" : Str) = "mass") := by decide +kernel
theorem n_md : ¬ (("many" : Str) = "degrees") := by decide +kernel
theorem n_sd : ¬ (("mass" : Str) = "degrees") := by decide +kernel
theorem lotF_put_hatched (l : Lot) (b : Bool) : putF "hatched" (.bl b) (lotF l) = lotF { l with hatched := b } := put_here
theorem lotF_put_many (l : Lot) (n : Nat) : putF "many" (.int n) (lotF l) = lotF { l with n := n } := (put_past n_hm).trans (congrArg _ put_here)
theorem lotF_put_mass (l : Lot) (n : Nat) : putF "mass" (.int n) (lotF l) = lotF { l with mass := n } := (put_past n_hs).trans (congrArg _ ((put_past n_ms).trans (congrArg _ put_here)))
theorem lotF_put_degrees (l : Lot) (n : Nat) : putF "degrees" (.int n) (lotF l) = lotF { l with warmth := n } :=
  (put_past n_hd).trans (congrArg _ ((put_past n_md).trans (congrArg _ ((put_past n_sd).trans (congrArg _ put_here)))))
theorem put_nil {f : Str} {v : V} : putF f v [] = [(f, v)] := rfl
theorem lotF_new (h : Bool) (n m d : Nat) : putF "degrees" (.int d) (putF "mass" (.int m) (putF "many" (.int n) (putF "hatched" (.bl h) []))) = lotF ⟨h, n, m, d⟩ := by
  rw [put_nil, put_past n_hm, put_nil, put_past n_hs, put_past n_ms, put_nil, put_past n_hd, put_past n_md, put_past n_sd, put_nil] <;> rfl
/-- few fields -/
theorem few0 : ([] : List (Str × V)).length < 900 := by decide
theorem few1 {f : Str} {v : V} {fs : List (Str × V)} {n : Nat} (h : fs.length < n) : (putF f v fs).length < n + 1 := Nat.lt_of_le_of_lt (length_putF f v fs) (Nat.add_lt_add_right h 1)
theorem few_up {fs : List (Str × V)} {n : Nat} (h : fs.length < n) (hn : n ≤ 1000) : fs.length < 1000 := Nat.lt_of_lt_of_le h hn
theorem lotF_few (l : Lot) : (lotF l).length < 1000 := by show 4 < 1000; decide
abbrev lotO (K : PySem.W.Frag) (dx : Addr) (l : Lot) : HO := .ins (He.ga K "Lot") dx (lotF l)
def LotAt (K : PySem.W.Frag) (H : Hp) (a : Addr) (l : Lot) : Prop := ∃ dx, H a = some (lotO K dx l)
structure Fit (b : Nat) (l : Lot) : Prop where
  b0 : 0 < b
  b9 : b ≤ 8000
  n : l.n < 2 ^ b
  mass : l.mass < 2 ^ b
/-! ### promises -/
def spEach (K : PySem.W.Frag) : Sp := fun vs H Q _ => ∃ (a : Addr) (l : Lot) (b : Nat), vs = [.ref a] ∧ LotAt K H a l ∧ Fit b l ∧ Q (.int l.each) H
/-- by how much, at a pace p -/
def grow (l : Lot) (p : Nat) : Nat := l.mass * p / (10000 + l.each)
def spCould (K : PySem.W.Frag) : Sp := fun vs H Q _ => ∃ (a : Addr) (l : Lot) (b p : Nat), vs = [.ref a, .int p] ∧ LotAt K H a l ∧ Fit b l ∧ p ≤ 500 ∧ Q (.int (grow l p)) H
def feedOf (g c : Nat) : Nat := (g * c + 99) / 100
def spNeeded : Sp := fun vs H Q _ => ∃ g c : Nat, vs = [.int g, .int c] ∧ c ≤ 300 ∧ Q (.int (feedOf g c)) H
def spEat (K : PySem.W.Frag) : Sp := fun vs H Q _ => ∃ (a dx : Addr) (l : Lot) (b g p c : Nat), vs = [.ref a, .int g, .int p, .int c] ∧ H a = some (lotO K dx l) ∧ Fit b l ∧ p ≤ 500 ∧ 50 ≤ c ∧ c ≤ 300 ∧
  Q .non (upd H a (lotO K dx { l with mass := l.mass + min (grow l p) (g * 100 / c) }))
/-- eggs through a day of t -/
def warmed (l : Lot) (t hatch first : Nat) : Lot := if hatch ≤ l.warmth + t then { l with hatched := true, mass := l.n * first, warmth := l.warmth + t } else { l with warmth := l.warmth + t }
def spGather (K : PySem.W.Frag) : Sp := fun vs H Q _ => ∃ (a dx : Addr) (l : Lot) (t h f : Nat), vs = [.ref a, .int t, .int h, .int f] ∧ H a = some (lotO K dx l) ∧ f ≤ 100 ∧
  Q .non (upd H a (lotO K dx (warmed l t h f)))
def spPart (K : PySem.W.Frag) : Sp := fun vs H Q _ => ∃ (a dx : Addr) (l : Lot) (b n : Nat), vs = [.ref a, .int n] ∧ H a = some (lotO K dx l) ∧ Fit b l ∧ n ≤ l.n ∧ n ≤ 4294967295 ∧
  ∀ (x dy : Addr) (H' : Hp), H x = none → H dy = none → H' x = some (lotO K dy (Kh328.part l n)) → H' a = some (lotO K dx (Kh328.rest l n)) → (∀ b o, H b = some o → b ≠ a → H' b = some o) → Q (.ref x) H'
def spCopyLot (K : PySem.W.Frag) : Sp := fun vs H Q _ => ∃ (a dx : Addr) (l : Lot), vs = [.ref a] ∧ H a = some (lotO K dx l) ∧ ∀ x dy, H x = none → H dy = none → dy ≠ x → Q (.ref x) (upd (upd H dy (.own x)) x (lotO K dy l))
def spLotInit (K : PySem.W.Frag) : Sp := fun vs H Q _ => ∃ (x dx : Addr) (h : Bool) (n m d : Nat), vs = [.ref x, .bl h, .int n, .int m, .int d] ∧ H x = some (.ins (He.ga K "Lot") dx []) ∧ Q .non (upd H x (lotO K dx ⟨h, n, m, d⟩))
section
variable {P : Program} {w : World} {K : PySem.W.Frag} {mg : Str → Option Value} {base : Heap}
/-! ### reading a lot -/
section
variable {σ : L2.St} {H : Hp} {a dx : Addr} {l : Lot} {ta : TE}
theorem val_hatched (T : Tx K mg) (h : Val ta σ H (.ref a)) (hl : H a = some (lotO K dx l)) : Val (tFld K ta "hatched") σ H (.bl l.hatched) := val_f h hl T.c_Lot T.n_Lot_hatched (lotF_hatched l)
theorem val_many (T : Tx K mg) (h : Val ta σ H (.ref a)) (hl : H a = some (lotO K dx l)) : Val (tFld K ta "many") σ H (.int l.n) := val_f h hl T.c_Lot T.n_Lot_many (lotF_many l)
theorem val_mass (T : Tx K mg) (h : Val ta σ H (.ref a)) (hl : H a = some (lotO K dx l)) : Val (tFld K ta "mass") σ H (.int l.mass) := val_f h hl T.c_Lot T.n_Lot_mass (lotF_mass l)
theorem val_degrees (T : Tx K mg) (h : Val ta σ H (.ref a)) (hl : H a = some (lotO K dx l)) : Val (tFld K ta "degrees") σ H (.int l.warmth) := val_f h hl T.c_Lot T.n_Lot_degrees (lotF_degrees l)
variable {tv : TE} {D : Ends} {tz : TS}
theorem q_hatched (T : Tx K mg) {b : Bool} (hv : Val tv σ H (.bl b)) (h : Val ta σ H (.ref a)) (hl : H a = some (lotO K dx l)) (q : tz D σ (upd H a (lotO K dx { l with hatched := b }))) : tSeq (sFld K ta tv "hatched") tz D σ H :=
  st_fld (D := { D with nx := tz D }) hv h hl T.c_Lot T.n_Lot_hatched (lotF_few l) (by rw [lotF_put_hatched]; exact q)
theorem st_hatched (T : Tx K mg) {b : Bool} (hv : Val tv σ H (.bl b)) (h : Val ta σ H (.ref a)) (hl : H a = some (lotO K dx l)) (q : D.nx σ (upd H a (lotO K dx { l with hatched := b }))) : sFld K ta tv "hatched" D σ H :=
  st_fld hv h hl T.c_Lot T.n_Lot_hatched (lotF_few l) (by rw [lotF_put_hatched]; exact q)
theorem q_many (T : Tx K mg) {n : Nat} (hv : Val tv σ H (.int n)) (h : Val ta σ H (.ref a)) (hl : H a = some (lotO K dx l)) (q : tz D σ (upd H a (lotO K dx { l with n := n }))) : tSeq (sFld K ta tv "many") tz D σ H :=
  st_fld (D := { D with nx := tz D }) hv h hl T.c_Lot T.n_Lot_many (lotF_few l) (by rw [lotF_put_many]; exact q)
theorem st_many (T : Tx K mg) {n : Nat} (hv : Val tv σ H (.int n)) (h : Val ta σ H (.ref a)) (hl : H a = some (lotO K dx l)) (q : D.nx σ (upd H a (lotO K dx { l with n := n }))) : sFld K ta tv "many" D σ H :=
  st_fld hv h hl T.c_Lot T.n_Lot_many (lotF_few l) (by rw [lotF_put_many]; exact q)
theorem q_mass (T : Tx K mg) {n : Nat} (hv : Val tv σ H (.int n)) (h : Val ta σ H (.ref a)) (hl : H a = some (lotO K dx l)) (q : tz D σ (upd H a (lotO K dx { l with mass := n }))) : tSeq (sFld K ta tv "mass") tz D σ H :=
  st_fld (D := { D with nx := tz D }) hv h hl T.c_Lot T.n_Lot_mass (lotF_few l) (by rw [lotF_put_mass]; exact q)
theorem st_mass (T : Tx K mg) {n : Nat} (hv : Val tv σ H (.int n)) (h : Val ta σ H (.ref a)) (hl : H a = some (lotO K dx l)) (q : D.nx σ (upd H a (lotO K dx { l with mass := n }))) : sFld K ta tv "mass" D σ H :=
  st_fld hv h hl T.c_Lot T.n_Lot_mass (lotF_few l) (by rw [lotF_put_mass]; exact q)
theorem q_degrees (T : Tx K mg) {n : Nat} (hv : Val tv σ H (.int n)) (h : Val ta σ H (.ref a)) (hl : H a = some (lotO K dx l)) (q : tz D σ (upd H a (lotO K dx { l with warmth := n }))) : tSeq (sFld K ta tv "degrees") tz D σ H :=
  st_fld (D := { D with nx := tz D }) hv h hl T.c_Lot T.n_Lot_degrees (lotF_few l) (by rw [lotF_put_degrees]; exact q)
theorem st_degrees (T : Tx K mg) {n : Nat} (hv : Val tv σ H (.int n)) (h : Val ta σ H (.ref a)) (hl : H a = some (lotO K dx l)) (q : D.nx σ (upd H a (lotO K dx { l with warmth := n }))) : sFld K ta tv "degrees" D σ H :=
  st_fld hv h hl T.c_Lot T.n_Lot_degrees (lotF_few l) (by rw [lotF_put_degrees]; exact q)
end
/-! ### the defs -/
theorem ok_Lot_init (T : Tx K mg) : Km P w K mg base 1 "Lot" "__init__" (spLotInit K) := by
  obtain ⟨fd, F⟩ := T.d_Lot_init
  refine km_of (q := "Lot.__init__") (ps := ["self", "hatched", "many", "mass", "degrees"]) F (fun _ _ _ _ _ _ us hl => match us, hl with | [_, _, _, _, _], _ => rfl) sc_Lot_init (fun vs H Q E h => ?_) (fun cdv A outer s H vs Q E hr h => ?_)
  · obtain ⟨x, dx, h, n, m, d, rfl, _⟩ := h
    rfl
  · obtain ⟨x, dx, h, n, m, d, rfl, hx, q⟩ := h
    refine ⟨_, (pss_cons (ps_fld (pv 0) (pv 1) rfl) (pss_cons (ps_fld (pv 0) (pv 2) rfl) (pss_cons (ps_fld (pv 0) (pv 3) rfl) (pss_one (ps_fld (pv 0) (pv 4) rfl))))), ?_⟩
    refine st_fld (val_var rfl) (val_var rfl) hx T.c_Lot T.n_Lot_hatched (few_up few0 (by decide)) ?_
    refine st_fld (val_var rfl) (val_var rfl) upd_same T.c_Lot T.n_Lot_many (few_up (few1 few0) (by decide)) ?_
    refine st_fld (val_var rfl) (val_var rfl) upd_same T.c_Lot T.n_Lot_mass (few_up (few1 (few1 few0)) (by decide)) ?_
    refine st_fld (val_var rfl) (val_var rfl) upd_same T.c_Lot T.n_Lot_degrees (few_up (few1 (few1 (few1 few0))) (by decide)) ?_
    show Q .non _
    rw [lotF_new, upd_upd, upd_upd, upd_upd]
    exact q
theorem valH_lot {σ : L2.St} {H : Hp} {t : TA} {hb : Bool} {n m d : Nat} (h : VA t σ H [.bl hb, .int n, .int m, .int d]) : ValH (tMk (He.ga K "Lot") (spLotInit K) t) σ H (fun v H' => ∃ x dx, v = .ref x ∧ H x = none ∧ H dx = none ∧ dx ≠ x ∧ H' = upd (upd H dx (.own x)) x (lotO K dx ⟨hb, n, m, d⟩)) := fun Q q =>
  h _ fun x dx hx hdx hne => ⟨x, dx, hb, n, m, d, rfl, upd_same, rfl, q _ _ ⟨x, dx, rfl, hx, hdx, hne, by rw [upd_upd]⟩⟩
theorem ok_copy_of_lot (T : Tx K mg) : Kp P w K mg base 3 "copy_of_lot" (spCopyLot K) := by
  obtain ⟨fd, F⟩ := T.d_copy_of_lot
  refine kp_of (ps := ["lot"]) F T.g_copy_of_lot (fun _ _ _ _ _ _ us hl => match us, hl with | [_], _ => rfl) sc_copy_of_lot (fun vs H Q E h => ?_) (fun cdv A outer s H vs Q E hr h => ?_)
  · obtain ⟨a, dx, l, rfl, _⟩ := h
    rfl
  · obtain ⟨a, dx, l, rfl, hl, q⟩ := h
    refine ⟨_, (pss_one (ps_ret (pe_mk T.m_Lot (ok_Lot_init T) (hr.mono (by decide)) rfl T.g_Lot (pa_cons (pe_fld (pv 0) rfl) (pa_cons (pe_fld (pv 0) rfl) (pa_cons (pe_fld (pv 0) rfl) (pa_cons (pe_fld (pv 0) rfl) pa_nil))))))), ?_⟩
    refine st_ret_mk (va_cons (val_hatched T (val_var rfl) hl) (va_cons (val_many T (val_var rfl) hl) (va2 (val_mass T (val_var rfl) hl) (val_degrees T (val_var rfl) hl)))) fun x dy hx hdy hne => ?_
    refine ⟨x, dy, l.hatched, l.n, l.mass, l.warmth, rfl, upd_same, rfl, ?_⟩
    show Q (.ref x) _
    rw [upd_upd]
    exact q x dy hx hdy hne
theorem ok_each_weighs (T : Tx K mg) : Kp P w K mg base 1 "each_weighs" (spEach K) := by
  obtain ⟨fd, F⟩ := T.d_each_weighs
  refine kp_of (ps := ["lot"]) F T.g_each_weighs (fun _ _ _ _ _ _ us hl => match us, hl with | [_], _ => rfl) sc_each_weighs (fun vs H Q E h => ?_) (fun cdv A outer s H vs Q E hr h => ?_)
  · obtain ⟨a, l, b, rfl, _⟩ := h
    rfl
  · obtain ⟨a, l, b, rfl, ⟨dx, hl⟩, fit, q⟩ := h
    refine ⟨_, (pss_cons (ps_if (pt_cmpR op_eq (pe_fld (pv 0) rfl) pe_int (nomark _)) (pss_one (ps_ret pe_int)) pss_nil) (pss_one (ps_ret (pe_op op_fdivW (pe_fld (pv 0) rfl) (pe_fld (pv 0) rfl))))), ?_⟩
    refine q_when (b := decide (l.n = 0)) (ans_eqI (val_many T (val_var rfl) hl) val_c ?_) (fun e => ?_) (fun e => ?_)
    · by_cases c : l.n = 0 <;> simp [c]
    · refine st_ret val_c ?_
      have e0 : l.each = 0 := if_pos (of_decide_eq_true e)
      rw [e0] at q
      exact q
    · have e1 : ¬ l.n = 0 := of_decide_eq_false e
      refine st_ret (nval_div (b := b) (val_mass T (val_var rfl) hl) (val_many T (val_var rfl) hl) (by omega) fit.n ⟨fit.b0, Nat.le_trans fit.b9 (by decide)⟩) ?_
      have e0 : l.each = l.mass / l.n := if_neg e1
      rw [e0] at q
      exact q
theorem each_le (l : Lot) : l.each ≤ l.mass := by
  unfold Kh328.Lot.each
  split
  · exact Nat.zero_le _
  · exact Nat.div_le_self _ _
theorem Fit.div {b : Nat} {l : Lot} (f : Fit b l) : 10000 + l.each < 2 ^ (b + 14) := by
  have h1 := each_le l
  have h2 := f.mass
  have h3 : 2 ^ (b + 14) = 2 ^ b * 16384 := by rw [Nat.pow_add]
  have h4 : 2 ^ 1 ≤ 2 ^ b := Nat.pow_le_pow_right (by decide) f.b0
  omega
theorem ok_could_grow (T : Tx K mg) : Kp P w K mg base 2 "could_grow" (spCould K) := by
  obtain ⟨fd, F⟩ := T.d_could_grow
  refine kp_of (ps := ["lot", "pace"]) F T.g_could_grow (fun _ _ _ _ _ _ us hl => match us, hl with | [_, _], _ => rfl) sc_could_grow (fun vs H Q E h => ?_) (fun cdv A outer s H vs Q E hr h => ?_)
  · obtain ⟨a, l, b, p, rfl, _⟩ := h
    rfl
  · obtain ⟨a, l, b, p, rfl, ⟨dx, hl⟩, fit, hp, q⟩ := h
    refine ⟨_, (pss_one (ps_ret (pe_op op_fdivW (pe_op op_mul (pe_fld (pv 0) rfl) (pv 1)) (pe_op op_add pe_int (pe_k (ok_each_weighs T) (hr.mono (by decide)) rfl (pa_cons (pv 0) pa_nil)))))), ?_⟩
    refine st_ret (nval_div (b := b + 14) (nval_mulR (val_mass T (val_var rfl) hl) (val_var rfl) (by omega)) (nval_add (m := 10000) val_c (val_k (va1 (val_var rfl)) fun Q q => ⟨a, l, b, rfl, ⟨dx, hl⟩, fit, q⟩)) (by omega) fit.div ⟨by omega, by have := fit.b9; omega⟩) q
theorem ok_needed_feed (T : Tx K mg) : Kp P w K mg base 1 "needed_feed" spNeeded := by
  obtain ⟨fd, F⟩ := T.d_needed_feed
  refine kp_of (ps := ["growth", "conv"]) F T.g_needed_feed (fun _ _ _ _ _ _ us hl => match us, hl with | [_, _], _ => rfl) sc_needed_feed (fun vs H Q E h => ?_) (fun cdv A outer s H vs Q E hr h => ?_)
  · obtain ⟨g, c, rfl, _⟩ := h
    rfl
  · obtain ⟨g, c, rfl, hc, q⟩ := h
    refine ⟨_, (pss_one (ps_ret (pe_op op_fdivW (pe_op op_add (pe_op op_mul (pv 0) (pv 1)) pe_int) pe_int))), ?_⟩
    exact st_ret (nval_div (b := 7) (n := 100) (nval_add (n := 99) (nval_mulR (val_var rfl) (val_var rfl) (by omega)) val_c) val_c (by decide) (by decide) ⟨by decide, by decide⟩) q
theorem val_min2 {σ : L2.St} {H : Hp} {ta tb : TE} {m n : Nat} (ha : Val ta σ H (.int m)) (hb : Val tb σ H (.int n)) :
    Val (tCB (fun xs H Q => ∃ i j, xs = [.int i, .int j] ∧ Q (.int (if j < i then j else i)) H) (tCons ta (tCons tb tNil))) σ H (.int ((min n m : Nat) : Int)) :=
  val_cb (va2 ha hb) fun Q q => ⟨_, _, rfl, by
    have e : (if (n : Int) < (m : Int) then (n : Int) else (m : Int)) = ((min n m : Nat) : Int) := by
      by_cases c : (n : Int) < m
      · rw [if_pos c, Nat.min_eq_left (by omega)]
      · rw [if_neg c, Nat.min_eq_right (by omega)]
    rw [e]
    exact q⟩
theorem ok_eat_and_grow (T : Tx K mg) : Kp P w K mg base 3 "eat_and_grow" (spEat K) := by
  obtain ⟨fd, F⟩ := T.d_eat_and_grow
  refine kp_of (ps := ["lot", "share", "pace", "conv"]) F T.g_eat_and_grow (fun _ _ _ _ _ _ us hl => match us, hl with | [_, _, _, _], _ => rfl) sc_eat_and_grow (fun vs H Q E h => ?_) (fun cdv A outer s H vs Q E hr h => ?_)
  · obtain ⟨a, dx, l, b, g, p, c, rfl, _⟩ := h
    rfl
  · obtain ⟨a, dx, l, b, g, p, c, rfl, hl, fit, hp, hc, hc2, q⟩ := h
    refine ⟨_, (pss_one (ps_fld (pv 0) (pe_op op_add (pe_fld (pv 0) rfl) (pe_callB (call_min2 rfl) (by rfl) T.b_min (by decide +kernel) (pa_cons (pe_op op_fdivW (pe_op op_mul (pv 1) pe_int) (pv 3)) (pa_cons (pe_k (ok_could_grow T) (hr.mono (by decide)) rfl (pa_cons (pv 0) (pa_cons (pv 2) pa_nil))) pa_nil)))) rfl)), ?_⟩
    refine st_mass T (nval_add (val_mass T (val_var rfl) hl) (val_min2 (nval_div (b := 9) (nval_mulR (n := 100) (val_var rfl) val_c (by decide)) (val_var rfl) (by omega) (by omega) ⟨by decide, by decide⟩) (val_k (va2 (val_var rfl) (val_var rfl)) fun Q q => ⟨a, l, b, p, rfl, ⟨dx, hl⟩, fit, hp, q⟩))) (val_var rfl) hl ?_
    exact q
theorem ok_gather_warmth (T : Tx K mg) : Kp P w K mg base 1 "gather_warmth" (spGather K) := by
  obtain ⟨fd, F⟩ := T.d_gather_warmth
  refine kp_of (ps := ["lot", "warmth", "hatch", "first"]) F T.g_gather_warmth (fun _ _ _ _ _ _ us hl => match us, hl with | [_, _, _, _], _ => rfl) sc_gather_warmth (fun vs H Q E h => ?_) (fun cdv A outer s H vs Q E hr h => ?_)
  · obtain ⟨a, dx, l, t, h, f, rfl, _⟩ := h
    rfl
  · obtain ⟨a, dx, l, t, h, f, rfl, hl, hf, q⟩ := h
    refine ⟨_, (pss_cons (ps_fld (pv 0) (pe_op op_add (pe_fld (pv 0) rfl) (pv 1)) rfl) (pss_one (ps_if (pt_cmpR op_ge (pe_fld (pv 0) rfl) (pv 2) (nomark _)) (pss_cons (ps_fld (pv 0) pe_bl rfl) (pss_one (ps_fld (pv 0) (pe_op op_mul (pe_fld (pv 0) rfl) (pv 3)) rfl))) pss_nil))), ?_⟩
    refine q_degrees T (nval_add (val_degrees T (val_var rfl) hl) (val_var rfl)) (val_var rfl) hl ?_
    refine st_if (b := decide (h ≤ l.warmth + t)) (ans_ge2 (val_degrees T (val_var rfl) upd_same) (val_var rfl) ?_) (fun e => ?_) (fun e => ?_)
    · by_cases c : h ≤ l.warmth + t
      · rw [decide_eq_true c]; exact decide_eq_true (by show (h : Int) ≤ ((l.warmth + t : Nat) : Int); omega)
      · rw [decide_eq_false c]; exact decide_eq_false (by show ¬ (h : Int) ≤ ((l.warmth + t : Nat) : Int); omega)
    · refine q_hatched T val_c (val_var rfl) upd_same ?_
      refine st_mass T (nval_mulR (val_many T (val_var rfl) upd_same) (val_var rfl) (by omega)) (val_var rfl) upd_same ?_
      show Q .non _
      rw [upd_upd, upd_upd]
      have e0 : warmed l t h f = { l with hatched := true, mass := l.n * f, warmth := l.warmth + t } := if_pos (of_decide_eq_true e)
      rw [e0] at q
      exact q
    · refine st_next ?_
      show Q .non _
      have e0 : warmed l t h f = { l with warmth := l.warmth + t } := if_neg (of_decide_eq_false e)
      rw [e0] at q
      exact q
theorem ok_take_part (T : Tx K mg) : Kp P w K mg base 3 "take_part" (spPart K) := by
  obtain ⟨fd, F⟩ := T.d_take_part
  refine kp_of (ps := ["lot", "many"]) F T.g_take_part (fun _ _ _ _ _ _ us hl => match us, hl with | [_, _], _ => rfl) sc_take_part (fun vs H Q E h => ?_) (fun cdv A outer s H vs Q E hr h => ?_)
  · obtain ⟨a, dx, l, b, n, rfl, _⟩ := h
    rfl
  · obtain ⟨a, dx, l, b, n, rfl, hl, fit, hn, hn2, q⟩ := h
    refine ⟨_, (pss_cons (ps_set (i := 2) sc_take_part.nd rfl (Or.inl rfl) pe_int) (Evl.pss_cut (ps_if (pt_cmpR op_gt (pe_fld (pv 0) rfl) pe_int (nomark _)) (pss_one (ps_set (i := 2) sc_take_part.nd rfl (Or.inl rfl) (pe_op op_fdivW (pe_op op_mul (pv 1) (pe_fld (pv 0) rfl)) (pe_fld (pv 0) rfl)))) pss_nil) (pss_cons (ps_fld (pv 0) (pe_op op_sub (pe_fld (pv 0) rfl) (pv 1)) rfl) (pss_cons (ps_fld (pv 0) (pe_op op_sub (pe_fld (pv 0) rfl) (pv 2)) rfl) (pss_one (ps_ret (pe_mk T.m_Lot (ok_Lot_init T) (hr.mono (by decide)) rfl T.g_Lot (pa_cons (pe_fld (pv 0) rfl) (pa_cons (pv 1) (pa_cons (pv 2) (pa_cons (pe_fld (pv 0) rfl) pa_nil))))))))))), ?_⟩
    refine q_set val_c ?_
    refine ⟨fun σ' H' => σ' = [some (.ref a), some (.int n), some (.int (Kh328.part l n).mass)] ∧ H' = H, ?_, ?_⟩
    · refine st_if (b := decide (0 < l.n)) (ans_gt2 (val_many T (val_var rfl) hl) val_c ?_) (fun e => ?_) (fun e => ?_)
      · by_cases c : 0 < l.n
        · rw [decide_eq_true c]; exact decide_eq_true (by omega)
        · rw [decide_eq_false c]; exact decide_eq_false (by omega)
      · have e1 : 0 < l.n := of_decide_eq_true e
        refine st_set (nval_div (b := b) (nval_mulL (val_var rfl) (val_mass T (val_var rfl) hl) (by omega)) (val_many T (val_var rfl) hl) e1 fit.n ⟨fit.b0, Nat.le_trans fit.b9 (by decide)⟩) ⟨?_, rfl⟩
        have e2 : (Kh328.part l n).mass = n * l.mass / l.n := by
          show (if l.n = 0 then 0 else l.mass * n / l.n) = _
          rw [if_neg (by omega), Nat.mul_comm]
        rw [e2]
        rfl
      · have e1 : ¬ 0 < l.n := of_decide_eq_false e
        refine st_next ⟨?_, rfl⟩
        have e2 : (Kh328.part l n).mass = 0 := if_pos (by omega)
        rw [e2]
        rfl
    · rintro σ' H' ⟨rfl, rfl⟩
      refine q_many T (nval_sub (val_many T (val_var rfl) hl) (val_var rfl) hn) (val_var rfl) hl ?_
      refine q_mass T (nval_sub (val_mass T (val_var rfl) upd_same) (val_var rfl) (show (Kh328.part l n).mass ≤ ({ l with n := l.n - n } : Lot).mass from part_mass_le l hn)) (val_var rfl) upd_same ?_
      rw [upd_upd]
      refine st_ret_mk (va_cons (val_hatched T (val_var rfl) upd_same) (va_cons (val_var rfl) (va_cons (val_var rfl) (va_cons (val_degrees T (val_var rfl) upd_same) va_nil)))) fun x dy hx hdy hne => ?_
      refine ⟨x, dy, l.hatched, n, (Kh328.part l n).mass, l.warmth, rfl, upd_same, rfl, ?_⟩
      show Q (.ref x) _
      rw [upd_upd]
      have nxa : x ≠ a := fun z => by
        rw [z, upd_same] at hx
        cases hx
      have nya : dy ≠ a := fun z => by
        rw [z, upd_same] at hdy
        cases hdy
      rw [upd_ne nxa] at hx
      rw [upd_ne nya] at hdy
      refine q x dy _ hx hdy upd_same ?_ fun b o e hb => ?_
      · rw [upd_ne nxa.symm, upd_ne nya.symm, upd_same]
        rfl
      · rw [upd_ne (ne_of_none e hx), upd_ne (ne_of_none e hdy), upd_ne hb]
        exact e
end
end Wg

set_option Elab.async false
set_option linter.all false
set_option maxRecDepth 100000
set_option maxHeartbeats 4000000
/-! A farm in the heap. -/
namespace Wg
open PySem PySem.Spec PyProof.Rows L2
open Kh328 (Lot Abs)
abbrev nV (ns : List Nat) : List V := ns.map fun n => V.int (n : Nat)
structure FarmS where
  begun : Bool
  hatch : Nat
  first : Nat
  conv : Nat
  pace : Addr
  lots : Addr
  today : Nat
  fed : Nat
  eaten : Nat
  died : Nat
  diedMass : Nat
def farmF (x : FarmS) : List (Str × V) := [("begun", .bl x.begun), ("hatch", .int x.hatch), ("first", .int x.first), ("conv", .int x.conv), ("pace", .ref x.pace), ("lots", .ref x.lots), ("today", .int x.today), ("fed", .int x.fed), ("eaten", .int x.eaten), ("died", .int x.died), ("died_mass", .int x.diedMass)]
theorem farmF_begun (x : FarmS) : (farmF x).lookup ("begun" : Str) = some (.bl x.begun) := lk_here
theorem farmF_hatch (x : FarmS) : (farmF x).lookup ("hatch" : Str) = some (.int x.hatch) := (lk_past (by decide +kernel)).trans (lk_here)
theorem farmF_first (x : FarmS) : (farmF x).lookup ("first" : Str) = some (.int x.first) := (lk_past (by decide +kernel)).trans ((lk_past (by decide +kernel)).trans (lk_here))
theorem farmF_conv (x : FarmS) : (farmF x).lookup ("conv" : Str) = some (.int x.conv) := (lk_past (by decide +kernel)).trans ((lk_past (by decide +kernel)).trans ((lk_past (by decide +kernel)).trans (lk_here)))
theorem farmF_pace (x : FarmS) : (farmF x).lookup ("pace" : Str) = some (.ref x.pace) := (lk_past (by decide +kernel)).trans ((lk_past (by decide +kernel)).trans ((lk_past (by decide +kernel)).trans ((lk_past (by decide +kernel)).trans (lk_here))))
theorem farmF_lots (x : FarmS) : (farmF x).lookup ("lots" : Str) = some (.ref x.lots) := (lk_past (by decide +kernel)).trans ((lk_past (by decide +kernel)).trans ((lk_past (by decide +kernel)).trans ((lk_past (by decide +kernel)).trans ((lk_past (by decide +kernel)).trans (lk_here)))))
theorem farmF_today (x : FarmS) : (farmF x).lookup ("today" : Str) = some (.int x.today) := (lk_past (by decide +kernel)).trans ((lk_past (by decide +kernel)).trans ((lk_past (by decide +kernel)).trans ((lk_past (by decide +kernel)).trans ((lk_past (by decide +kernel)).trans ((lk_past (by decide +kernel)).trans (lk_here))))))
theorem farmF_fed (x : FarmS) : (farmF x).lookup ("fed" : Str) = some (.int x.fed) := (lk_past (by decide +kernel)).trans ((lk_past (by decide +kernel)).trans ((lk_past (by decide +kernel)).trans ((lk_past (by decide +kernel)).trans ((lk_past (by decide +kernel)).trans ((lk_past (by decide +kernel)).trans ((lk_past (by decide +kernel)).trans (lk_here)))))))
theorem farmF_eaten (x : FarmS) : (farmF x).lookup ("eaten" : Str) = some (.int x.eaten) := (lk_past (by decide +kernel)).trans ((lk_past (by decide +kernel)).trans ((lk_past (by decide +kernel)).trans ((lk_past (by decide +kernel)).trans ((lk_past (by decide +kernel)).trans ((lk_past (by decide +kernel)).trans ((lk_past (by decide +kernel)).trans ((lk_past (by decide +kernel)).trans (lk_here))))))))
theorem farmF_died (x : FarmS) : (farmF x).lookup ("died" : Str) = some (.int x.died) := (lk_past (by decide +kernel)).trans ((lk_past (by decide +kernel)).trans ((lk_past (by decide +kernel)).trans ((lk_past (by decide +kernel)).trans ((lk_past (by decide +kernel)).trans ((lk_past (by decide +kernel)).trans ((lk_past (by decide +kernel)).trans ((lk_past (by decide +kernel)).trans ((lk_past (by decide +kernel)).trans (lk_here)))))))))
theorem farmF_died_mass (x : FarmS) : (farmF x).lookup ("died_mass" : Str) = some (.int x.diedMass) := (lk_past (by decide +kernel)).trans ((lk_past (by decide +kernel)).trans ((lk_past (by decide +kernel)).trans ((lk_past (by decide +kernel)).trans ((lk_past (by decide +kernel)).trans ((lk_past (by decide +kernel)).trans ((lk_past (by decide +kernel)).trans ((lk_past (by decide +kernel)).trans ((lk_past (by decide +kernel)).trans ((lk_past (by decide +kernel)).trans (lk_here))))))))))
theorem farmF_put_begun (x : FarmS) (y : Bool) : putF "begun" (.bl y) (farmF x) = farmF { x with begun := y } := put_here
theorem farmF_put_hatch (x : FarmS) (y : Nat) : putF "hatch" (.int y) (farmF x) = farmF { x with hatch := y } := (put_past (by decide +kernel)).trans (congrArg _ (put_here))
theorem farmF_put_first (x : FarmS) (y : Nat) : putF "first" (.int y) (farmF x) = farmF { x with first := y } := (put_past (by decide +kernel)).trans (congrArg _ ((put_past (by decide +kernel)).trans (congrArg _ (put_here))))
theorem farmF_put_conv (x : FarmS) (y : Nat) : putF "conv" (.int y) (farmF x) = farmF { x with conv := y } := (put_past (by decide +kernel)).trans (congrArg _ ((put_past (by decide +kernel)).trans (congrArg _ ((put_past (by decide +kernel)).trans (congrArg _ (put_here))))))
theorem farmF_put_pace (x : FarmS) (y : Addr) : putF "pace" (.ref y) (farmF x) = farmF { x with pace := y } := (put_past (by decide +kernel)).trans (congrArg _ ((put_past (by decide +kernel)).trans (congrArg _ ((put_past (by decide +kernel)).trans (congrArg _ ((put_past (by decide +kernel)).trans (congrArg _ (put_here))))))))
theorem farmF_put_lots (x : FarmS) (y : Addr) : putF "lots" (.ref y) (farmF x) = farmF { x with lots := y } := (put_past (by decide +kernel)).trans (congrArg _ ((put_past (by decide +kernel)).trans (congrArg _ ((put_past (by decide +kernel)).trans (congrArg _ ((put_past (by decide +kernel)).trans (congrArg _ ((put_past (by decide +kernel)).trans (congrArg _ (put_here))))))))))
theorem farmF_put_today (x : FarmS) (y : Nat) : putF "today" (.int y) (farmF x) = farmF { x with today := y } := (put_past (by decide +kernel)).trans (congrArg _ ((put_past (by decide +kernel)).trans (congrArg _ ((put_past (by decide +kernel)).trans (congrArg _ ((put_past (by decide +kernel)).trans (congrArg _ ((put_past (by decide +kernel)).trans (congrArg _ ((put_past (by decide +kernel)).trans (congrArg _ (put_here))))))))))))
theorem farmF_put_fed (x : FarmS) (y : Nat) : putF "fed" (.int y) (farmF x) = farmF { x with fed := y } := (put_past (by decide +kernel)).trans (congrArg _ ((put_past (by decide +kernel)).trans (congrArg _ ((put_past (by decide +kernel)).trans (congrArg _ ((put_past (by decide +kernel)).trans (congrArg _ ((put_past (by decide +kernel)).trans (congrArg _ ((put_past (by decide +kernel)).trans (congrArg _ ((put_past (by decide +kernel)).trans (congrArg _ (put_here))))))))))))))
theorem farmF_put_eaten (x : FarmS) (y : Nat) : putF "eaten" (.int y) (farmF x) = farmF { x with eaten := y } := (put_past (by decide +kernel)).trans (congrArg _ ((put_past (by decide +kernel)).trans (congrArg _ ((put_past (by decide +kernel)).trans (congrArg _ ((put_past (by decide +kernel)).trans (congrArg _ ((put_past (by decide +kernel)).trans (congrArg _ ((put_past (by decide +kernel)).trans (congrArg _ ((put_past (by decide +kernel)).trans (congrArg _ ((put_past (by decide +kernel)).trans (congrArg _ (put_here))))))))))))))))
theorem farmF_put_died (x : FarmS) (y : Nat) : putF "died" (.int y) (farmF x) = farmF { x with died := y } := (put_past (by decide +kernel)).trans (congrArg _ ((put_past (by decide +kernel)).trans (congrArg _ ((put_past (by decide +kernel)).trans (congrArg _ ((put_past (by decide +kernel)).trans (congrArg _ ((put_past (by decide +kernel)).trans (congrArg _ ((put_past (by decide +kernel)).trans (congrArg _ ((put_past (by decide +kernel)).trans (congrArg _ ((put_past (by decide +kernel)).trans (congrArg _ ((put_past (by decide +kernel)).trans (congrArg _ (put_here))))))))))))))))))
theorem farmF_put_died_mass (x : FarmS) (y : Nat) : putF "died_mass" (.int y) (farmF x) = farmF { x with diedMass := y } := (put_past (by decide +kernel)).trans (congrArg _ ((put_past (by decide +kernel)).trans (congrArg _ ((put_past (by decide +kernel)).trans (congrArg _ ((put_past (by decide +kernel)).trans (congrArg _ ((put_past (by decide +kernel)).trans (congrArg _ ((put_past (by decide +kernel)).trans (congrArg _ ((put_past (by decide +kernel)).trans (congrArg _ ((put_past (by decide +kernel)).trans (congrArg _ ((put_past (by decide +kernel)).trans (congrArg _ ((put_past (by decide +kernel)).trans (congrArg _ (put_here))))))))))))))))))))
theorem farmF_new (x : FarmS) : putF "died_mass" (.int x.diedMass) (putF "died" (.int x.died) (putF "eaten" (.int x.eaten) (putF "fed" (.int x.fed) (putF "today" (.int x.today) (putF "lots" (.ref x.lots) (putF "pace" (.ref x.pace) (putF "conv" (.int x.conv) (putF "first" (.int x.first) (putF "hatch" (.int x.hatch) (putF "begun" (.bl x.begun) ([]))))))))))) = farmF x := by
  rw [put_nil, put_past (show ¬ (("begun" : Str) = "hatch") by decide +kernel), put_nil, put_past (show ¬ (("begun" : Str) = "first") by decide +kernel), put_past (show ¬ (("hatch" : Str) = "first") by decide +kernel), put_nil, put_past (show ¬ (("begun" : Str) = "conv") by decide +kernel), put_past (show ¬ (("hatch" : Str) = "conv") by decide +kernel), put_past (show ¬ (("first" : Str) = "conv") by decide +kernel), put_nil, put_past (show ¬ (("begun" : Str) = "pace") by decide +kernel), put_past (show ¬ (("hatch" : Str) = "pace") by decide +kernel), put_past (show ¬ (("first" : Str) = "pace") by decide +kernel), put_past (show ¬ (("conv" : Str) = "pace") by decide +kernel), put_nil, put_past (show ¬ (("begun" : Str) = "lots") by decide +kernel), put_past (show ¬ (("hatch" : Str) = "lots") by decide +kernel), put_past (show ¬ (("first" : Str) = "lots") by decide +kernel), put_past (show ¬ (("conv" : Str) = "lots") by decide +kernel), put_past (show ¬ (("pace" : Str) = "lots") by decide +kernel), put_nil, put_past (show ¬ (("begun" : Str) = "today") by decide +kernel), put_past (show ¬ (("hatch" : Str) = "today") by decide +kernel), put_past (show ¬ (("first" : Str) = "today") by decide +kernel), put_past (show ¬ (("conv" : Str) = "today") by decide +kernel), put_past (show ¬ (("pace" : Str) = "today") by decide +kernel), put_past (show ¬ (("lots" : Str) = "today") by decide +kernel), put_nil, put_past (show ¬ (("begun" : Str) = "fed") by decide +kernel), put_past (show ¬ (("hatch" : Str) = "fed") by decide +kernel), put_past (show ¬ (("first" : Str) = "fed") by decide +kernel), put_past (show ¬ (("conv" : Str) = "fed") by decide +kernel), put_past (show ¬ (("pace" : Str) = "fed") by decide +kernel), put_past (show ¬ (("lots" : Str) = "fed") by decide +kernel), put_past (show ¬ (("today" : Str) = "fed") by decide +kernel), put_nil, put_past (show ¬ (("begun" : Str) = "eaten") by decide +kernel), put_past (show ¬ (("hatch" : Str) = "eaten") by decide +kernel), put_past (show ¬ (("first" : Str) = "eaten") by decide +kernel), put_past (show ¬ (("conv" : Str) = "eaten") by decide +kernel), put_past (show ¬ (("pace" : Str) = "eaten") by decide +kernel), put_past (show ¬ (("lots" : Str) = "eaten") by decide +kernel), put_past (show ¬ (("today" : Str) = "eaten") by decide +kernel), put_past (show ¬ (("fed" : Str) = "eaten") by decide +kernel), put_nil, put_past (show ¬ (("begun" : Str) = "died") by decide +kernel), put_past (show ¬ (("hatch" : Str) = "died") by decide +kernel), put_past (show ¬ (("first" : Str) = "died") by decide +kernel), put_past (show ¬ (("conv" : Str) = "died") by decide +kernel), put_past (show ¬ (("pace" : Str) = "died") by decide +kernel), put_past (show ¬ (("lots" : Str) = "died") by decide +kernel), put_past (show ¬ (("today" : Str) = "died") by decide +kernel), put_past (show ¬ (("fed" : Str) = "died") by decide +kernel), put_past (show ¬ (("eaten" : Str) = "died") by decide +kernel), put_nil, put_past (show ¬ (("begun" : Str) = "died_mass") by decide +kernel), put_past (show ¬ (("hatch" : Str) = "died_mass") by decide +kernel), put_past (show ¬ (("first" : Str) = "died_mass") by decide +kernel), put_past (show ¬ (("conv" : Str) = "died_mass") by decide +kernel), put_past (show ¬ (("pace" : Str) = "died_mass") by decide +kernel), put_past (show ¬ (("lots" : Str) = "died_mass") by decide +kernel), put_past (show ¬ (("today" : Str) = "died_mass") by decide +kernel), put_past (show ¬ (("fed" : Str) = "died_mass") by decide +kernel), put_past (show ¬ (("eaten" : Str) = "died_mass") by decide +kernel), put_past (show ¬ (("died" : Str) = "died_mass") by decide +kernel), put_nil] <;> rfl
theorem farmF_few (x : FarmS) : (farmF x).length < 1000 := by show 11 < 1000; decide
abbrev farmO (K : PySem.W.Frag) (dx : Addr) (x : FarmS) : HO := .ins (He.ga K "Farm") dx (farmF x)
section
variable {K : PySem.W.Frag} {mg : Str → Option Value} {σ : L2.St} {H : Hp} {a dx : Addr} {x : FarmS} {ta tv : TE} {D : Ends} {tz : TS}
theorem farm_val_begun (T : Tx K mg) (h : Val ta σ H (.ref a)) (hl : H a = some (farmO K dx x)) : Val (tFld K ta "begun") σ H (.bl x.begun) := val_f h hl T.c_Farm T.n_Farm_begun (farmF_begun x)
theorem farm_st_begun (T : Tx K mg) {y : Bool} (hv : Val tv σ H (.bl y)) (h : Val ta σ H (.ref a)) (hl : H a = some (farmO K dx x)) (q : D.nx σ (upd H a (farmO K dx { x with begun := y }))) : sFld K ta tv "begun" D σ H :=
  st_fld hv h hl T.c_Farm T.n_Farm_begun (farmF_few x) (by rw [farmF_put_begun]; exact q)
theorem farm_q_begun (T : Tx K mg) {y : Bool} (hv : Val tv σ H (.bl y)) (h : Val ta σ H (.ref a)) (hl : H a = some (farmO K dx x)) (q : tz D σ (upd H a (farmO K dx { x with begun := y }))) : tSeq (sFld K ta tv "begun") tz D σ H := farm_st_begun (D := { D with nx := tz D }) T hv h hl q
theorem farm_p_begun (T : Tx K mg) {y : Bool} {x2 : FarmS} (hv : Val tv σ H (.bl y)) (h : Val ta σ H (.ref a)) (hl : H a = some (farmO K dx x)) (e : { x with begun := y } = x2) (q : tz D σ (upd H a (farmO K dx x2))) : tSeq (sFld K ta tv "begun") tz D σ H := farm_q_begun T hv h hl (by rw [e]; exact q)
theorem farm_val_hatch (T : Tx K mg) (h : Val ta σ H (.ref a)) (hl : H a = some (farmO K dx x)) : Val (tFld K ta "hatch") σ H (.int x.hatch) := val_f h hl T.c_Farm T.n_Farm_hatch (farmF_hatch x)
theorem farm_st_hatch (T : Tx K mg) {y : Nat} (hv : Val tv σ H (.int y)) (h : Val ta σ H (.ref a)) (hl : H a = some (farmO K dx x)) (q : D.nx σ (upd H a (farmO K dx { x with hatch := y }))) : sFld K ta tv "hatch" D σ H :=
  st_fld hv h hl T.c_Farm T.n_Farm_hatch (farmF_few x) (by rw [farmF_put_hatch]; exact q)
theorem farm_q_hatch (T : Tx K mg) {y : Nat} (hv : Val tv σ H (.int y)) (h : Val ta σ H (.ref a)) (hl : H a = some (farmO K dx x)) (q : tz D σ (upd H a (farmO K dx { x with hatch := y }))) : tSeq (sFld K ta tv "hatch") tz D σ H := farm_st_hatch (D := { D with nx := tz D }) T hv h hl q
theorem farm_p_hatch (T : Tx K mg) {y : Nat} {x2 : FarmS} (hv : Val tv σ H (.int y)) (h : Val ta σ H (.ref a)) (hl : H a = some (farmO K dx x)) (e : { x with hatch := y } = x2) (q : tz D σ (upd H a (farmO K dx x2))) : tSeq (sFld K ta tv "hatch") tz D σ H := farm_q_hatch T hv h hl (by rw [e]; exact q)
theorem farm_val_first (T : Tx K mg) (h : Val ta σ H (.ref a)) (hl : H a = some (farmO K dx x)) : Val (tFld K ta "first") σ H (.int x.first) := val_f h hl T.c_Farm T.n_Farm_first (farmF_first x)
theorem farm_st_first (T : Tx K mg) {y : Nat} (hv : Val tv σ H (.int y)) (h : Val ta σ H (.ref a)) (hl : H a = some (farmO K dx x)) (q : D.nx σ (upd H a (farmO K dx { x with first := y }))) : sFld K ta tv "first" D σ H :=
  st_fld hv h hl T.c_Farm T.n_Farm_first (farmF_few x) (by rw [farmF_put_first]; exact q)
theorem farm_q_first (T : Tx K mg) {y : Nat} (hv : Val tv σ H (.int y)) (h : Val ta σ H (.ref a)) (hl : H a = some (farmO K dx x)) (q : tz D σ (upd H a (farmO K dx { x with first := y }))) : tSeq (sFld K ta tv "first") tz D σ H := farm_st_first (D := { D with nx := tz D }) T hv h hl q
theorem farm_p_first (T : Tx K mg) {y : Nat} {x2 : FarmS} (hv : Val tv σ H (.int y)) (h : Val ta σ H (.ref a)) (hl : H a = some (farmO K dx x)) (e : { x with first := y } = x2) (q : tz D σ (upd H a (farmO K dx x2))) : tSeq (sFld K ta tv "first") tz D σ H := farm_q_first T hv h hl (by rw [e]; exact q)
theorem farm_val_conv (T : Tx K mg) (h : Val ta σ H (.ref a)) (hl : H a = some (farmO K dx x)) : Val (tFld K ta "conv") σ H (.int x.conv) := val_f h hl T.c_Farm T.n_Farm_conv (farmF_conv x)
theorem farm_st_conv (T : Tx K mg) {y : Nat} (hv : Val tv σ H (.int y)) (h : Val ta σ H (.ref a)) (hl : H a = some (farmO K dx x)) (q : D.nx σ (upd H a (farmO K dx { x with conv := y }))) : sFld K ta tv "conv" D σ H :=
  st_fld hv h hl T.c_Farm T.n_Farm_conv (farmF_few x) (by rw [farmF_put_conv]; exact q)
theorem farm_q_conv (T : Tx K mg) {y : Nat} (hv : Val tv σ H (.int y)) (h : Val ta σ H (.ref a)) (hl : H a = some (farmO K dx x)) (q : tz D σ (upd H a (farmO K dx { x with conv := y }))) : tSeq (sFld K ta tv "conv") tz D σ H := farm_st_conv (D := { D with nx := tz D }) T hv h hl q
theorem farm_p_conv (T : Tx K mg) {y : Nat} {x2 : FarmS} (hv : Val tv σ H (.int y)) (h : Val ta σ H (.ref a)) (hl : H a = some (farmO K dx x)) (e : { x with conv := y } = x2) (q : tz D σ (upd H a (farmO K dx x2))) : tSeq (sFld K ta tv "conv") tz D σ H := farm_q_conv T hv h hl (by rw [e]; exact q)
theorem farm_val_pace (T : Tx K mg) (h : Val ta σ H (.ref a)) (hl : H a = some (farmO K dx x)) : Val (tFld K ta "pace") σ H (.ref x.pace) := val_f h hl T.c_Farm T.n_Farm_pace (farmF_pace x)
theorem farm_st_pace (T : Tx K mg) {y : Addr} (hv : Val tv σ H (.ref y)) (h : Val ta σ H (.ref a)) (hl : H a = some (farmO K dx x)) (q : D.nx σ (upd H a (farmO K dx { x with pace := y }))) : sFld K ta tv "pace" D σ H :=
  st_fld hv h hl T.c_Farm T.n_Farm_pace (farmF_few x) (by rw [farmF_put_pace]; exact q)
theorem farm_q_pace (T : Tx K mg) {y : Addr} (hv : Val tv σ H (.ref y)) (h : Val ta σ H (.ref a)) (hl : H a = some (farmO K dx x)) (q : tz D σ (upd H a (farmO K dx { x with pace := y }))) : tSeq (sFld K ta tv "pace") tz D σ H := farm_st_pace (D := { D with nx := tz D }) T hv h hl q
theorem farm_p_pace (T : Tx K mg) {y : Addr} {x2 : FarmS} (hv : Val tv σ H (.ref y)) (h : Val ta σ H (.ref a)) (hl : H a = some (farmO K dx x)) (e : { x with pace := y } = x2) (q : tz D σ (upd H a (farmO K dx x2))) : tSeq (sFld K ta tv "pace") tz D σ H := farm_q_pace T hv h hl (by rw [e]; exact q)
theorem farm_val_lots (T : Tx K mg) (h : Val ta σ H (.ref a)) (hl : H a = some (farmO K dx x)) : Val (tFld K ta "lots") σ H (.ref x.lots) := val_f h hl T.c_Farm T.n_Farm_lots (farmF_lots x)
theorem farm_st_lots (T : Tx K mg) {y : Addr} (hv : Val tv σ H (.ref y)) (h : Val ta σ H (.ref a)) (hl : H a = some (farmO K dx x)) (q : D.nx σ (upd H a (farmO K dx { x with lots := y }))) : sFld K ta tv "lots" D σ H :=
  st_fld hv h hl T.c_Farm T.n_Farm_lots (farmF_few x) (by rw [farmF_put_lots]; exact q)
theorem farm_q_lots (T : Tx K mg) {y : Addr} (hv : Val tv σ H (.ref y)) (h : Val ta σ H (.ref a)) (hl : H a = some (farmO K dx x)) (q : tz D σ (upd H a (farmO K dx { x with lots := y }))) : tSeq (sFld K ta tv "lots") tz D σ H := farm_st_lots (D := { D with nx := tz D }) T hv h hl q
theorem farm_p_lots (T : Tx K mg) {y : Addr} {x2 : FarmS} (hv : Val tv σ H (.ref y)) (h : Val ta σ H (.ref a)) (hl : H a = some (farmO K dx x)) (e : { x with lots := y } = x2) (q : tz D σ (upd H a (farmO K dx x2))) : tSeq (sFld K ta tv "lots") tz D σ H := farm_q_lots T hv h hl (by rw [e]; exact q)
theorem farm_val_today (T : Tx K mg) (h : Val ta σ H (.ref a)) (hl : H a = some (farmO K dx x)) : Val (tFld K ta "today") σ H (.int x.today) := val_f h hl T.c_Farm T.n_Farm_today (farmF_today x)
theorem farm_st_today (T : Tx K mg) {y : Nat} (hv : Val tv σ H (.int y)) (h : Val ta σ H (.ref a)) (hl : H a = some (farmO K dx x)) (q : D.nx σ (upd H a (farmO K dx { x with today := y }))) : sFld K ta tv "today" D σ H :=
  st_fld hv h hl T.c_Farm T.n_Farm_today (farmF_few x) (by rw [farmF_put_today]; exact q)
theorem farm_q_today (T : Tx K mg) {y : Nat} (hv : Val tv σ H (.int y)) (h : Val ta σ H (.ref a)) (hl : H a = some (farmO K dx x)) (q : tz D σ (upd H a (farmO K dx { x with today := y }))) : tSeq (sFld K ta tv "today") tz D σ H := farm_st_today (D := { D with nx := tz D }) T hv h hl q
theorem farm_p_today (T : Tx K mg) {y : Nat} {x2 : FarmS} (hv : Val tv σ H (.int y)) (h : Val ta σ H (.ref a)) (hl : H a = some (farmO K dx x)) (e : { x with today := y } = x2) (q : tz D σ (upd H a (farmO K dx x2))) : tSeq (sFld K ta tv "today") tz D σ H := farm_q_today T hv h hl (by rw [e]; exact q)
theorem farm_val_fed (T : Tx K mg) (h : Val ta σ H (.ref a)) (hl : H a = some (farmO K dx x)) : Val (tFld K ta "fed") σ H (.int x.fed) := val_f h hl T.c_Farm T.n_Farm_fed (farmF_fed x)
theorem farm_st_fed (T : Tx K mg) {y : Nat} (hv : Val tv σ H (.int y)) (h : Val ta σ H (.ref a)) (hl : H a = some (farmO K dx x)) (q : D.nx σ (upd H a (farmO K dx { x with fed := y }))) : sFld K ta tv "fed" D σ H :=
  st_fld hv h hl T.c_Farm T.n_Farm_fed (farmF_few x) (by rw [farmF_put_fed]; exact q)
theorem farm_q_fed (T : Tx K mg) {y : Nat} (hv : Val tv σ H (.int y)) (h : Val ta σ H (.ref a)) (hl : H a = some (farmO K dx x)) (q : tz D σ (upd H a (farmO K dx { x with fed := y }))) : tSeq (sFld K ta tv "fed") tz D σ H := farm_st_fed (D := { D with nx := tz D }) T hv h hl q
theorem farm_p_fed (T : Tx K mg) {y : Nat} {x2 : FarmS} (hv : Val tv σ H (.int y)) (h : Val ta σ H (.ref a)) (hl : H a = some (farmO K dx x)) (e : { x with fed := y } = x2) (q : tz D σ (upd H a (farmO K dx x2))) : tSeq (sFld K ta tv "fed") tz D σ H := farm_q_fed T hv h hl (by rw [e]; exact q)
theorem farm_val_eaten (T : Tx K mg) (h : Val ta σ H (.ref a)) (hl : H a = some (farmO K dx x)) : Val (tFld K ta "eaten") σ H (.int x.eaten) := val_f h hl T.c_Farm T.n_Farm_eaten (farmF_eaten x)
theorem farm_st_eaten (T : Tx K mg) {y : Nat} (hv : Val tv σ H (.int y)) (h : Val ta σ H (.ref a)) (hl : H a = some (farmO K dx x)) (q : D.nx σ (upd H a (farmO K dx { x with eaten := y }))) : sFld K ta tv "eaten" D σ H :=
  st_fld hv h hl T.c_Farm T.n_Farm_eaten (farmF_few x) (by rw [farmF_put_eaten]; exact q)
theorem farm_q_eaten (T : Tx K mg) {y : Nat} (hv : Val tv σ H (.int y)) (h : Val ta σ H (.ref a)) (hl : H a = some (farmO K dx x)) (q : tz D σ (upd H a (farmO K dx { x with eaten := y }))) : tSeq (sFld K ta tv "eaten") tz D σ H := farm_st_eaten (D := { D with nx := tz D }) T hv h hl q
theorem farm_p_eaten (T : Tx K mg) {y : Nat} {x2 : FarmS} (hv : Val tv σ H (.int y)) (h : Val ta σ H (.ref a)) (hl : H a = some (farmO K dx x)) (e : { x with eaten := y } = x2) (q : tz D σ (upd H a (farmO K dx x2))) : tSeq (sFld K ta tv "eaten") tz D σ H := farm_q_eaten T hv h hl (by rw [e]; exact q)
theorem farm_val_died (T : Tx K mg) (h : Val ta σ H (.ref a)) (hl : H a = some (farmO K dx x)) : Val (tFld K ta "died") σ H (.int x.died) := val_f h hl T.c_Farm T.n_Farm_died (farmF_died x)
theorem farm_st_died (T : Tx K mg) {y : Nat} (hv : Val tv σ H (.int y)) (h : Val ta σ H (.ref a)) (hl : H a = some (farmO K dx x)) (q : D.nx σ (upd H a (farmO K dx { x with died := y }))) : sFld K ta tv "died" D σ H :=
  st_fld hv h hl T.c_Farm T.n_Farm_died (farmF_few x) (by rw [farmF_put_died]; exact q)
theorem farm_q_died (T : Tx K mg) {y : Nat} (hv : Val tv σ H (.int y)) (h : Val ta σ H (.ref a)) (hl : H a = some (farmO K dx x)) (q : tz D σ (upd H a (farmO K dx { x with died := y }))) : tSeq (sFld K ta tv "died") tz D σ H := farm_st_died (D := { D with nx := tz D }) T hv h hl q
theorem farm_p_died (T : Tx K mg) {y : Nat} {x2 : FarmS} (hv : Val tv σ H (.int y)) (h : Val ta σ H (.ref a)) (hl : H a = some (farmO K dx x)) (e : { x with died := y } = x2) (q : tz D σ (upd H a (farmO K dx x2))) : tSeq (sFld K ta tv "died") tz D σ H := farm_q_died T hv h hl (by rw [e]; exact q)
theorem farm_val_died_mass (T : Tx K mg) (h : Val ta σ H (.ref a)) (hl : H a = some (farmO K dx x)) : Val (tFld K ta "died_mass") σ H (.int x.diedMass) := val_f h hl T.c_Farm T.n_Farm_died_mass (farmF_died_mass x)
theorem farm_st_died_mass (T : Tx K mg) {y : Nat} (hv : Val tv σ H (.int y)) (h : Val ta σ H (.ref a)) (hl : H a = some (farmO K dx x)) (q : D.nx σ (upd H a (farmO K dx { x with diedMass := y }))) : sFld K ta tv "died_mass" D σ H :=
  st_fld hv h hl T.c_Farm T.n_Farm_died_mass (farmF_few x) (by rw [farmF_put_died_mass]; exact q)
theorem farm_q_died_mass (T : Tx K mg) {y : Nat} (hv : Val tv σ H (.int y)) (h : Val ta σ H (.ref a)) (hl : H a = some (farmO K dx x)) (q : tz D σ (upd H a (farmO K dx { x with diedMass := y }))) : tSeq (sFld K ta tv "died_mass") tz D σ H := farm_st_died_mass (D := { D with nx := tz D }) T hv h hl q
theorem farm_p_died_mass (T : Tx K mg) {y : Nat} {x2 : FarmS} (hv : Val tv σ H (.int y)) (h : Val ta σ H (.ref a)) (hl : H a = some (farmO K dx x)) (e : { x with diedMass := y } = x2) (q : tz D σ (upd H a (farmO K dx x2))) : tSeq (sFld K ta tv "died_mass") tz D σ H := farm_q_died_mass T hv h hl (by rw [e]; exact q)
end
def farmS (b : Bool) (a : Abs) (pl ll : Addr) : FarmS := ⟨b, a.hatch, a.first, a.conv, pl, ll, a.day, a.fed, a.eaten, a.dead, a.deadMass⟩
/-- a farm that stands at fa; H0: all else, which stays -/
structure FarmX (K : PySem.W.Frag) (H0 H : Hp) (fa : Addr) (b : Bool) (a : Abs) (dx pl ll : Addr) (as : List Addr) : Prop where
  keep : Same H0 H
  f0 : H0 fa = none
  p0 : H0 pl = none
  l0 : H0 ll = none
  a0 : ∀ x ∈ as, H0 x = none
  farm : H fa = some (farmO K dx (farmS b a pl ll))
  pace : H pl = some (.lst (a.pace.map fun n => V.int (n : Nat)))
  list : H ll = some (.lst (as.map V.ref))
  len : as.length = a.lots.length
  nd : as.Nodup
  lots : ∀ (i : Nat) (x : Addr) (l : Lot), as[i]? = some x → a.lots[i]? = some l → LotAt K H x l
def FarmIn (K : PySem.W.Frag) (H0 H : Hp) (fa : Addr) (b : Bool) (a : Abs) : Prop := ∃ dx pl ll as, FarmX K H0 H fa b a dx pl ll as
/-- what a farm that has not begun holds -/
def blank : Abs := ⟨0, 0, 0, [], [], 0, 0, 0, 0, 0⟩
def FarmSt (K : PySem.W.Frag) (H0 H : Hp) (fa : Addr) : Option Abs → Prop
  | none => FarmIn K H0 H fa false blank
  | some a => FarmIn K H0 H fa true a
section
variable {P : Program} {w : World} {K : PySem.W.Frag} {mg : Str → Option Value} {base : Heap} {H0 H H' : Hp} {fa dx pl ll : Addr} {as : List Addr} {b : Bool} {a : Abs}
theorem FarmX.on (F : FarmX K H0 H fa b a dx pl ll as) (e : Same H H') : FarmX K H0 H' fa b a dx pl ll as :=
  ⟨F.keep.trans e, F.f0, F.p0, F.l0, F.a0, e _ _ F.farm, e _ _ F.pace, e _ _ F.list, F.len, F.nd, fun i x l h1 h2 => let ⟨dy, h⟩ := F.lots i x l h1 h2; ⟨dy, e _ _ h⟩⟩
theorem same_new {p : Addr} {o : HO} (h : H p = none) : Same H (upd H p o) := fun b u e => by
  rw [upd_ne (ne_of_none e h)]
  exact e
theorem FarmX.at (F : FarmX K H0 H fa b a dx pl ll as) {x : Addr} (hx : x ∈ as) : ∃ l, LotAt K H x l := by
  obtain ⟨i, hi, e⟩ := List.mem_iff_getElem.mp hx
  have h2 : i < a.lots.length := by rw [← F.len]; exact hi
  exact ⟨a.lots[i], F.lots i x _ (by rw [List.getElem?_eq_getElem hi, e]) (List.getElem?_eq_getElem h2)⟩
theorem lst_ne_ins {xs : List V} {C d : Addr} {fs : List (Str × V)} : HO.lst xs ≠ .ins C d fs := fun z => by cases z
theorem FarmX.ne_fp (F : FarmX K H0 H fa b a dx pl ll as) : pl ≠ fa := ne_of F.pace F.farm lst_ne_ins
theorem FarmX.ne_fl (F : FarmX K H0 H fa b a dx pl ll as) : ll ≠ fa := ne_of F.list F.farm lst_ne_ins
theorem FarmX.ne_xp (F : FarmX K H0 H fa b a dx pl ll as) {x : Addr} (hx : x ∈ as) : pl ≠ x := let ⟨_, _, h⟩ := F.at hx; ne_of F.pace h lst_ne_ins
theorem FarmX.ne_xl (F : FarmX K H0 H fa b a dx pl ll as) {x : Addr} (hx : x ∈ as) : ll ≠ x := let ⟨_, _, h⟩ := F.at hx; ne_of F.list h lst_ne_ins
theorem lot_ne_farm {dx dy : Addr} {l : Lot} {x : FarmS} : lotO K dx l ≠ farmO K dy x := fun z => by
  have e : lotF l = farmF x := by injection z
  have e2 := congrArg List.length e
  exact absurd e2 (by show ¬ (4 = 11); decide)
theorem FarmX.ne_xf (F : FarmX K H0 H fa b a dx pl ll as) {x : Addr} (hx : x ∈ as) : x ≠ fa := let ⟨_, _, h⟩ := F.at hx; ne_of h F.farm lot_ne_farm
theorem keep_out {x : Addr} {o : HO} (k : Same H0 H) (h : H0 x = none) : Same H0 (upd H x o) := fun c u e => by
  rw [upd_ne (ne_of_none e h)]
  exact k _ _ e
/-- a number of the farm's own changes -/
theorem FarmX.put (F : FarmX K H0 H fa b a dx pl ll as) {b' : Bool} {a' : Abs} (e1 : a'.pace = a.pace) (e2 : a'.lots = a.lots) : FarmX K H0 (upd H fa (farmO K dx (farmS b' a' pl ll))) fa b' a' dx pl ll as := by
  refine ⟨keep_out F.keep F.f0, F.f0, F.p0, F.l0, F.a0, upd_same, ?_, ?_, ?_, F.nd, fun i x l h1 h2 => ?_⟩
  · rw [upd_ne F.ne_fp, e1]; exact F.pace
  · rw [upd_ne F.ne_fl]; exact F.list
  · rw [e2]; exact F.len
  · rw [e2] at h2
    obtain ⟨dy, h⟩ := F.lots i x l h1 h2
    exact ⟨dy, by rw [upd_ne (F.ne_xf (List.mem_of_getElem? h1))]; exact h⟩
/-- a lot changes -/
theorem FarmX.setLot (F : FarmX K H0 H fa b a dx pl ll as) {i : Nat} {x dy : Addr} {l' : Lot} (h1 : as[i]? = some x) : FarmX K H0 (upd H x (lotO K dy l')) fa b { a with lots := a.lots.set i l' } dx pl ll as := by
  have hx := List.mem_of_getElem? h1
  refine ⟨keep_out F.keep (F.a0 x hx), F.f0, F.p0, F.l0, F.a0, ?_, ?_, ?_, ?_, F.nd, fun j y m h3 h4 => ?_⟩
  · rw [upd_ne (F.ne_xf hx).symm]; exact F.farm
  · rw [upd_ne (F.ne_xp hx)]; exact F.pace
  · rw [upd_ne (F.ne_xl hx)]; exact F.list
  · rw [F.len]; exact (List.length_set ..).symm
  · have h4 : (a.lots.set i l')[j]? = some m := h4
    by_cases c : i = j
    · subst c
      have e1 : x = y := Option.some.inj (h1.symm.trans h3)
      have hlt : i < a.lots.length := by
        rw [← F.len]
        exact (List.getElem?_eq_some_iff.mp h1).1
      rw [List.getElem?_set_self hlt] at h4
      cases h4
      exact ⟨dy, by rw [e1, upd_same]⟩
    · rw [List.getElem?_set_ne c] at h4
      obtain ⟨dz, h⟩ := F.lots j y m h3 h4
      have ne : y ≠ x := fun z => c (nd_ix F.nd h1 (z ▸ h3))
      exact ⟨dz, by rw [upd_ne ne]; exact h⟩
/-- one lot more -/
theorem FarmX.addLot (F : FarmX K H0 H fa b a dx pl ll as) {x : Addr} {l : Lot} (hx : LotAt K H x l) (h0 : H0 x = none) (hn : x ∉ as) (hpl : pl ≠ ll) : FarmX K H0 (upd H ll (.lst ((as ++ [x]).map V.ref))) fa b { a with lots := a.lots ++ [l] } dx pl ll (as ++ [x]) := by
  obtain ⟨dy, hx⟩ := hx
  have nxl : ll ≠ x := ne_of F.list hx lst_ne_ins
  refine ⟨keep_out F.keep F.l0, F.f0, F.p0, F.l0, fun y hy => ?_, ?_, ?_, upd_same, ?_, ?_, fun i y m h1 h2 => ?_⟩
  · rcases List.mem_append.mp hy with h | h
    · exact F.a0 y h
    · rw [List.mem_singleton.mp h]; exact h0
  · rw [upd_ne F.ne_fl.symm]; exact F.farm
  · rw [upd_ne hpl]; exact F.pace
  · rw [List.length_append, F.len]
    show a.lots.length + 1 = (a.lots ++ [l]).length
    rw [List.length_append]
    rfl
  · exact List.nodup_append.mpr ⟨F.nd, by simp, fun y hy z hz => by
      rw [List.mem_singleton.mp hz]
      exact fun e => hn (e ▸ hy)⟩
  · have h2 : (a.lots ++ [l])[i]? = some m := h2
    by_cases c : i < as.length
    · rw [List.getElem?_append_left c] at h1
      rw [List.getElem?_append_left (by rw [← F.len]; exact c)] at h2
      obtain ⟨dz, h⟩ := F.lots i y m h1 h2
      exact ⟨dz, by rw [upd_ne (F.ne_xl (List.mem_of_getElem? h1)).symm]; exact h⟩
    · rw [List.getElem?_append_right (by omega)] at h1
      rw [List.getElem?_append_right (by rw [← F.len]; omega)] at h2
      have i0 : i - as.length = 0 := by
        have := (List.getElem?_eq_some_iff.mp h1).1
        simp at this
        omega
      have i1 : i - a.lots.length = 0 := by rw [← F.len]; exact i0
      rw [i0] at h1
      rw [i1] at h2
      cases h1
      cases h2
      exact ⟨dy, by rw [upd_ne nxl.symm]; exact hx⟩
theorem FarmX.addr (F : FarmX K H0 H fa b a dx pl ll as) {i : Nat} {l : Lot} (h : a.lots[i]? = some l) : ∃ x dy, as[i]? = some x ∧ H x = some (lotO K dy l) ∧ (as.map V.ref)[i]? = some (.ref x) := by
  have hi : i < as.length := by
    rw [F.len]
    exact (List.getElem?_eq_some_iff.mp h).1
  have e := List.getElem?_eq_getElem hi
  obtain ⟨dy, q⟩ := F.lots i _ l e h
  exact ⟨as[i], dy, e, q, by rw [List.getElem?_map, e]; rfl⟩
theorem pace_ne_lots (F : FarmX K H0 H fa b a dx pl ll as) (h : a.pace.length = 26) (h2 : a.lots.length ≤ 10) : pl ≠ ll := fun z => by
  have e := F.pace
  rw [z, F.list] at e
  have e2 : as.map V.ref = a.pace.map fun n => V.int (n : Nat) := by injection (Option.some.inj e)
  have e3 := congrArg List.length e2
  rw [List.length_map, List.length_map, F.len, h] at e3
  omega
theorem FarmX.in (F : FarmX K H0 H fa b a dx pl ll as) : FarmIn K H0 H fa b a := ⟨_, _, _, _, F⟩
/-! ### lots in a list of their own -/
structure Lots (K : PySem.W.Frag) (H : Hp) (ll : Addr) (as : List Addr) (ls : List Lot) : Prop where
  list : H ll = some (.lst (as.map V.ref))
  len : as.length = ls.length
  nd : as.Nodup
  lots : ∀ (i : Nat) (x : Addr) (l : Lot), as[i]? = some x → ls[i]? = some l → LotAt K H x l
/-- what was told at the beginning -/
structure Rul (K : PySem.W.Frag) (H : Hp) (fa : Addr) (a : Abs) (dx : Addr) (x : FarmS) : Prop where
  farm : H fa = some (farmO K dx x)
  hatch : x.hatch = a.hatch
  first : x.first = a.first
  conv : x.conv = a.conv
  pace : H x.pace = some (.lst (nV a.pace))
/-- all but those stays -/
def But (as : List Addr) (H H' : Hp) : Prop := ∀ c o, H c = some o → c ∉ as → H' c = some o
variable {ls : List Lot} {x : FarmS}
theorem FarmX.own (F : FarmX K H0 H fa b a dx pl ll as) : Lots K H ll as a.lots := ⟨F.list, F.len, F.nd, F.lots⟩
theorem FarmX.rul (F : FarmX K H0 H fa b a dx pl ll as) : Rul K H fa a dx (farmS b a pl ll) := ⟨F.farm, rfl, rfl, rfl, F.pace⟩
theorem Lots.on (L : Lots K H ll as ls) (e : Same H H') : Lots K H' ll as ls := ⟨e _ _ L.list, L.len, L.nd, fun i x l h1 h2 => let ⟨dy, h⟩ := L.lots i x l h1 h2; ⟨dy, e _ _ h⟩⟩
theorem Lots.long (L : Lots K H ll as ls) : (as.map V.ref).length = ls.length := by rw [List.length_map, L.len]
theorem Lots.one (L : Lots K H ll as ls) {i : Nat} {v : V} (h : (as.map V.ref)[i]? = some v) : ∃ y dy l, v = .ref y ∧ as[i]? = some y ∧ ls[i]? = some l ∧ H y = some (lotO K dy l) := by
  have hi : i < as.length := by
    have := (List.getElem?_eq_some_iff.mp h).1
    rw [List.length_map] at this
    exact this
  have h2 : i < ls.length := by rw [← L.len]; exact hi
  have e1 := List.getElem?_eq_getElem hi
  have e2 := List.getElem?_eq_getElem h2
  obtain ⟨dy, q⟩ := L.lots i _ _ e1 e2
  rw [List.getElem?_map, e1] at h
  exact ⟨as[i], dy, ls[i], (Option.some.inj h).symm, e1, e2, q⟩
theorem Lots.at (L : Lots K H ll as ls) {c : Addr} (hc : c ∈ as) : ∃ l, LotAt K H c l := by
  obtain ⟨i, hi, e⟩ := List.mem_iff_getElem.mp hc
  have h2 : i < ls.length := by rw [← L.len]; exact hi
  exact ⟨ls[i], L.lots i c _ (by rw [List.getElem?_eq_getElem hi, e]) (List.getElem?_eq_getElem h2)⟩
theorem Lots.addr (L : Lots K H ll as ls) {i : Nat} {l : Lot} (h : ls[i]? = some l) : ∃ c dy, as[i]? = some c ∧ H c = some (lotO K dy l) ∧ (as.map V.ref)[i]? = some (.ref c) := by
  have hi : i < as.length := by
    rw [L.len]
    exact (List.getElem?_eq_some_iff.mp h).1
  have e := List.getElem?_eq_getElem hi
  obtain ⟨dy, q⟩ := L.lots i _ l e h
  exact ⟨as[i], dy, e, q, by rw [List.getElem?_map, e]; rfl⟩
theorem Lots.out (L : Lots K H ll as ls) {c : Addr} {o : HO} (h : H c = some o) (n : ∀ dx l, lotO K dx l ≠ o) : c ∉ as := fun m => let ⟨l, dy, e⟩ := L.at m; n dy l (Option.some.inj (e.symm.trans h))
theorem Lots.out_lst (L : Lots K H ll as ls) {c : Addr} {xs : List V} (h : H c = some (.lst xs)) : c ∉ as := L.out h fun _ _ z => by cases z
theorem Lots.setLot (L : Lots K H ll as ls) {i : Nat} {c dy : Addr} {l' : Lot} (h1 : as[i]? = some c) : Lots K (upd H c (lotO K dy l')) ll as (ls.set i l') := by
  have hc := List.mem_of_getElem? h1
  have nl : ll ≠ c := fun z => L.out_lst L.list (z ▸ hc)
  refine ⟨by rw [upd_ne nl]; exact L.list, by rw [L.len]; exact (List.length_set ..).symm, L.nd, fun j y m h3 h4 => ?_⟩
  by_cases e : i = j
  · subst e
    have e1 : c = y := Option.some.inj (h1.symm.trans h3)
    have hlt : i < ls.length := by
      rw [← L.len]
      exact (List.getElem?_eq_some_iff.mp h1).1
    rw [List.getElem?_set_self hlt] at h4
    cases h4
    exact ⟨dy, by rw [e1, upd_same]⟩
  · rw [List.getElem?_set_ne e] at h4
    obtain ⟨dz, h⟩ := L.lots j y m h3 h4
    have ne : y ≠ c := fun z => e (nd_ix L.nd h1 (z ▸ h3))
    exact ⟨dz, by rw [upd_ne ne]; exact h⟩
theorem Rul.on (R : Rul K H fa a dx x) (e : Same H H') : Rul K H' fa a dx x := ⟨e _ _ R.farm, R.hatch, R.first, R.conv, e _ _ R.pace⟩
theorem Rul.ahead (R : Rul K H fa a dx x) (t n : Nat) : Rul K H fa (Kh328.full t n a) dx x := by
  obtain ⟨h1, h2, h3, h4⟩ := full_told t n a
  exact ⟨R.farm, R.hatch.trans h1.symm, R.first.trans h2.symm, R.conv.trans h3.symm, by rw [h4]; exact R.pace⟩
theorem Rul.but (R : Rul K H fa a dx x) (L : Lots K H ll as ls) (m : But as H H') : Rul K H' fa a dx x :=
  ⟨m _ _ R.farm (L.out R.farm fun _ _ => lot_ne_farm), R.hatch, R.first, R.conv, m _ _ R.pace (L.out_lst R.pace)⟩
theorem But.keep {H1 : Hp} (m : But as H H') (s : Same H1 H) (h : ∀ c ∈ as, H1 c = none) : Same H1 H' := fun c o e => m c o (s c o e) fun z => by
  rw [h c z] at e
  cases e
/-- the farm's own lots have changed -/
theorem FarmX.lived (F : FarmX K H0 H fa b a dx pl ll as) (m : But as H H') (L : Lots K H' ll as ls) : FarmX K H0 H' fa b { a with lots := ls } dx pl ll as :=
  ⟨m.keep F.keep F.a0, F.f0, F.p0, F.l0, F.a0, m _ _ F.farm fun z => F.ne_xf z rfl, m _ _ F.pace fun z => F.ne_xp z rfl, L.list, L.len, L.nd, L.lots⟩
end
end Wg

set_option Elab.async false
set_option linter.all false
set_option maxRecDepth 100000
set_option maxHeartbeats 4000000
/-! The farm's own defs, ahead of its calls. -/
namespace Wg
open PySem PySem.Spec PyProof.Rows L2
open Kh328 (Lot Abs)
section
variable {σ : L2.St} {H : Hp} {K : PySem.W.Frag} {ta tb te tl : TE}
theorem val_andV {c d : Bool} (ha : Val ta σ H (.bl c)) (hb : Val tb σ H (.bl d)) : Val (tAndV ta tb) σ H (.bl (c && d)) := fun Q q => ha _ ⟨c, rfl, by
  cases c with
  | true => exact iteT (hb Q q)
  | false => exact iteF q⟩
theorem val_le {i j : Int} (ha : Val ta σ H (.int i)) (hb : Val tb σ H (.int j)) : Val (tOp (rI0 fun i j => .bl (decide (i ≤ j))) ta tb) σ H (.bl (decide (i ≤ j))) := val_op ha hb (vi0 (g := fun i j => .bl (decide (i ≤ j))))
theorem val_ge {i j : Int} (ha : Val ta σ H (.int i)) (hb : Val tb σ H (.int j)) : Val (tOp (rI0 fun i j => .bl (decide (j ≤ i))) ta tb) σ H (.bl (decide (j ≤ i))) := val_op ha hb (vi0 (g := fun i j => .bl (decide (j ≤ i))))
/-- [e for x in xs]: a new list of what each gives -/
theorem lc_val {a : Addr} {xs zs : List V} {j : Nat} {vs : List Nat} (h : Val tl σ H (.ref a)) (hx : SqL K H a xs) (hz : xs.length ≤ 40000) (hl : zs.length = xs.length) (hw : ∀ x, wipe ((wipe σ vs).set j (some x)) vs = wipe σ vs)
    (he : ∀ (i : Nat) (x z : V) (H1 : Hp), Same H H1 → xs[i]? = some x → zs[i]? = some z → Val te ((wipe σ vs).set j (some x)) H1 z) :
    ValH (tLc (iList K tl) (gName j) tYes te vs) σ H (fun r H' => ∃ D, r = .ref D ∧ H D = none ∧ H' = upd H D (.lst zs)) := fun Q q => h _ ⟨a, rfl, ⟨xs, hx⟩, fun D hD => by
  refine lc_list (xs := xs) (fun i H' => H' = upd H D (.lst (zs.take i))) rfl (fun i H' _ e => e ▸ (same_new hD).seq hx) (fun i x H' hi e => ⟨hw x, ?_⟩) (fun H' e => q _ _ ⟨D, rfl, hD, ?_⟩)
  · have hi2 : i < zs.length := by
      rw [hl]
      exact (List.getElem?_eq_some_iff.mp hi).1
    have ez := List.getElem?_eq_getElem hi2
    subst e
    refine iteT (B := upd H D (.lst (zs.take i)) = upd H D (.lst (zs.take (i + 1)))) (he i x _ _ (same_new hD) hi ez _ ⟨zs.take i, upd_same, ?_, ?_⟩)
    · rw [List.length_take]
      exact Nat.lt_of_le_of_lt (Nat.min_le_left _ _) (Nat.lt_of_lt_of_le hi2 (Nat.le_trans (by omega) (show 40000 ≤ sizeLine by decide)))
    · rw [upd_upd, List.take_succ_eq_append_getElem hi2]
  · rw [e, ← hl, List.take_length]⟩
theorem lc_of {a : Addr} {xs : List V} {j : Nat} {vs : List Nat} (h : Val tl σ H (.ref a)) (hx : SqL K H a xs) (hw : ∀ x, wipe ((wipe σ vs).set j (some x)) vs = wipe σ vs) (Pv : Addr → Nat → Hp → Prop) (h0 : ∀ D, H D = none → Pv D 0 (upd H D (.lst []))) (hl : ∀ D i H', H D = none → Pv D i H' → SqL K H' a xs)
    (hs : ∀ D i x H', H D = none → xs[i]? = some x → Pv D i H' → te ((wipe σ vs).set j (some x)) H' fun y H4 => ∃ acc, H4 D = some (.lst acc) ∧ acc.length < sizeLine ∧ Pv D (i + 1) (upd H4 D (.lst (acc ++ [y])))) :
    ValH (tLc (iList K tl) (gName j) tYes te vs) σ H (fun v H' => ∃ D, v = .ref D ∧ H D = none ∧ Pv D xs.length H') := fun Q q =>
  h _ ⟨a, rfl, ⟨xs, hx⟩, fun D hD => lc_list (xs := xs) (Pv D) (h0 D hD) (fun i H' _ p => hl D i H' hD p) (fun i x H' hi p => ⟨hw x, iteT (B := Pv D (i + 1) H') (hs D i x H' hD hi p)⟩) (fun H' p => q _ _ ⟨D, rfl, hD, p⟩)⟩
theorem nsum_cast : ∀ ns : List Nat, (ns.map fun (n : Nat) => (n : Int)).sum = ((ns.sum : Nat) : Int)
  | [] => rfl
  | n :: r => by
    rw [List.map_cons, List.sum_cons, List.sum_cons, nsum_cast r, Int.natCast_add]
theorem nV_ints (ns : List Nat) : nV ns = (ns.map fun (n : Nat) => (n : Int)).map V.int := by
  rw [List.map_map]
  rfl
/-- sum(xs) of a list that stands -/
theorem val_sum {a : Addr} {ns : List Nat} (h : Val ta σ H (.ref a)) (hs : SqL K H a (nV ns)) : Val (tCB (rSum K) (tCons ta tNil)) σ H (.int ((ns.sum : Nat) : Int)) :=
  val_cb (va1 h) fun Q q => ⟨a, ns.map fun (n : Nat) => (n : Int), rfl, by rw [← nV_ints]; exact hs, by rw [nsum_cast]; exact q⟩
/-- sum of a new list -/
theorem valH_sum {D : V → Hp → Prop} {ns : List Nat} (h : ValH ta σ H D) (hs : ∀ r H', D r H' → ∃ p, r = .ref p ∧ SqL K H' p (nV ns)) : ValH (tCB (rSum K) (tCons ta tNil)) σ H (fun r H' => r = .int ((ns.sum : Nat) : Int) ∧ ∃ r0, D r0 H') := fun Q q =>
  h _ fun r H' d => by
    obtain ⟨p, rfl, s⟩ := hs r H' d
    exact ⟨p, ns.map fun (n : Nat) => (n : Int), rfl, by rw [← nV_ints]; exact s, by rw [nsum_cast]; exact q _ _ ⟨rfl, _, d⟩⟩
end
/-! ### promises -/
def spWithin : Sp := fun vs H Q _ => ∃ x lo hi : Int, vs = [.int x, .int lo, .int hi] ∧ Q (.bl (decide (lo ≤ x) && decide (x ≤ hi))) H
def spLacks (K : PySem.W.Frag) : Sp := fun vs H Q _ => ∃ (H0 : Hp) (fa : Addr) (b : Bool) (a : Abs) (i : Nat), vs = [.ref fa, .int i] ∧ FarmIn K H0 H fa b a ∧ Q (.bl (decide (a.lots.length ≤ i))) H
def spFull (K : PySem.W.Frag) : Sp := fun vs H Q _ => ∃ (H0 : Hp) (fa : Addr) (b : Bool) (a : Abs), vs = [.ref fa] ∧ FarmIn K H0 H fa b a ∧ Q (.bl (decide (10 ≤ a.lots.length))) H
def spAddLot (K : PySem.W.Frag) : Sp := fun vs H Q _ => ∃ (H0 : Hp) (fa : Addr) (b : Bool) (a : Abs) (dx pl ll : Addr) (as : List Addr) (x : Addr) (l : Lot), vs = [.ref fa, .ref x] ∧ FarmX K H0 H fa b a dx pl ll as ∧ LotAt K H x l ∧ H0 x = none ∧ x ∉ as ∧ pl ≠ ll ∧
  a.lots.length ≤ 1000 ∧ ∀ H', FarmX K H0 H' fa b { a with lots := a.lots ++ [l] } dx pl ll (as ++ [x]) → Q (.int (a.lots.length : Nat)) H'
def spMass (K : PySem.W.Frag) : Sp := fun vs H Q _ => ∃ (ll : Addr) (as : List Addr) (ls : List Lot), vs = [.ref ll] ∧ Lots K H ll as ls ∧ ls.length ≤ 1000 ∧ ∀ H', Same H H' → Q (.int ((ls.map Lot.mass).sum : Nat)) H'
def spNeedsOf (K : PySem.W.Frag) : Sp := fun vs H Q _ => ∃ (fa : Addr) (a : Abs) (dx : Addr) (x : FarmS) (ll : Addr) (as : List Addr) (k t : Nat), vs = [.ref fa, .ref ll, .int t] ∧ Rul K H fa a dx x ∧ Lots K H ll as a.lots ∧ Bd k a ∧ k ≤ 7000 ∧ t ≤ 25 ∧
  ∀ D, H D = none → Q (.ref D) (upd H D (.lst (nV (a.lots.map (Kh328.need a t)))))
def spShares (K : PySem.W.Frag) : Sp := fun vs H Q _ => ∃ (wl : Addr) (ns : List Nat) (f b : Nat), vs = [.int f, .ref wl] ∧ H wl = some (.lst (nV ns)) ∧ ns.length ≤ 1000 ∧ ns.sum < 2 ^ b ∧ 0 < b ∧ b ≤ 9000 ∧ (f ≤ 4294967295 ∨ ns.sum ≤ f) ∧
  (ns.sum ≤ f → Q (.ref wl) H) ∧ (¬ ns.sum ≤ f → ∀ D, H D = none → Q (.ref D) (upd H D (.lst (nV (ns.map fun n => f * n / ns.sum)))))
def spPass (K : PySem.W.Frag) : Sp := fun vs H Q _ => ∃ (H0 : Hp) (fa : Addr) (b : Bool) (a : Abs) (k t f : Nat), vs = [.ref fa, .int t, .int f] ∧ FarmIn K H0 H fa b a ∧ Bd k a ∧ k ≤ 7000 ∧ t ≤ 25 ∧ (f ≤ 4294967295 ∨ Kh328.needs a t ≤ f) ∧
  ∀ H', FarmIn K H0 H' fa b (Kh328.passed a t f) → Q (.int ((a.lots.map (Kh328.gets a t f)).sum : Nat)) H'
section
variable {P : Program} {w : World} {K : PySem.W.Frag} {mg : Str → Option Value} {base : Heap}
theorem ok_within (T : Tx K mg) : Kp P w K mg base 1 "within" spWithin := by
  obtain ⟨fd, F⟩ := T.d_within
  refine kp_of (ps := ["number", "least", "most"]) F T.g_within (fun _ _ _ _ _ _ us hl => match us, hl with | [_, _, _], _ => rfl) sc_within (fun vs H Q E h => ?_) (fun cdv A outer s H vs Q E hr h => ?_)
  · obtain ⟨x, lo, hi, rfl, _⟩ := h
    rfl
  · obtain ⟨x, lo, hi, rfl, q⟩ := h
    refine ⟨_, (pss_one (ps_ret (pe_and (pe_cmpR op_le (pv 1) (pv 0) (nomark _)) (pe_one (pe_cmpR op_le (pv 0) (pv 2) (nomark _)))))), ?_⟩
    exact st_ret (val_andV (val_le (val_var rfl) (val_var rfl)) (val_le (val_var rfl) (val_var rfl))) q
theorem lots_len {H0 H : Hp} {fa : Addr} {b : Bool} {a : Abs} {dx pl ll : Addr} {as : List Addr} (F : FarmX K H0 H fa b a dx pl ll as) : ((as.map V.ref).length : Nat) = a.lots.length := by
  rw [List.length_map, F.len]
theorem ok_lacks_lot (T : Tx K mg) : Kp P w K mg base 1 "lacks_lot" (spLacks K) := by
  obtain ⟨fd, F⟩ := T.d_lacks_lot
  refine kp_of (ps := ["farm", "i"]) F T.g_lacks_lot (fun _ _ _ _ _ _ us hl => match us, hl with | [_, _], _ => rfl) sc_lacks_lot (fun vs H Q E h => ?_) (fun cdv A outer s H vs Q E hr h => ?_)
  · obtain ⟨H0, fa, b, a, i, rfl, _⟩ := h
    rfl
  · obtain ⟨H0, fa, b, a, i, rfl, ⟨dx, pl, ll, as, F⟩, q⟩ := h
    refine ⟨_, (pss_one (ps_ret (pe_cmpR op_ge (pv 1) (pe_callB call_len_seq (by rfl) T.b_len PySem.boot_len (pa_cons (pe_fld (pv 0) rfl) pa_nil)) (nomark _)))), ?_⟩
    refine st_ret (val_ge (val_var rfl) (val_lenL (farm_val_lots T (val_var rfl) F.farm) (SqL.of F.list))) ?_
    rw [lots_len F]
    have e : decide (((a.lots.length : Nat) : Int) ≤ (i : Int)) = decide (a.lots.length ≤ i) := decide_eq_decide.mpr (by omega)
    rw [e]
    exact q
theorem ok_is_full (T : Tx K mg) : Kp P w K mg base 1 "is_full" (spFull K) := by
  obtain ⟨fd, F⟩ := T.d_is_full
  refine kp_of (ps := ["farm"]) F T.g_is_full (fun _ _ _ _ _ _ us hl => match us, hl with | [_], _ => rfl) sc_is_full (fun vs H Q E h => ?_) (fun cdv A outer s H vs Q E hr h => ?_)
  · obtain ⟨H0, fa, b, a, rfl, _⟩ := h
    rfl
  · obtain ⟨H0, fa, b, a, rfl, ⟨dx, pl, ll, as, F⟩, q⟩ := h
    refine ⟨_, (pss_one (ps_ret (pe_cmpR op_ge (pe_callB call_len_seq (by rfl) T.b_len PySem.boot_len (pa_cons (pe_fld (pv 0) rfl) pa_nil)) (pe_gint T.i_MOST_LOTS rfl) (nomark _)))), ?_⟩
    refine st_ret (val_ge (val_lenL (farm_val_lots T (val_var rfl) F.farm) (SqL.of F.list)) val_c) ?_
    rw [lots_len F]
    have e : decide ((10 : Int) ≤ ((a.lots.length : Nat) : Int)) = decide (10 ≤ a.lots.length) := decide_eq_decide.mpr (by omega)
    rw [e]
    exact q
/-- xs.append(e), e's value known -/
theorem st_app {σ : L2.St} {H : Hp} {ta te : TE} {D : Ends} {l : Addr} {xs : List V} {v : V} (ha : Val ta σ H (.ref l)) (hl : H l = some (.lst xs)) (hv : Val te σ H v) (hz : xs.length ≤ 2000000) (q : D.nx σ (upd H l (.lst (xs ++ [v])))) :
    tDrop (tBM K "list" rAppend ta (tCons te tNil)) D σ H := ha _ ⟨.inl ⟨rfl, _, SqL.of hl⟩, hv _ ⟨l, xs, v, rfl, rfl, hl, Nat.lt_of_le_of_lt hz (by decide), q⟩⟩
theorem q_app {σ : L2.St} {H : Hp} {ta te : TE} {D : Ends} {tz : TS} {l : Addr} {xs : List V} {v : V} (ha : Val ta σ H (.ref l)) (hl : H l = some (.lst xs)) (hv : Val te σ H v) (hz : xs.length ≤ 2000000) (q : tz D σ (upd H l (.lst (xs ++ [v])))) :
    tSeq (tDrop (tBM K "list" rAppend ta (tCons te tNil))) tz D σ H := st_app (D := { D with nx := tz D }) ha hl hv hz q
theorem ok_add_lot (T : Tx K mg) : Kp P w K mg base 1 "add_lot" (spAddLot K) := by
  obtain ⟨fd, F⟩ := T.d_add_lot
  refine kp_of (ps := ["farm", "lot"]) F T.g_add_lot (fun _ _ _ _ _ _ us hl => match us, hl with | [_, _], _ => rfl) sc_add_lot (fun vs H Q E h => ?_) (fun cdv A outer s H vs Q E hr h => ?_)
  · obtain ⟨H0, fa, b, a, dx, pl, ll, as, x, l, rfl, _⟩ := h
    rfl
  · obtain ⟨H0, fa, b, a, dx, pl, ll, as, x, l, rfl, F, hx, h0, hn, hpl, hlen, q⟩ := h
    refine ⟨_, (pss_cons (ps_expr (pe_bm PySem.F.plainAttrs_list PySem.F.slot_list_append PySem.F.type_list_append mt_append (pe_fld (pv 0) rfl) (pa_cons (pv 1) pa_nil))) (pss_one (ps_ret (pe_op op_sub (pe_callB call_len_seq (by rfl) T.b_len PySem.boot_len (pa_cons (pe_fld (pv 0) rfl) pa_nil)) pe_int)))), ?_⟩
    have F2 := F.addLot hx h0 hn hpl
    refine q_app (farm_val_lots T (val_var rfl) F.farm) F.list (val_var rfl) (by rw [lots_len F]; omega) ?_
    rw [show as.map V.ref ++ [V.ref x] = (as ++ [x]).map V.ref by rw [List.map_append]; rfl]
    refine st_ret (val_is (val_sub (val_lenL (farm_val_lots T (val_var rfl) F2.farm) (SqL.of F2.list)) val_c) ?_) (q _ F2)
    rw [lots_len F2]
    show V.int (((a.lots ++ [l]).length : Nat) - 1 : Int) = _
    rw [List.length_append, List.length_singleton]
    congr 1
    omega
/-- the lots' values, one by one -/
theorem lots_at {H0 H : Hp} {fa : Addr} {b : Bool} {a : Abs} {dx pl ll : Addr} {as : List Addr} (F : FarmX K H0 H fa b a dx pl ll as) {i : Nat} {x : V} (h : (as.map V.ref)[i]? = some x) : ∃ y dy l, x = .ref y ∧ as[i]? = some y ∧ a.lots[i]? = some l ∧ H y = some (lotO K dy l) := by
  have hi : i < as.length := by
    have := (List.getElem?_eq_some_iff.mp h).1
    rw [List.length_map] at this
    exact this
  have h2 : i < a.lots.length := by rw [← F.len]; exact hi
  have e1 := List.getElem?_eq_getElem hi
  have e2 := List.getElem?_eq_getElem h2
  obtain ⟨dy, q⟩ := F.lots i _ _ e1 e2
  rw [List.getElem?_map, e1] at h
  exact ⟨as[i], dy, a.lots[i], (Option.some.inj h).symm, e1, e2, q⟩
theorem ok_all_mass (T : Tx K mg) : Kp P w K mg base 1 "all_mass" (spMass K) := by
  obtain ⟨fd, F⟩ := T.d_all_mass
  refine kp_of (ps := ["lots"]) F T.g_all_mass (fun _ _ _ _ _ _ us hl => match us, hl with | [_], _ => rfl) sc_all_mass (fun vs H Q E h => ?_) (fun cdv A outer s H vs Q E hr h => ?_)
  · obtain ⟨ll, as, ls, rfl, _⟩ := h
    rfl
  · obtain ⟨ll, as, ls, rfl, L, hlen, q⟩ := h
    refine ⟨_, (pss_one (ps_ret (pe_callB (cr_sum rfl) (by rfl) T.b_sum (by decide +kernel) (pa_cons (pe_lc (own := [("lot", 1)]) (g := gName 1) (tt := tYes) (te := (tFld K (tVar 1) "mass")) rfl sc_all_mass.nd (pi_list (pv 0)) (blkOk_by (own := [("lot", 1)]) (N := N_all_mass) (sc := defScope s_all_mass) (by decide +kernel)) (fun _ _ _ _ _ => pg_name (i := 1) sc_all_mass.nd rfl (Or.inl rfl)) (fun _ _ _ _ _ => pts_nil) (fun _ _ _ _ _ => (pe_fld (pv 1) rfl))) pa_nil)))), ?_⟩
    refine st_retH (valH_sum (ns := ls.map Lot.mass) (lc_val (zs := nV (ls.map Lot.mass)) (val_var rfl) (SqL.of L.list) (by rw [L.long]; omega) (by rw [L.long]; simp) (fun _ => rfl) ?_) ?_) ?_
    · intro i x z H1 s hx hz
      obtain ⟨y, dy, l, rfl, h1, h2, h3⟩ := L.one hx
      rw [List.getElem?_map, List.getElem?_map, h2] at hz
      cases hz
      exact val_mass T (val_var rfl) (s _ _ h3)
    · rintro r H' ⟨D, rfl, hD, rfl⟩
      exact ⟨D, rfl, SqL.of upd_same⟩
    · rintro v H' ⟨rfl, r0, D, rfl, hD, rfl⟩
      exact q _ (same_new hD)
theorem bd_fit {k : Nat} {l : Lot} (h : LotBd k l) (hk : k ≤ 7000) : Fit (40 + k) l := ⟨by omega, by omega, Nat.lt_of_lt_of_le h.n (pow_up (by omega)), h.mass⟩
theorem need_is {k : Nat} {a : Abs} {l : Lot} (B : LotBd k l) (t : Nat) : feedOf (grow l (a.pace.getD t 0)) a.conv = Kh328.need a t l := by
  unfold Kh328.need Kh328.could feedOf grow
  cases e : l.hatched with
  | true => rfl
  | false =>
    rw [B.egg e, if_neg Bool.false_ne_true, Nat.zero_mul, Nat.zero_div]
theorem pace_at {a : Abs} (h : Told a) {t : Nat} (ht : t ≤ 25) : (nV a.pace)[t]? = some (.int (a.pace.getD t 0 : Nat)) := by
  have hlt : t < a.pace.length := by
    rw [h.len]
    omega
  rw [List.getElem?_map, List.getD_eq_getElem?_getD, List.getElem?_eq_getElem hlt]
  rfl
theorem ok_needs_of_lots (T : Tx K mg) : Kp P w K mg base 3 "needs_of_lots" (spNeedsOf K) := by
  obtain ⟨fd, F⟩ := T.d_needs_of_lots
  refine kp_of (ps := ["farm", "lots", "warmth"]) F T.g_needs_of_lots (fun _ _ _ _ _ _ us hl => match us, hl with | [_, _, _], _ => rfl) sc_needs_of_lots (fun vs H Q E h => ?_) (fun cdv A outer s H vs Q E hr h => ?_)
  · obtain ⟨fa, a, dx, x, ll, as, k, t, rfl, _⟩ := h
    rfl
  · obtain ⟨fa, a, dx, x, ll, as, k, t, rfl, R, L, B, hk, ht, q⟩ := h
    refine ⟨_, (pss_cons (ps_set (i := 3) sc_needs_of_lots.nd rfl (Or.inr rfl) (pe_ix ix_list (pe_fld (pv 0) rfl) (pv 2) (fun _ _ => rfl))) (pss_one (ps_ret (pe_lc (own := [("lot", 4)]) (g := gName 4) (tt := tYes) (te := (tK _ (tCons (tK _ (tCons (tVar 4) (tCons (tVar 3) tNil))) (tCons (tFld K (tVar 0) "conv") tNil)))) rfl sc_needs_of_lots.nd (pi_list (pv 1)) (blkOk_by (own := [("lot", 4)]) (N := N_needs_of_lots) (sc := defScope s_needs_of_lots) (by decide +kernel)) (fun _ _ _ _ _ => pg_name (i := 4) sc_needs_of_lots.nd rfl (Or.inl rfl)) (fun _ _ _ _ _ => pts_nil) (fun _ _ _ _ _ => (pe_k (ok_needed_feed T) (hr.mono (by decide)) rfl (pa_cons (pe_k (ok_could_grow T) (hr.mono (by decide)) rfl (pa_cons (pv 4) (pa_cons (pv 3) pa_nil))) (pa_cons (pe_fld (pv 0) rfl) pa_nil)))))))), ?_⟩
    have hlen := B.few
    refine q_set (val_ixL (farm_val_pace T (val_var rfl) R.farm) (val_var rfl) (SqL.of R.pace) (pace_at B.told ht)) ?_
    refine st_retH (lc_val (zs := nV (a.lots.map (Kh328.need a t))) (val_var rfl) (SqL.of L.list) (by rw [L.long]; omega) (by rw [L.long]; simp) (fun _ => rfl) ?_) ?_
    · intro i v z H1 s hx hz
      obtain ⟨y, dy, l, rfl, h1, h2, h3⟩ := L.one hx
      rw [List.getElem?_map, List.getElem?_map, h2] at hz
      cases hz
      have Bl := B.lots l (List.mem_of_getElem? h2)
      refine val_k (va2 (val_k (va2 (val_var rfl) (val_var rfl)) fun Q q => ⟨y, l, 40 + k, a.pace.getD t 0, rfl, ⟨dy, s _ _ h3⟩, bd_fit Bl hk, B.told.at t, q⟩) (farm_val_conv T (val_var rfl) (s _ _ R.farm))) fun Q q => ⟨_, a.conv, by rw [R.conv], B.told.conv.2, ?_⟩
      rw [need_is Bl]
      exact q
    · rintro v H' ⟨D, rfl, hD, rfl⟩
      exact q D hD
theorem ok_shares_of_feed (T : Tx K mg) : Kp P w K mg base 1 "shares_of_feed" (spShares K) := by
  obtain ⟨fd, F⟩ := T.d_shares_of_feed
  refine kp_of (ps := ["feed", "wanted"]) F T.g_shares_of_feed (fun _ _ _ _ _ _ us hl => match us, hl with | [_, _], _ => rfl) sc_shares_of_feed (fun vs H Q E h => ?_) (fun cdv A outer s H vs Q E hr h => ?_)
  · obtain ⟨wl, ns, f, b, rfl, _⟩ := h
    rfl
  · obtain ⟨wl, ns, f, b, rfl, hw, hlen, hb, b0, b9, hf, q1, q2⟩ := h
    refine ⟨_, (pss_cons (ps_set (i := 2) sc_shares_of_feed.nd rfl (Or.inr rfl) (pe_callB (cr_sum rfl) (by rfl) T.b_sum (by decide +kernel) (pa_cons (pv 1) pa_nil))) (pss_cons (ps_if (pt_cmpR op_le (pv 2) (pv 0) (nomark _)) (pss_one (ps_ret (pv 1))) pss_nil) (pss_one (ps_ret (pe_lc (own := [("want", 3)]) (g := gName 3) (tt := tYes) (te := (tOp (rI CDivW fun i j => .int (i / j)) (tOp (rI CMul fun i j => .int (i * j)) (tVar 0) (tVar 3)) (tVar 2))) rfl sc_shares_of_feed.nd (pi_list (pv 1)) (blkOk_by (own := [("want", 3)]) (N := N_shares_of_feed) (sc := defScope s_shares_of_feed) (by decide +kernel)) (fun _ _ _ _ _ => pg_name (i := 3) sc_shares_of_feed.nd rfl (Or.inl rfl)) (fun _ _ _ _ _ => pts_nil) (fun _ _ _ _ _ => (pe_op op_fdivW (pe_op op_mul (pv 0) (pv 3)) (pv 2)))))))), ?_⟩
    refine q_set (val_sum (val_var rfl) (SqL.of hw)) ?_
    refine q_when (b := decide (ns.sum ≤ f)) (ans_le (val_var rfl) (val_var rfl) (decide_eq_decide.mpr (by omega))) (fun e => ?_) (fun e => ?_)
    · exact st_ret (val_var rfl) (q1 (of_decide_eq_true e))
    · have hn : ¬ ns.sum ≤ f := of_decide_eq_false e
      have hf2 : f ≤ 4294967295 := by
        rcases hf with h | h
        · exact h
        · exact absurd h hn
      refine st_retH (lc_val (zs := nV (ns.map fun n => f * n / ns.sum)) (val_var rfl) (SqL.of hw) (by simp; omega) (by simp) (fun _ => rfl) ?_) ?_
      · intro i x z H1 s hx hz
        rw [List.getElem?_map] at hx
        rw [List.getElem?_map, List.getElem?_map] at hz
        cases e1 : ns[i]? with
        | none =>
          rw [e1] at hx
          cases hx
        | some n =>
          rw [e1] at hx hz
          cases hx
          cases hz
          exact nval_div (b := b) (nval_mulL (val_var rfl) (val_var rfl) (by omega)) (val_var rfl) (by omega) hb ⟨b0, b9⟩
      · rintro v H' ⟨D, rfl, hD, rfl⟩
        exact q2 hn D hD
end
end Wg

set_option Elab.async false
set_option linter.all false
set_option maxRecDepth 100000
set_option maxHeartbeats 4000000
/-! A day goes by; whether a pace is one. -/
namespace Wg
open PySem PySem.Spec PyProof.Rows L2
open Kh328 (Lot Abs)
theorem sum_le {M : Nat} : ∀ {l : List Nat}, (∀ x ∈ l, x ≤ M) → l.sum ≤ l.length * M
  | [], _ => Nat.zero_le _
  | x :: r, h => by
    have h1 := h x (List.mem_cons_self ..)
    have h2 := sum_le (l := r) fun y m => h y (List.mem_cons_of_mem _ m)
    rw [List.sum_cons, List.length_cons, Nat.add_mul, Nat.one_mul]
    omega
theorem need_lt {k : Nat} {a : Abs} (h : Told a) (t : Nat) {l : Lot} (b : LotBd k l) : Kh328.need a t l ≤ 2 ^ (44 + k) := by
  have h1 := could_le h t l
  have h2 := b.mass
  have h3 := h.conv.2
  have h4 : Kh328.could a t l * a.conv ≤ Kh328.could a t l * 300 := Nat.mul_le_mul_left _ h3
  have e : 2 ^ (44 + k) = 2 ^ (40 + k) * 16 := by rw [show 44 + k = 40 + k + 4 by omega, Nat.pow_add]
  have h5 : 0 < 2 ^ (40 + k) := Nat.pow_pos (by decide)
  unfold Kh328.need
  omega
theorem needs_lt {k : Nat} {a : Abs} (B : Bd k a) (t : Nat) : Kh328.needs a t < 2 ^ (48 + k) := by
  have h1 : Kh328.needs a t ≤ (a.lots.map (Kh328.need a t)).length * 2 ^ (44 + k) := sum_le fun x m => by
    obtain ⟨l, hl, rfl⟩ := List.mem_map.mp m
    exact need_lt B.told t (B.lots l hl)
  rw [List.length_map] at h1
  have h2 : a.lots.length * 2 ^ (44 + k) ≤ 10 * 2 ^ (44 + k) := Nat.mul_le_mul_right _ B.few
  have e : 2 ^ (48 + k) = 2 ^ (44 + k) * 16 := by rw [show 48 + k = 44 + k + 4 by omega, Nat.pow_add]
  have h5 : 0 < 2 ^ (44 + k) := Nat.pow_pos (by decide)
  omega
/-- behind i lots of a day -/
def mid (a : Abs) (t f i : Nat) : List Lot := (a.lots.take i).map (Kh328.dayOf a t f) ++ a.lots.drop i
theorem mid_at {a : Abs} {t f i : Nat} {l : Lot} (h : a.lots[i]? = some l) : (mid a t f i)[i]? = some l := by
  have hi := (List.getElem?_eq_some_iff.mp h).1
  unfold mid
  rw [List.getElem?_append_right (by simp; omega)]
  simp only [List.length_map, List.length_take]
  rw [List.getElem?_drop, show i + (i - min i a.lots.length) = i by omega]
  exact h
theorem mid_step {a : Abs} {t f i : Nat} {l : Lot} (h : a.lots[i]? = some l) : (mid a t f i).set i (Kh328.dayOf a t f l) = mid a t f (i + 1) := by
  have hi := (List.getElem?_eq_some_iff.mp h).1
  have hl := (List.getElem?_eq_some_iff.mp h).2
  unfold mid
  have e1 : ((a.lots.take i).map (Kh328.dayOf a t f)).length = i := by simp; omega
  rw [List.set_append_right _ _ (by omega), e1, Nat.sub_self, List.take_succ_eq_append_getElem hi, List.map_append, List.append_assoc, hl]
  congr 1
  rw [List.drop_eq_getElem_cons hi]
  rfl
theorem mid_all (a : Abs) (t f : Nat) : mid a t f a.lots.length = a.lots.map (Kh328.dayOf a t f) := by
  unfold mid
  rw [List.take_length, List.drop_length, List.append_nil]
section
variable {σ : L2.St} {H : Hp} {K : PySem.W.Frag}
theorem st_forZip {ta : TA} {p r : Addr} {xs ys : List V} {g : TG} {tb : TS} {D : Ends} (h : VA ta σ H [.ref p, .ref r]) (hx : SqL K H p xs) (hy : SqL K H r ys) (hl : xs.length = ys.length) (Pv : Nat → L2.St → Hp → Prop) (h0 : Pv 0 σ H)
    (hq : ∀ i σ H, Pv i σ H → SqL K H p xs ∧ SqL K H r ys)
    (hs : ∀ (i : Nat) (x y : V) (TT : Addr) (σ : L2.St) (H : Hp), xs[i]? = some x → ys[i]? = some y → Pv i σ H → H TT = none → g (.ref TT) σ (upd H TT (.tup [x, y])) fun σ2 H2 => tb { D with nx := Pv (i + 1), ct := Pv (i + 1), bk := D.nx } σ2 H2)
    (hd : ∀ σ H, Pv xs.length σ H → D.nx σ H) : tFor (iZip K ta) g tb D σ H := h _ ⟨p, r, xs, ys, rfl, hx, hy, RZ.for_zipL hl Pv h0 hq hs hd⟩
theorem val_max {ta : TE} {p : Addr} {ns : List Nat} {m : Nat} (h : Val ta σ H (.ref p)) (hs : SqL K H p (nV ns)) (hm : m ∈ ns) (hle : ∀ y ∈ ns, y ≤ m) : Val (tCB (rMax K) (tCons ta tNil)) σ H (.int (m : Nat)) :=
  val_cb (va1 h) fun Q q => ⟨p, ns.map fun (n : Nat) => (n : Int), rfl, by rw [← nV_ints]; exact hs, by rw [List.length_map]; exact List.length_pos_of_mem hm, fun m2 h2 l2 => by
    obtain ⟨n2, hn2, rfl⟩ := List.mem_map.mp h2
    have h3 := l2 _ (List.mem_map.mpr ⟨m, hm, rfl⟩)
    have h4 := hle n2 hn2
    have e : n2 = m := by omega
    rw [e]
    exact q⟩
theorem has_max : ∀ {l : List Nat}, l ≠ [] → ∃ m ∈ l, ∀ y ∈ l, y ≤ m
  | [], h => absurd rfl h
  | [x], _ => ⟨x, by simp, by simp⟩
  | x :: z :: r, _ => by
    obtain ⟨m, hm, hle⟩ := has_max (l := z :: r) (by simp)
    by_cases c : x ≤ m
    · exact ⟨m, List.mem_cons_of_mem _ hm, fun y hy => by
        rcases List.mem_cons.mp hy with e | h
        · rw [e]; exact c
        · exact hle y h⟩
    · exact ⟨x, List.mem_cons_self .., fun y hy => by
        rcases List.mem_cons.mp hy with e | h
        · rw [e]; exact Nat.le_refl _
        · have := hle y h
          omega⟩
theorem ans_or2 {t u : TT} {b1 b2 : Bool} (h1 : Ans t σ H b1) (h2 : Ans u σ H b2) : Ans (tOr t u) σ H (b1 || b2) := by
  cases b1 with
  | true => exact ans_or1 h1
  | false => exact ans_or h1 h2
theorem val_andL {ta tb : TE} {c d : Bool} (ha : Val ta σ H (.bl c)) (hb : c = true → Val tb σ H (.bl d)) : Val (tAndV ta tb) σ H (.bl (c && d)) := fun Q q => ha _ ⟨c, rfl, by
  cases c with
  | true => exact iteT (hb rfl Q q)
  | false => exact iteF q⟩
theorem q_forZip {ta : TA} {p r : Addr} {xs ys : List V} {g : TG} {tb tz : TS} {D : Ends} (h : VA ta σ H [.ref p, .ref r]) (hx : SqL K H p xs) (hy : SqL K H r ys) (hl : xs.length = ys.length) (Pv : Nat → L2.St → Hp → Prop) (h0 : Pv 0 σ H)
    (hq : ∀ i σ H, Pv i σ H → SqL K H p xs ∧ SqL K H r ys)
    (hs : ∀ (i : Nat) (x y : V) (TT : Addr) (σ : L2.St) (H : Hp), xs[i]? = some x → ys[i]? = some y → Pv i σ H → H TT = none → g (.ref TT) σ (upd H TT (.tup [x, y])) fun σ2 H2 => tb { D with nx := Pv (i + 1), ct := Pv (i + 1), bk := tz D } σ2 H2)
    (hd : ∀ σ H, Pv xs.length σ H → tz D σ H) : tSeq (tFor (iZip K ta) g tb) tz D σ H := st_forZip (D := { D with nx := tz D }) h hx hy hl Pv h0 hq hs hd
theorem q_call {sp : Sp} {t : TA} {vs : List V} {D : Ends} {tz : TS} (h : VA t σ H vs) (q : sp vs H (fun _ H1 => tz D σ H1) E0) : tSeq (tDrop (tK sp t)) tz D σ H := h _ q
theorem st_call {sp : Sp} {t : TA} {vs : List V} {D : Ends} (h : VA t σ H vs) (q : sp vs H (fun _ H1 => D.nx σ H1) E0) : tDrop (tK sp t) D σ H := h _ q
end
def spIsPace (K : PySem.W.Frag) : Sp := fun vs H Q _ => ∃ (pl : Addr) (ns : List Nat), vs = [.ref pl] ∧ H pl = some (.lst (nV ns)) ∧ Q (.bl (decide (ns.length = 26) && decide (∀ n ∈ ns, n ≤ 500))) H
section
variable {P : Program} {w : World} {K : PySem.W.Frag} {mg : Str → Option Value} {base : Heap}
theorem val_eqN {σ : L2.St} {H : Hp} {ta tb : TE} {m n : Nat} (ha : Val ta σ H (.int m)) (hb : Val tb σ H (.int n)) : Val (tOp rEq ta tb) σ H (.bl (decide (m = n))) := val_op ha hb fun Q q => ⟨rfl, by
  have e : decide (V.int (m : Int) = V.int (n : Int)) = decide (m = n) := decide_eq_decide.mpr ⟨fun z => by injection z with z; omega, fun z => by rw [z]⟩
  rw [e]
  exact q⟩
theorem ok_is_pace (T : Tx K mg) : Kp P w K mg base 1 "is_pace" (spIsPace K) := by
  obtain ⟨fd, F⟩ := T.d_is_pace
  refine kp_of (ps := ["pace"]) F T.g_is_pace (fun _ _ _ _ _ _ us hl => match us, hl with | [_], _ => rfl) sc_is_pace (fun vs H Q E h => ?_) (fun cdv A outer s H vs Q E hr h => ?_)
  · obtain ⟨pl, ns, rfl, _⟩ := h
    rfl
  · obtain ⟨pl, ns, rfl, hp, q⟩ := h
    refine ⟨_, (pss_one (ps_ret (pe_and (pe_cmpR op_eq (pe_callB call_len_seq (by rfl) T.b_len PySem.boot_len (pa_cons (pv 0) pa_nil)) (pe_op op_add (pe_gint T.i_WARMEST rfl) pe_int) (nomark _)) (pe_one (pe_cmpR op_le (pe_callB (cr_max rfl) (by rfl) T.b_max (by decide +kernel) (pa_cons (pv 0) pa_nil)) pe_int (nomark _)))))), ?_⟩
    refine st_ret (val_andL (c := decide (ns.length = 26)) (d := decide (∀ n ∈ ns, n ≤ 500)) (val_eqN (m := ns.length) (n := 26) (val_is (val_lenL (val_var rfl) (SqL.of hp)) (by simp)) (nval_add (m := 25) (n := 1) val_c val_c)) fun c => ?_) q
    have c1 : ns.length = 26 := of_decide_eq_true c
    obtain ⟨m, hm, hle⟩ := has_max (l := ns) fun z => by
      rw [z] at c1
      cases c1
    refine val_is (val_le (val_max (val_var rfl) (SqL.of hp) hm hle) val_c) (congrArg V.bl (decide_eq_decide.mpr ⟨fun z n hn => ?_, fun z => ?_⟩))
    · have := hle n hn
      omega
    · have := z m hm
      omega
theorem gets_yes {a : Abs} {t f : Nat} (c : Kh328.needs a t ≤ f) : a.lots.map (Kh328.gets a t f) = a.lots.map (Kh328.need a t) := List.map_congr_left fun l _ => if_pos c
theorem gets_no {a : Abs} {t f : Nat} (c : ¬ Kh328.needs a t ≤ f) : a.lots.map (Kh328.gets a t f) = (a.lots.map (Kh328.need a t)).map fun n => f * n / Kh328.needs a t := by
  rw [List.map_map]
  exact List.map_congr_left fun l _ => if_neg c
/-! ### a day of some lots -/
def spLive (K : PySem.W.Frag) : Sp := fun vs H Q _ => ∃ (fa : Addr) (a : Abs) (dx : Addr) (x : FarmS) (ll : Addr) (as : List Addr) (sl : Addr) (k t f : Nat), vs = [.ref fa, .ref ll, .int t, .ref sl] ∧ Rul K H fa a dx x ∧ Lots K H ll as a.lots ∧ H sl = some (.lst (nV (a.lots.map (Kh328.gets a t f)))) ∧ Bd k a ∧ k ≤ 7000 ∧ t ≤ 25 ∧
  ∀ H', But as H H' → Lots K H' ll as (Kh328.passed a t f).lots → Q (.int ((a.lots.map (Kh328.gets a t f)).sum : Nat)) H'
def spFed (K : PySem.W.Frag) : Sp := fun vs H Q _ => ∃ (fa : Addr) (a : Abs) (dx : Addr) (x : FarmS) (ll : Addr) (as : List Addr) (k t : Nat), vs = [.ref fa, .ref ll, .int t] ∧ Rul K H fa a dx x ∧ Lots K H ll as a.lots ∧ Bd k a ∧ k ≤ 7000 ∧ t ≤ 25 ∧
  ∀ H', But as H H' → Lots K H' ll as (fedDay t a).lots → Q (.int (Kh328.needs a t : Nat)) H'
def spCopies (K : PySem.W.Frag) : Sp := fun vs H Q _ => ∃ (H0 : Hp) (fa : Addr) (b : Bool) (a : Abs), vs = [.ref fa] ∧ FarmIn K H0 H fa b a ∧ a.lots.length ≤ 1000 ∧
  ∀ H' ll bs, Same H H' → H ll = none → (∀ x ∈ bs, H x = none) → Lots K H' ll bs a.lots → Q (.ref ll) H'
theorem ok_live_day (T : Tx K mg) : Kp P w K mg base 4 "live_day" (spLive K) := by
  obtain ⟨fd, F⟩ := T.d_live_day
  refine kp_of (ps := ["farm", "lots", "warmth", "shares"]) F T.g_live_day (fun _ _ _ _ _ _ us hl => match us, hl with | [_, _, _, _], _ => rfl) sc_live_day (fun vs H Q E h => ?_) (fun cdv A outer s H vs Q E hr h => ?_)
  · obtain ⟨fa, a, dx, x, ll, as, sl, k, t, f, rfl, _⟩ := h
    rfl
  · obtain ⟨fa, a, dx, x, ll, as, sl, k, t, f, rfl, R, L, hsl, B, hk, ht, q⟩ := h
    refine ⟨_, (pss_cons (ps_for PassesOwn.never rfl (pi_zip (by rfl) T.b_zip (pa_cons (pv 1) (pa_cons (pv 3) pa_nil))) (pg_tup rfl (pgs_cons (pg_name (i := 4) sc_live_day.nd rfl (Or.inl rfl)) (pgs_cons (pg_name (i := 5) sc_live_day.nd rfl (Or.inl rfl)) pgs_nil))) (pss_one (ps_if (pt_val (pe_fld (pv 4) rfl)) (pss_one (ps_expr (pe_k (ok_eat_and_grow T) (hr.mono (by decide)) rfl (pa_cons (pv 4) (pa_cons (pv 5) (pa_cons (pe_ix ix_list (pe_fld (pv 0) rfl) (pv 2) (fun _ _ => rfl)) (pa_cons (pe_fld (pv 0) rfl) pa_nil))))))) (pss_one (ps_expr (pe_k (ok_gather_warmth T) (hr.mono (by decide)) rfl (pa_cons (pv 4) (pa_cons (pv 2) (pa_cons (pe_fld (pv 0) rfl) (pa_cons (pe_fld (pv 0) rfl) pa_nil)))))))))) (pss_one (ps_ret (pe_callB (cr_sum rfl) (by rfl) T.b_sum (by decide +kernel) (pa_cons (pv 3) pa_nil))))), ?_⟩
    have nsl := L.out_lst hsl
    refine q_forZip (va2 (val_var rfl) (val_var rfl)) (SqL.of L.list) (SqL.of hsl) (by rw [L.long]; simp) (fun i σ' H' => ∃ v4 v5, σ' = [some (.ref fa), some (.ref ll), some (.int t), some (.ref sl), v4, v5] ∧ But as H H' ∧ Lots K H' ll as (mid a t f i))
      ⟨none, none, rfl, fun _ _ e _ => e, L⟩ (fun i σ' H' ⟨_, _, _, m, L'⟩ => ⟨SqL.of L'.list, SqL.of (m _ _ hsl nsl)⟩) ?_ ?_
    · rintro i v y TT σ' H' hx hy ⟨v4, v5, rfl, m, L'⟩ hT
      obtain ⟨z, _, l0, rfl, h1, h2, _⟩ := L.one hx
      obtain ⟨x', dz, e1, h3, _⟩ := L'.addr (i := i) (l := l0) (mid_at h2)
      cases (h1.symm.trans e1)
      rw [List.getElem?_map, List.getElem?_map, h2] at hy
      cases hy
      have sT := same_new (o := .tup [V.ref z, V.int (Kh328.gets a t f l0 : Nat)]) hT
      have RT := (R.but L m).on sT
      have h3T : (upd H' TT (.tup [V.ref z, V.int (Kh328.gets a t f l0 : Nat)])) z = some (lotO K dz l0) := sT _ _ h3
      have Bl := B.lots l0 (List.mem_of_getElem? h2)
      have hz := List.mem_of_getElem? h1
      have done : ∀ l', l' = Kh328.dayOf a t f l0 → ∃ v4 v5, ([some (.ref fa), some (.ref ll), some (.int t), some (.ref sl), some (.ref z), some (.int (Kh328.gets a t f l0 : Nat))] : L2.St) = [some (.ref fa), some (.ref ll), some (.int t), some (.ref sl), v4, v5] ∧
          But as H (upd (upd H' TT (.tup [V.ref z, V.int (Kh328.gets a t f l0 : Nat)])) z (lotO K dz l')) ∧ Lots K (upd (upd H' TT (.tup [V.ref z, V.int (Kh328.gets a t f l0 : Nat)])) z (lotO K dz l')) ll as (mid a t f (i + 1)) := fun l' e => by
        refine ⟨_, _, rfl, fun c o ec nc => ?_, ?_⟩
        · have ne : c ≠ z := fun w => nc (by rw [w]; exact hz)
          rw [upd_ne ne]
          exact sT _ _ (m c o ec nc)
        · rw [← mid_step h2, e]
          exact (L'.on sT).setLot h1
      refine ⟨TT, _, rfl, SqT.of upd_same, rfl, _, _, rfl, _, _, rfl, rfl, ?_⟩
      refine st_if (b := l0.hatched) (ans_val (val_hatched T (val_var rfl) h3T)) (fun e => ?_) (fun e => ?_)
      · refine st_call (va_cons (val_var rfl) (va_cons (val_var rfl) (va_cons (val_ixL (farm_val_pace T (val_var rfl) RT.farm) (val_var rfl) (SqL.of RT.pace) (pace_at B.told ht)) (va1 (farm_val_conv T (val_var rfl) RT.farm))))) ?_
        refine ⟨z, dz, l0, 40 + k, Kh328.gets a t f l0, a.pace.getD t 0, a.conv, by rw [R.conv], h3T, bd_fit Bl hk, B.told.at t, B.told.conv.1, B.told.conv.2, done _ ?_⟩
        unfold Kh328.dayOf Kh328.grows Kh328.could
        rw [if_pos e, if_pos e]
        rfl
      · refine st_call (va_cons (val_var rfl) (va_cons (val_var rfl) (va2 (farm_val_hatch T (val_var rfl) RT.farm) (farm_val_first T (val_var rfl) RT.farm)))) ?_
        refine ⟨z, dz, l0, t, a.hatch, a.first, by rw [R.hatch, R.first], h3T, B.told.first.2, done _ ?_⟩
        unfold Kh328.dayOf warmed
        rw [e, if_neg Bool.false_ne_true]
    · rintro σ' H' ⟨v4, v5, rfl, m, L'⟩
      rw [L.long, mid_all] at L'
      exact st_ret (val_sum (val_var rfl) (SqL.of (m _ _ hsl nsl))) (q _ m L')
theorem ok_live_fed_day (T : Tx K mg) : Kp P w K mg base 5 "live_fed_day" (spFed K) := by
  obtain ⟨fd, F⟩ := T.d_live_fed_day
  refine kp_of (ps := ["farm", "lots", "warmth"]) F T.g_live_fed_day (fun _ _ _ _ _ _ us hl => match us, hl with | [_, _, _], _ => rfl) sc_live_fed_day (fun vs H Q E h => ?_) (fun cdv A outer s H vs Q E hr h => ?_)
  · obtain ⟨fa, a, dx, x, ll, as, k, t, rfl, _⟩ := h
    rfl
  · obtain ⟨fa, a, dx, x, ll, as, k, t, rfl, R, L, B, hk, ht, q⟩ := h
    refine ⟨_, (pss_one (ps_ret (pe_k (ok_live_day T) (hr.mono (by decide)) rfl (pa_cons (pv 0) (pa_cons (pv 1) (pa_cons (pv 2) (pa_cons (pe_k (ok_needs_of_lots T) (hr.mono (by decide)) rfl (pa_cons (pv 0) (pa_cons (pv 1) (pa_cons (pv 2) pa_nil)))) pa_nil))))))), ?_⟩
    refine st_retH (valH_kH (PV := fun v H' => v = .int (Kh328.needs a t : Nat) ∧ But as H H' ∧ Lots K H' ll as (fedDay t a).lots) (vah_cons (val_var rfl) (vah_cons (val_var rfl) (vah_cons (val_var rfl) (vah1 (valH_k (P := fun v H' => ∃ D, v = .ref D ∧ H D = none ∧ H' = upd H D (.lst (nV (a.lots.map (Kh328.need a t))))) (va_cons (val_var rfl) (va2 (val_var rfl) (val_var rfl))) fun Q' q' => ⟨fa, a, dx, x, ll, as, k, t, rfl, R, L, B, hk, ht, fun D hD => q' _ _ ⟨D, rfl, hD, rfl⟩⟩))))) ?_) ?_
    · rintro vs H' ⟨r1, rfl, r2, rfl, r3, rfl, v, rfl, D, rfl, hD, rfl⟩ Q' q'
      have sD := same_new (o := .lst (nV (a.lots.map (Kh328.need a t)))) hD
      refine ⟨fa, a, dx, x, ll, as, D, k, t, Kh328.needs a t, rfl, R.on sD, L.on sD, ?_, B, hk, ht, fun H2 m L2 => ?_⟩
      · rw [gets_yes (Nat.le_refl _)]
        exact upd_same
      · rw [gets_needs]
        exact q' _ _ ⟨rfl, fun c o e n => m c o (sD c o e) n, L2⟩
    · rintro v H' ⟨rfl, m, L2⟩
      exact q _ m L2
theorem ok_pass_day (T : Tx K mg) : Kp P w K mg base 5 "pass_day" (spPass K) := by
  obtain ⟨fd, F⟩ := T.d_pass_day
  refine kp_of (ps := ["farm", "warmth", "feed"]) F T.g_pass_day (fun _ _ _ _ _ _ us hl => match us, hl with | [_, _, _], _ => rfl) sc_pass_day (fun vs H Q E h => ?_) (fun cdv A outer s H vs Q E hr h => ?_)
  · obtain ⟨H0, fa, b, a, k, t, f, rfl, _⟩ := h
    rfl
  · obtain ⟨H0, fa, b, a, k, t, f, rfl, ⟨dx, pl, ll, as, F⟩, B, hk, ht, hf, q⟩ := h
    refine ⟨_, (pss_cons (ps_set (i := 3) sc_pass_day.nd rfl (Or.inl rfl) (pe_k (ok_shares_of_feed T) (hr.mono (by decide)) rfl (pa_cons (pv 2) (pa_cons (pe_k (ok_needs_of_lots T) (hr.mono (by decide)) rfl (pa_cons (pv 0) (pa_cons (pe_fld (pv 0) rfl) (pa_cons (pv 1) pa_nil)))) pa_nil)))) (pss_cons (ps_set (i := 4) sc_pass_day.nd rfl (Or.inl rfl) (pe_k (ok_live_day T) (hr.mono (by decide)) rfl (pa_cons (pv 0) (pa_cons (pe_fld (pv 0) rfl) (pa_cons (pv 1) (pa_cons (pv 3) pa_nil)))))) (pss_cons (ps_fld (pv 0) (pe_op op_add (pe_fld (pv 0) rfl) pe_int) rfl) (pss_cons (ps_fld (pv 0) (pe_op op_add (pe_fld (pv 0) rfl) (pv 2)) rfl) (pss_cons (ps_fld (pv 0) (pe_op op_add (pe_fld (pv 0) rfl) (pv 4)) rfl) (pss_one (ps_ret (pv 4)))))))), ?_⟩
    refine q_setH (PV := fun v Hs => ∃ sl, v = .ref sl ∧ Same H Hs ∧ Hs sl = some (.lst (nV (a.lots.map (Kh328.gets a t f))))) (valH_kH (vah_cons (val_var rfl) (vah1 (valH_k (P := fun v H' => ∃ D, v = .ref D ∧ H D = none ∧ H' = upd H D (.lst (nV (a.lots.map (Kh328.need a t))))) (va_cons (val_var rfl) (va2 (farm_val_lots T (val_var rfl) F.farm) (val_var rfl))) fun Q' q' => ⟨fa, a, dx, _, ll, as, k, t, rfl, F.rul, F.own, B, hk, ht, fun D hD => q' _ _ ⟨D, rfl, hD, rfl⟩⟩))) ?_) ?_
    · rintro vs H' ⟨r1, rfl, v, rfl, D, rfl, hD, rfl⟩ Q' q'
      refine ⟨D, a.lots.map (Kh328.need a t), f, 48 + k, rfl, upd_same, by have := B.few; simp; omega, needs_lt B t, by omega, by omega, hf, fun c => ?_, fun c D2 hD2 => ?_⟩
      · refine q' _ _ ⟨D, rfl, same_new hD, ?_⟩
        rw [gets_yes c]
        exact upd_same
      · refine q' _ _ ⟨D2, rfl, (same_new hD).trans (same_new hD2), ?_⟩
        rw [gets_no c]
        exact upd_same
    · rintro v Hs ⟨sl, rfl, sH, hsl⟩
      have FS := F.on sH
      refine q_setH (PV := fun v H' => v = .int ((a.lots.map (Kh328.gets a t f)).sum : Nat) ∧ FarmX K H0 H' fa b { a with lots := (Kh328.passed a t f).lots } dx pl ll as) (valH_k (va_cons (val_var rfl) (va_cons (farm_val_lots T (val_var rfl) FS.farm) (va2 (val_var rfl) (val_var rfl)))) fun Q' q' => ⟨fa, a, dx, _, ll, as, sl, k, t, f, rfl, FS.rul, FS.own, hsl, B, hk, ht, fun H' m L => q' _ _ ⟨rfl, FS.lived m L⟩⟩) ?_
      rintro v H1 ⟨rfl, F1⟩
      have FP := F1.put (b' := b) (a' := Kh328.passed a t f) rfl rfl
      refine farm_q_today T (nval_add (n := 1) (farm_val_today T (val_var rfl) F1.farm) val_c) (val_var rfl) F1.farm ?_
      refine farm_q_fed T (nval_add (farm_val_fed T (val_var rfl) upd_same) (val_var rfl)) (val_var rfl) upd_same ?_
      refine farm_q_eaten T (nval_add (farm_val_eaten T (val_var rfl) upd_same) (val_var rfl)) (val_var rfl) upd_same ?_
      rw [upd_upd, upd_upd]
      exact st_ret (val_var rfl) (q _ FP.in)
/-! ### copies to look ahead with -/
theorem ok_copy_of_lots (T : Tx K mg) : Kp P w K mg base 4 "copy_of_lots" (spCopies K) := by
  obtain ⟨fd, F⟩ := T.d_copy_of_lots
  refine kp_of (ps := ["farm"]) F T.g_copy_of_lots (fun _ _ _ _ _ _ us hl => match us, hl with | [_], _ => rfl) sc_copy_of_lots (fun vs H Q E h => ?_) (fun cdv A outer s H vs Q E hr h => ?_)
  · obtain ⟨H0, fa, b, a, rfl, _⟩ := h
    rfl
  · obtain ⟨H0, fa, b, a, rfl, ⟨dx, pl, ll, as, F⟩, hlen, q⟩ := h
    refine ⟨_, (pss_one (ps_ret (pe_lc (own := [("lot", 1)]) (g := gName 1) (tt := tYes) (te := (tK _ (tCons (tVar 1) tNil))) rfl sc_copy_of_lots.nd (pi_list (pe_fld (pv 0) rfl)) (blkOk_by (own := [("lot", 1)]) (N := N_copy_of_lots) (sc := defScope s_copy_of_lots) (by decide +kernel)) (fun _ _ _ _ _ => pg_name (i := 1) sc_copy_of_lots.nd rfl (Or.inl rfl)) (fun _ _ _ _ _ => pts_nil) (fun _ _ _ _ _ => (pe_k (ok_copy_of_lot T) (hr.mono (by decide)) rfl (pa_cons (pv 1) pa_nil)))))), ?_⟩
    have L := F.own
    refine st_retH (lc_of (farm_val_lots T (val_var rfl) F.farm) (SqL.of F.list) (fun _ => rfl) (fun D i H' => ∃ bs : List Addr, bs.length = i ∧ Same H H' ∧ H' D = some (.lst (bs.map V.ref)) ∧ bs.Nodup ∧ (∀ y ∈ bs, H y = none ∧ y ≠ D ∧ ∃ o, H' y = some o) ∧ ∀ (j : Nat) (y : Addr) (l : Lot), bs[j]? = some y → a.lots[j]? = some l → LotAt K H' y l) ?_ ?_ ?_) ?_
    · intro D hD
      exact ⟨[], rfl, same_new hD, upd_same, List.nodup_nil, fun y m => (nomatch m), fun j y l m => (nomatch m)⟩
    · rintro D i H' _ ⟨bs, _, s, _⟩
      exact s.seq (SqL.of F.list)
    · rintro D i v H' hD hx ⟨bs, rfl, s, hD', nd, hb, hl⟩
      obtain ⟨y, dy, l, rfl, h1, h2, h3⟩ := L.one hx
      refine (show VA (tCons (tVar 1) tNil) _ H' [.ref y] from va1 (val_var rfl)) _ ?_
      refine ⟨y, dy, l, rfl, s _ _ h3, fun x2 dz hx2 hdz hne => ?_⟩
      have s1 : Same H' (upd (upd H' dz (.own x2)) x2 (lotO K dz l)) := (same_new hdz).trans (same_new (by rw [upd_ne hne.symm]; exact hx2))
      have ib : bs.length < a.lots.length := (List.getElem?_eq_some_iff.mp h2).1
      have nxD : x2 ≠ D := fun z => by rw [z, hD'] at hx2; cases hx2
      have nx : x2 ∉ bs := fun m => by
        obtain ⟨_, _, o, e⟩ := hb x2 m
        rw [hx2] at e
        cases e
      refine ⟨bs.map V.ref, s1 _ _ hD', Nat.lt_of_lt_of_le (show (bs.map V.ref).length < 1000 by rw [List.length_map]; omega) (by decide), bs ++ [x2], by simp, fun c o e => ?_, ?_, ?_, fun c m => ?_, fun j c m h4 h5 => ?_⟩
      · rw [upd_ne (ne_of_none e hD)]
        exact s1 _ _ (s _ _ e)
      · rw [upd_same, List.map_append]
        rfl
      · exact List.nodup_append.mpr ⟨nd, by simp, fun c hc z hz => by
          rw [List.mem_singleton.mp hz]
          exact fun e => nx (e ▸ hc)⟩
      · rcases List.mem_append.mp m with m | m
        · obtain ⟨g1, g2, o, g3⟩ := hb c m
          exact ⟨g1, g2, o, by rw [upd_ne g2]; exact s1 _ _ g3⟩
        · rw [List.mem_singleton.mp m]
          exact ⟨s.free hx2, nxD, _, by rw [upd_ne nxD]; exact upd_same⟩
      · by_cases z : j < bs.length
        · rw [List.getElem?_append_left z] at h4
          obtain ⟨dc, g⟩ := hl j c m h4 h5
          obtain ⟨_, g2, _⟩ := hb c (List.mem_of_getElem? h4)
          exact ⟨dc, by rw [upd_ne g2]; exact s1 _ _ g⟩
        · rw [List.getElem?_append_right (by omega)] at h4
          have j0 : j - bs.length = 0 := by
            have := (List.getElem?_eq_some_iff.mp h4).1
            simp at this
            omega
          have j1 : j = bs.length := by omega
          rw [j0] at h4
          rw [j1, h2] at h5
          cases h4
          cases h5
          exact ⟨dz, by rw [upd_ne nxD]; exact upd_same⟩
    · rintro v H' ⟨D, rfl, hD, bs, hbs, s, hD', nd, hb, hl⟩
      exact q _ D bs s hD (fun x m => (hb x m).1) ⟨hD', by rw [hbs, L.long], nd, hl⟩
end
end Wg

set_option Elab.async false
set_option linter.all false
set_option maxRecDepth 100000
set_option maxHeartbeats 4000000
/-! Days to come, over copies of the lots. -/
namespace Wg
open PySem PySem.Spec PyProof.Rows L2
open Kh328 (Lot Abs)
/-! ### promises -/
abbrev firstW (a : Abs) (i wt t : Nat) : Option Nat := Kh328.firstDay t (fun b => decide (wt ≤ Kh328.eachOf b i)) (Kh328.DAYS + 1) 0 a
def spTill (K : PySem.W.Frag) : Sp := fun vs H Q _ => ∃ (H0 : Hp) (fa : Addr) (b : Bool) (a : Abs) (k i wt t : Nat), vs = [.ref fa, .int i, .int wt, .int t] ∧ FarmIn K H0 H fa b a ∧ Bd k a ∧ k ≤ 200 ∧ t ≤ 25 ∧ i < a.lots.length ∧
  (firstW a i wt t = none → ∀ H', Same H H' → Q .non H') ∧ (∀ n, firstW a i wt t = some n → ∀ H' p, Same H H' → H' p = some (.tup [.int (n : Nat), .int (eats t n a : Nat)]) → Q (.ref p) H')
def spHatch (K : PySem.W.Frag) : Sp := fun vs H Q _ => ∃ (H0 : Hp) (fa : Addr) (b : Bool) (a : Abs) (x dy : Addr) (l : Lot) (t : Nat), vs = [.ref fa, .ref x, .int t] ∧ FarmIn K H0 H fa b a ∧ H x = some (lotO K dy l) ∧ l.warmth < a.hatch ∧ t ≤ 25 ∧
  (1000 * t < a.hatch - l.warmth → Q .non H) ∧ (a.hatch - l.warmth ≤ 1000 * t → Q (.int ((a.hatch - l.warmth + t - 1) / t : Nat)) H)
def spAfter (K : PySem.W.Frag) : Sp := fun vs H Q _ => ∃ (H0 : Hp) (fa : Addr) (b : Bool) (a : Abs) (k n t : Nat), vs = [.ref fa, .int n, .int t] ∧ FarmIn K H0 H fa b a ∧ Bd k a ∧ k ≤ 200 ∧ t ≤ 25 ∧ n ≤ 1000 ∧
  ∀ H' p, Same H H' → H' p = some (.tup [.int (Kh328.massOf (Kh328.full t n a) : Nat), .int (eats t n a : Nat)]) → Q (.ref p) H'
def spOfFeed (K : PySem.W.Frag) : Sp := fun vs H Q _ => ∃ (H0 : Hp) (fa : Addr) (b : Bool) (a : Abs) (k f t : Nat), vs = [.ref fa, .int f, .int t] ∧ FarmIn K H0 H fa b a ∧ Bd k a ∧ k ≤ 200 ∧ t ≤ 25 ∧
  ∀ H', Same H H' → Q (.int (Kh328.lasts t Kh328.DAYS f a : Nat)) H'
section
variable {P : Program} {w : World} {K : PySem.W.Frag} {mg : Str → Option Value} {base : Heap}
/-- lots = copy_of_lots(farm) -/
theorem valH_copies {σ : L2.St} {H H0 : Hp} {ta : TE} {fa : Addr} {b : Bool} {a : Abs} (F : FarmIn K H0 H fa b a) (hlen : a.lots.length ≤ 1000) (h : Val ta σ H (.ref fa)) : ValH (tK (spCopies K) (tCons ta tNil)) σ H (fun v H' => ∃ cl bs, v = .ref cl ∧ Same H H' ∧ (∀ x ∈ bs, H x = none) ∧ Lots K H' cl bs a.lots) :=
  valH_k (va1 h) fun Q' q' => ⟨H0, fa, b, a, rfl, F, hlen, fun H' cl bs s _ h2 L => q' _ _ ⟨cl, bs, rfl, s, h2, L⟩⟩
/-- a day of the copies, all fed enough -/
theorem valH_fed {σ : L2.St} {H H' : Hp} {ta tb tc : TE} {fa cl dx : Addr} {x : FarmS} {bs : List Addr} {a : Abs} {k j t : Nat} (R : Rul K H fa a dx x) (s : Same H H') (L : Lots K H' cl bs (Kh328.full t j a).lots) (hb : ∀ x ∈ bs, H x = none) (B : Bd k a) (hk : k ≤ 200) (hj : j ≤ 1000) (ht : t ≤ 25) (ha : Val ta σ H' (.ref fa)) (hc : Val tb σ H' (.ref cl)) (hd : Val tc σ H' (.int t)) :
    ValH (tK (spFed K) (tCons ta (tCons tb (tCons tc tNil)))) σ H' (fun v H2 => v = .int (Kh328.needs (Kh328.full t j a) t : Nat) ∧ (Same H H2 ∧ Lots K H2 cl bs (Kh328.full t (j + 1) a).lots)) :=
  valH_k (va_cons ha (va2 hc hd)) fun Q' q' => ⟨fa, Kh328.full t j a, dx, x, cl, bs, k + j, t, rfl, (R.on s).ahead t j, L, full_bd t j B, by omega, ht, fun H2 m L2 => q' _ _ ⟨rfl, m.keep s hb, by rw [full_snoc]; exact L2⟩⟩
theorem ok_till_weight (T : Tx K mg) : Kp P w K mg base 6 "till_weight" (spTill K) := by
  obtain ⟨fd, F⟩ := T.d_till_weight
  refine kp_of (ps := ["farm", "i", "weight", "warmth"]) F T.g_till_weight (fun _ _ _ _ _ _ us hl => match us, hl with | [_, _, _, _], _ => rfl) sc_till_weight (fun vs H Q E h => ?_) (fun cdv A outer s H vs Q E hr h => ?_)
  · obtain ⟨H0, fa, b, a, k, i, wt, t, rfl, _⟩ := h
    rfl
  · obtain ⟨H0, fa, b, a, k, i, wt, t, rfl, ⟨dx, pl, ll, as, F⟩, B, hk, ht, hi, q1, q2⟩ := h
    refine ⟨_, (pss_cons (ps_set (i := 4) sc_till_weight.nd rfl (Or.inl rfl) (pe_k (ok_copy_of_lots T) (hr.mono (by decide)) rfl (pa_cons (pv 0) pa_nil))) (pss_cons (ps_set (i := 5) sc_till_weight.nd rfl (Or.inl rfl) pe_int) (pss_cons (ps_set (i := 6) sc_till_weight.nd rfl (Or.inl rfl) pe_int) (pss_cons (ps_while PassesOwn.never (pt_cmpR op_lt (pe_k (ok_each_weighs T) (hr.mono (by decide)) rfl (pa_cons (pe_ix ix_list (pv 4) (pv 1) (fun _ _ => rfl)) pa_nil)) (pv 2) (nomark _)) (pss_cons (ps_if (pt_cmpR op_eq (pv 5) (pe_gint T.i_MOST_DAYS rfl) (nomark _)) (pss_one (ps_ret pe_non)) pss_nil) (pss_cons (ps_set (i := 6) sc_till_weight.nd rfl (Or.inl rfl) (pe_op op_add (pv 6) (pe_k (ok_live_fed_day T) (hr.mono (by decide)) rfl (pa_cons (pv 0) (pa_cons (pv 4) (pa_cons (pv 3) pa_nil)))))) (pss_one (ps_set (i := 5) sc_till_weight.nd rfl (Or.inl rfl) (pe_op op_add (pv 5) pe_int)))))) (pss_one (ps_ret (pe_tup (pa_cons (pv 5) (pa_cons (pv 6) pa_nil))))))))), ?_⟩
    have hf := B.few
    refine q_setH (valH_copies F.in (by omega) (val_var rfl)) ?_
    rintro v H1 ⟨cl, bs, rfl, s1, hb, L1⟩
    refine q_set (v := .int ((0 : Nat) : Int)) val_c ?_
    refine q_set (v := .int ((0 : Nat) : Int)) val_c ?_
    refine q_while (fun m σ' H' => ∃ j, j ≤ 1000 ∧ m = 1000 - j ∧ σ' = [some (.ref fa), some (.int i), some (.int wt), some (.int t), some (.ref cl), some (.int (j : Nat)), some (.int (eats t j a : Nat))] ∧ Same H H' ∧ Lots K H' cl bs (Kh328.full t j a).lots ∧ ∀ n, n < j → Kh328.eachOf (Kh328.full t n a) i < wt)
      1000 ⟨0, Nat.zero_le _, rfl, rfl, s1, L1, fun n z => absurd z (Nat.not_lt_zero _)⟩ ?_
    rintro m σ' H' ⟨j, hj, rfl, rfl, s, L, hn⟩
    have Bj := full_bd t j B
    have hi2 : i < (Kh328.full t j a).lots.length := by rw [full_len]; exact hi
    obtain ⟨c, dy, h1, h2, h3⟩ := L.addr (List.getElem?_eq_getElem hi2)
    have el := eachOf_at (List.getElem?_eq_getElem hi2)
    refine ans_lt (b := decide (Kh328.eachOf (Kh328.full t j a) i < wt)) (val_k (va1 (val_ixL (n := i) (val_var rfl) (val_var rfl) (SqL.of L.list) h3)) fun Q' q' => ⟨c, _, 40 + (k + j), rfl, ⟨dy, h2⟩, bd_fit (Bj.lots _ (List.getElem_mem hi2)) (by omega), q'⟩) (val_var rfl) (decide_eq_decide.mpr (by rw [el]; omega)) _ ?_
    by_cases e0 : Kh328.eachOf (Kh328.full t j a) i < wt
    · rw [decide_eq_true e0]
      refine iteT ⟨_, fun σ2 H2 z => z, ?_⟩
      refine q_when (b := decide (j = 1000)) (ans_eqI (val_var rfl) val_c (decide_eq_decide.mpr (by omega))) (fun e => ?_) (fun e => ?_)
      · have e1 : j = 1000 := of_decide_eq_true e
        refine st_ret val_c (q1 (until_none fun n hn2 => ?_) _ s)
        by_cases e2 : n = j
        · rw [e2]
          exact e0
        · exact hn n (by omega)
      · have e1 : ¬ j = 1000 := of_decide_eq_false e
        refine q_setH (valH_addN (val_var rfl) (valH_fed F.rul s L hb B hk hj ht (val_var rfl) (val_var rfl) (val_var rfl))) ?_
        rintro v H2 ⟨rfl, s2, L2⟩
        refine st_set (nval_add (n := 1) (val_var rfl) val_c) ⟨1000 - (j + 1), by omega, j + 1, by omega, rfl, ?_, s2, L2, fun n hn2 => ?_⟩
        · rw [eats_snoc]
          rfl
        · by_cases e2 : n = j
          · rw [e2]
            exact e0
          · exact hn n (by omega)
    · rw [decide_eq_false e0]
      refine iteF ?_
      refine st_ret_tup (vah_of (va2 (val_var rfl) (val_var rfl))) ?_
      rintro _ _ ⟨rfl, rfl⟩
      exact ⟨by simp, fun r hr => q2 j (until_some hj e0 hn) _ r (s.trans (same_new hr)) upd_same⟩
theorem ok_till_hatched (T : Tx K mg) : Kp P w K mg base 1 "till_hatched" (spHatch K) := by
  obtain ⟨fd, F⟩ := T.d_till_hatched
  refine kp_of (ps := ["farm", "lot", "warmth"]) F T.g_till_hatched (fun _ _ _ _ _ _ us hl => match us, hl with | [_, _, _], _ => rfl) sc_till_hatched (fun vs H Q E h => ?_) (fun cdv A outer s H vs Q E hr h => ?_)
  · obtain ⟨H0, fa, b, a, x, dy, l, t, rfl, _⟩ := h
    rfl
  · obtain ⟨H0, fa, b, a, x, dy, l, t, rfl, ⟨dx, pl, ll, as, F⟩, hl, hc, ht, q1, q2⟩ := h
    refine ⟨_, (pss_cons (ps_set (i := 3) sc_till_hatched.nd rfl (Or.inl rfl) (pe_op op_sub (pe_fld (pv 0) rfl) (pe_fld (pv 1) rfl))) (pss_cons (ps_if (pt_cmpR op_gt (pv 3) (pe_op op_mul (pe_gint T.i_MOST_DAYS rfl) (pv 2)) (nomark _)) (pss_one (ps_ret pe_non)) pss_nil) (pss_one (ps_ret (pe_op op_fdivW (pe_op op_sub (pe_op op_add (pv 3) (pv 2)) pe_int) (pv 2)))))), ?_⟩
    refine q_set (nval_sub (m := a.hatch) (farm_val_hatch T (val_var rfl) F.farm) (val_degrees T (val_var rfl) hl) (by omega)) ?_
    refine q_when (b := decide (1000 * t < a.hatch - l.warmth)) (ans_gt2 (val_var rfl) (nval_mulR (m := 1000) val_c (val_var rfl) (by omega)) (decide_eq_decide.mpr (by omega))) (fun e => ?_) (fun e => ?_)
    · exact st_ret val_c (q1 (of_decide_eq_true e))
    · have c : ¬ 1000 * t < a.hatch - l.warmth := of_decide_eq_false e
      exact st_ret (nval_div (b := 5) (nval_sub (n := 1) (nval_add (val_var rfl) (val_var rfl)) val_c (by omega)) (val_var rfl) (by omega) (by show t < 32; omega) ⟨by decide, by decide⟩) (q2 (by omega))
theorem ok_after_days (T : Tx K mg) : Kp P w K mg base 6 "after_days" (spAfter K) := by
  obtain ⟨fd, F⟩ := T.d_after_days
  refine kp_of (ps := ["farm", "days", "warmth"]) F T.g_after_days (fun _ _ _ _ _ _ us hl => match us, hl with | [_, _, _], _ => rfl) sc_after_days (fun vs H Q E h => ?_) (fun cdv A outer s H vs Q E hr h => ?_)
  · obtain ⟨H0, fa, b, a, k, n, t, rfl, _⟩ := h
    rfl
  · obtain ⟨H0, fa, b, a, k, n, t, rfl, ⟨dx, pl, ll, as, F⟩, B, hk, ht, hn, q⟩ := h
    refine ⟨_, (pss_cons (ps_set (i := 3) sc_after_days.nd rfl (Or.inl rfl) (pe_k (ok_copy_of_lots T) (hr.mono (by decide)) rfl (pa_cons (pv 0) pa_nil))) (pss_cons (ps_set (i := 4) sc_after_days.nd rfl (Or.inl rfl) pe_int) (pss_cons (ps_for PassesOwn.never rfl (pi_range1 (by rfl) T.b_range (pa_cons (pv 1) pa_nil)) (pg_name (i := 5) sc_after_days.nd rfl (Or.inl rfl)) (pss_one (ps_set (i := 4) sc_after_days.nd rfl (Or.inl rfl) (pe_op op_add (pv 4) (pe_k (ok_live_fed_day T) (hr.mono (by decide)) rfl (pa_cons (pv 0) (pa_cons (pv 3) (pa_cons (pv 2) pa_nil)))))))) (pss_one (ps_ret (pe_tup (pa_cons (pe_k (ok_all_mass T) (hr.mono (by decide)) rfl (pa_cons (pv 3) pa_nil)) (pa_cons (pv 4) pa_nil)))))))), ?_⟩
    have hf := B.few
    refine q_setH (valH_copies F.in (by omega) (val_var rfl)) ?_
    rintro v H1 ⟨cl, bs, rfl, s1, hb, L1⟩
    refine q_set (v := .int ((0 : Nat) : Int)) val_c ?_
    refine q_forRange (va1 (val_var rfl)) (by omega) (fun j σ' H' => ∃ v5, σ' = [some (.ref fa), some (.int n), some (.int t), some (.ref cl), some (.int (eats t j a : Nat)), v5] ∧ Same H H' ∧ Lots K H' cl bs (Kh328.full t j a).lots) ⟨none, rfl, s1, L1⟩ ?_ ?_
    · rintro j σ' H' hj ⟨v5, rfl, s, L⟩
      show tAsg _ _ _ _ _
      refine st_setH (valH_addN (val_var rfl) (valH_fed F.rul s L hb B hk (by omega) ht (val_var rfl) (val_var rfl) (val_var rfl))) ?_
      rintro v H2 ⟨rfl, s2, L2⟩
      refine ⟨some (.int (j : Nat)), ?_, s2, L2⟩
      rw [eats_snoc]
      rfl
    · rintro σ' H' ⟨v5, rfl, s, L⟩
      refine st_ret_tup (vahH_cons (valH_k (P := fun v H2 => v = .int (Kh328.massOf (Kh328.full t n a) : Nat) ∧ Same H' H2) (va1 (val_var rfl)) fun Q' q' => ⟨cl, bs, _, rfl, L, by rw [full_len]; omega, fun H2 s2 => q' _ _ ⟨rfl, s2⟩⟩) fun v H2 _ => vah_of (va1 (val_var rfl))) ?_
      rintro vs H3 ⟨v, r, H2, rfl, ⟨rfl, s2⟩, rfl, rfl⟩
      exact ⟨by simp, fun r hr => q _ r ((s.trans s2).trans (same_new hr)) upd_same⟩
theorem ok_days_of_feed (T : Tx K mg) : Kp P w K mg base 6 "days_of_feed" (spOfFeed K) := by
  obtain ⟨fd, F⟩ := T.d_days_of_feed
  refine kp_of (ps := ["farm", "feed", "warmth"]) F T.g_days_of_feed (fun _ _ _ _ _ _ us hl => match us, hl with | [_, _, _], _ => rfl) sc_days_of_feed (fun vs H Q E h => ?_) (fun cdv A outer s H vs Q E hr h => ?_)
  · obtain ⟨H0, fa, b, a, k, f, t, rfl, _⟩ := h
    rfl
  · obtain ⟨H0, fa, b, a, k, f, t, rfl, ⟨dx, pl, ll, as, F⟩, B, hk, ht, q⟩ := h
    refine ⟨_, (pss_cons (ps_set (i := 3) sc_days_of_feed.nd rfl (Or.inl rfl) (pe_k (ok_copy_of_lots T) (hr.mono (by decide)) rfl (pa_cons (pv 0) pa_nil))) (pss_cons (ps_set (i := 4) sc_days_of_feed.nd rfl (Or.inl rfl) pe_int) (pss_cons (ps_set (i := 5) sc_days_of_feed.nd rfl (Or.inl rfl) (pv 1)) (pss_cons (ps_while PassesOwn.never (pt_cmpR op_lt (pv 4) (pe_gint T.i_MOST_DAYS rfl) (nomark _)) (pss_cons (ps_set (i := 5) sc_days_of_feed.nd rfl (Or.inl rfl) (pe_op op_sub (pv 5) (pe_k (ok_live_fed_day T) (hr.mono (by decide)) rfl (pa_cons (pv 0) (pa_cons (pv 3) (pa_cons (pv 2) pa_nil)))))) (pss_cons (ps_if (pt_cmpR op_lt (pv 5) pe_int (nomark _)) (pss_one (ps_ret (pv 4))) pss_nil) (pss_one (ps_set (i := 4) sc_days_of_feed.nd rfl (Or.inl rfl) (pe_op op_add (pv 4) pe_int)))))) (pss_one (ps_ret (pv 4))))))), ?_⟩
    have hf := B.few
    refine q_setH (valH_copies F.in (by omega) (val_var rfl)) ?_
    rintro v H1 ⟨cl, bs, rfl, s1, hb, L1⟩
    refine q_set (v := .int ((0 : Nat) : Int)) val_c ?_
    refine q_set (v := .int ((f : Int) - ((eats t 0 a : Nat) : Int))) (val_is (val_var rfl) (congrArg V.int (Int.sub_zero _).symm)) ?_
    refine q_while (fun m σ' H' => ∃ j, j ≤ 1000 ∧ m = 1000 - j ∧ σ' = [some (.ref fa), some (.int f), some (.int t), some (.ref cl), some (.int (j : Nat)), some (.int ((f : Int) - ((eats t j a : Nat) : Int)))] ∧ Same H H' ∧ Lots K H' cl bs (Kh328.full t j a).lots ∧ eats t j a ≤ f)
      1000 ⟨0, Nat.zero_le _, rfl, rfl, s1, L1, Nat.zero_le _⟩ ?_
    rintro m σ' H' ⟨j, hj, rfl, rfl, s, L, he⟩
    refine ans_lt (b := decide (j < 1000)) (val_var rfl) val_c (decide_eq_decide.mpr (by omega)) _ ?_
    by_cases e0 : j < 1000
    · rw [decide_eq_true e0]
      refine iteT ⟨_, fun σ2 H2 z => z, ?_⟩
      refine q_setH (valH_subI (val_var rfl) (valH_fed F.rul s L hb B hk hj ht (val_var rfl) (val_var rfl) (val_var rfl))) ?_
      rintro v H2 ⟨rfl, s2, L2⟩
      have es := eats_snoc t j a
      have ei : (f : Int) - ((eats t j a : Nat) : Int) - ((Kh328.needs (Kh328.full t j a) t : Nat) : Int) = (f : Int) - ((eats t (j + 1) a : Nat) : Int) := by omega
      rw [ei]
      refine q_when (b := decide (f < eats t (j + 1) a)) (ans_lt (val_var rfl) val_c (decide_eq_decide.mpr (by omega))) (fun e => ?_) (fun e => ?_)
      · have r := lasts_is t Kh328.DAYS j f a hj he fun _ => of_decide_eq_true e
        refine st_ret (val_var rfl) ?_
        have g := q _ s2
        rw [r] at g
        exact g
      · have e1 : ¬ f < eats t (j + 1) a := of_decide_eq_false e
        exact st_set (nval_add (n := 1) (val_var rfl) val_c) ⟨1000 - (j + 1), by omega, j + 1, by omega, rfl, rfl, s2, L2, by omega⟩
    · rw [decide_eq_false e0]
      refine iteF ?_
      have r := lasts_is t Kh328.DAYS j f a hj he fun z => absurd z e0
      refine st_ret (val_var rfl) ?_
      have g := q _ s
      rw [r] at g
      exact g
end
end Wg

set_option Elab.async false
set_option linter.all false
set_option maxRecDepth 100000
set_option maxHeartbeats 4000000
/-! The calls, one by one. -/
namespace Wg
open PySem PySem.Spec PyProof.Rows L2
open Kh328 (Lot Abs doing say)
/-! ### the promise of a call -/
def spCall (K : PySem.W.Frag) (p : Nat) : Sp := fun vs H Q _ => ∃ (H0 : Hp) (fa : Addr) (s : Option Abs) (k : Nat) (nl : Addr) (xs : List Nat), vs = [.ref fa, .ref nl] ∧ FarmSt K H0 H fa s ∧ (p ≠ 0 → s ≠ none) ∧ (∀ a, s = some a → Bd k a) ∧ k ≤ 200 ∧
  H nl = some (.lst (nV xs)) ∧ Ok (p, xs) ∧ ∀ H' r, FarmSt K H0 H' fa (doing s (callAt p xs)).1 → H' r = some (.lst ((answered (doing s (callAt p xs)).2).map V.int)) → H0 r = none → Q (.ref r) H'
/-- what such a call is asked to give, once its state and numbers are known -/
def Gives (K : PySem.W.Frag) (H0 : Hp) (fa : Addr) (Q : VK) (d : Option Abs × Kh328.Ans) : Prop := ∀ H' r, FarmSt K H0 H' fa d.1 → H' r = some (.lst ((answered d.2).map V.int)) → H0 r = none → Q (.ref r) H'
section
variable {P : Program} {w : World} {K : PySem.W.Frag} {mg : Str → Option Value} {base : Heap}
theorem open1 {p : Nat} {vs : List V} {H : Hp} {Q : VK} {E : XK} (h : spCall K p vs H Q E) (hp : p ≠ 0) (hw : width p = 1) : ∃ (H0 : Hp) (fa : Addr) (a : Abs) (k : Nat) (nl : Addr) (x : Nat), vs = [.ref fa, .ref nl] ∧ FarmIn K H0 H fa true a ∧ Bd k a ∧ k ≤ 200 ∧ H nl = some (.lst [.int x]) ∧ x ≤ 4294967295 ∧ Gives K H0 fa Q (doing (some a) (callAt p [x])) := by
  obtain ⟨H0, fa, s, k, nl, xs, e, F, hs, B, hk, hn, ok, q⟩ := h
  cases s with
  | none => exact absurd rfl (hs hp)
  | some a =>
    have hl : xs.length = 1 := by
      have := ok.len
      simp only [if_neg hp, hw] at this
      exact this
    match xs, hl with
    | [x], _ => exact ⟨H0, fa, a, k, nl, x, e, F, B a rfl, hk, hn, ok.big x (by simp), q⟩
theorem open2 {p : Nat} {vs : List V} {H : Hp} {Q : VK} {E : XK} (h : spCall K p vs H Q E) (hp : p ≠ 0) (hw : width p = 2) : ∃ (H0 : Hp) (fa : Addr) (a : Abs) (k : Nat) (nl : Addr) (x y : Nat), vs = [.ref fa, .ref nl] ∧ FarmIn K H0 H fa true a ∧ Bd k a ∧ k ≤ 200 ∧ H nl = some (.lst [.int x, .int y]) ∧ x ≤ 4294967295 ∧ y ≤ 4294967295 ∧ Gives K H0 fa Q (doing (some a) (callAt p [x, y])) := by
  obtain ⟨H0, fa, s, k, nl, xs, e, F, hs, B, hk, hn, ok, q⟩ := h
  cases s with
  | none => exact absurd rfl (hs hp)
  | some a =>
    have hl : xs.length = 2 := by
      have := ok.len
      simp only [if_neg hp, hw] at this
      exact this
    match xs, hl with
    | [x, y], _ => exact ⟨H0, fa, a, k, nl, x, y, e, F, B a rfl, hk, hn, ok.big x (by simp), ok.big y (by simp), q⟩
theorem open3 {p : Nat} {vs : List V} {H : Hp} {Q : VK} {E : XK} (h : spCall K p vs H Q E) (hp : p ≠ 0) (hw : width p = 3) : ∃ (H0 : Hp) (fa : Addr) (a : Abs) (k : Nat) (nl : Addr) (x y z : Nat), vs = [.ref fa, .ref nl] ∧ FarmIn K H0 H fa true a ∧ Bd k a ∧ k ≤ 200 ∧ H nl = some (.lst [.int x, .int y, .int z]) ∧ Gives K H0 fa Q (doing (some a) (callAt p [x, y, z])) := by
  obtain ⟨H0, fa, s, k, nl, xs, e, F, hs, B, hk, hn, ok, q⟩ := h
  cases s with
  | none => exact absurd rfl (hs hp)
  | some a =>
    have hl : xs.length = 3 := by
      have := ok.len
      simp only [if_neg hp, hw] at this
      exact this
    match xs, hl with
    | [x, y, z], _ => exact ⟨H0, fa, a, k, nl, x, y, z, e, F, B a rfl, hk, hn, q⟩
theorem open0 {p : Nat} {vs : List V} {H : Hp} {Q : VK} {E : XK} (h : spCall K p vs H Q E) (hp : p ≠ 0) (hw : width p = 0) : ∃ (H0 : Hp) (fa : Addr) (a : Abs) (k : Nat) (nl : Addr), vs = [.ref fa, .ref nl] ∧ FarmIn K H0 H fa true a ∧ Bd k a ∧ k ≤ 200 ∧ Gives K H0 fa Q (doing (some a) (callAt p [])) := by
  obtain ⟨H0, fa, s, k, nl, xs, e, F, hs, B, hk, hn, ok, q⟩ := h
  cases s with
  | none => exact absurd rfl (hs hp)
  | some a =>
    have hl : xs.length = 0 := by
      have := ok.len
      simp only [if_neg hp, hw] at this
      exact this
    match xs, hl with
    | [], _ => exact ⟨H0, fa, a, k, nl, e, F, B a rfl, hk, q⟩
theorem call_len {p : Nat} {vs : List V} {H : Hp} {Q : VK} {E : XK} (h : spCall K p vs H Q E) : vs.length = 2 := by
  obtain ⟨H0, fa, s, k, nl, xs, rfl, _⟩ := h
  rfl
/-- [v, ..] is answered, nothing changes -/
theorem gives_lst {σ : L2.St} {H H0 : Hp} {fa : Addr} {a : Abs} {Q : VK} {t : TA} {vs : List V} {D : Ends} {d : Option Abs × Kh328.Ans} (F : FarmIn K H0 H fa true a) (q : Gives K H0 fa Q d) (hD : D.rt = Q) (h : VA t σ H vs) (e1 : d.1 = some a) (e2 : (answered d.2).map V.int = vs) (hl : vs.length ≤ 1000 := by decide) : tRet (tLst t) D σ H := by
  refine st_ret_lst (vah_of h) ?_
  rintro _ _ ⟨rfl, rfl⟩
  refine ⟨hl, fun r hr => ?_⟩
  obtain ⟨dx, pl, ll, as, F⟩ := F
  rw [hD]
  refine q _ r ?_ (by rw [e2]; exact upd_same) (F.keep.free hr)
  rw [e1]
  exact (F.on (same_new hr)).in
theorem val_within {σ : L2.St} {H : Hp} {ta tb tc : TE} {x lo hi : Int} (ha : Val ta σ H (.int x)) (hb : Val tb σ H (.int lo)) (hc : Val tc σ H (.int hi)) : Val (tK spWithin (tCons ta (tCons tb (tCons tc tNil)))) σ H (.bl (decide (lo ≤ x) && decide (x ≤ hi))) :=
  val_k (va_cons ha (va2 hb hc)) fun _ q => ⟨x, lo, hi, rfl, q⟩
theorem FarmX.fresh {H0 H : Hp} {fa : Addr} {b : Bool} {a : Abs} {dx pl ll : Addr} {as : List Addr} (F : FarmX K H0 H fa b a dx pl ll as) {x : Addr} (h : H x = none) : x ∉ as := fun m => by
  obtain ⟨l, dy, e⟩ := F.at m
  rw [h] at e
  cases e
/-- a new lot is put behind all others, its number is answered -/
theorem gives_add {σ : L2.St} {H H0 : Hp} {fa : Addr} {a : Abs} {Q : VK} {t : TA} {D : Ends} {d : Option Abs × Kh328.Ans} {hb : Bool} {n m g k : Nat} (F : FarmIn K H0 H fa true a) (B : Bd k a) (q : Gives K H0 fa Q d) (hD : D.rt = Q) (hs : σ[0]? = some (some (.ref fa))) (h : VA t σ H [.bl hb, .int n, .int m, .int g])
    (e1 : d.1 = some { a with lots := a.lots ++ [⟨hb, n, m, g⟩] }) (e2 : (answered d.2).map V.int = [.int (a.lots.length : Nat)]) : tRet (tLst (tCons (tK (spAddLot K) (tCons (tVar 0) (tCons (tMk (He.ga K "Lot") (spLotInit K) t) tNil))) tNil)) D σ H := by
  obtain ⟨dx, pl, ll, as, F⟩ := F
  have hf := B.few
  refine st_ret_lst (vah1 (valH_kH (PV := fun v H' => v = .int (a.lots.length : Nat) ∧ FarmIn K H0 H' fa true { a with lots := a.lots ++ [⟨hb, n, m, g⟩] }) (vah_cons (val_var hs) (vah1 (valH_lot h))) ?_)) ?_
  · rintro vs H' ⟨r, rfl, v, rfl, x, dy, rfl, hx, hdy, hne, rfl⟩ Q' q'
    have hdy2 : (upd H dy (.own x)) x = none := by
      rw [upd_ne hne.symm]
      exact hx
    have F2 := (F.on (same_new (o := .own x) hdy)).on (same_new (o := lotO K dy ⟨hb, n, m, g⟩) hdy2)
    refine ⟨H0, fa, true, a, dx, pl, ll, as, x, ⟨hb, n, m, g⟩, rfl, F2, ⟨dy, upd_same⟩, F.keep.free hx, F.fresh hx, pace_ne_lots F B.told.len B.few, by omega, fun H3 F3 => q' _ _ ⟨rfl, F3.in⟩⟩
  · rintro vs H' ⟨v, rfl, rfl, ⟨dx', pl', ll', as', F3⟩⟩
    refine ⟨by simp, fun r hr => ?_⟩
    rw [hD]
    refine q _ r ?_ (by rw [e2]; exact upd_same) (F3.keep.free hr)
    rw [e1]
    exact (F3.on (same_new hr)).in
theorem ok_call_eggs (T : Tx K mg) : Kp P w K mg base 3 "call_eggs" (spCall K 1) := by
  obtain ⟨fd, F⟩ := T.d_call_eggs
  refine kp_of (ps := ["farm", "numbers"]) F T.g_call_eggs (fun _ _ _ _ _ _ us hl => match us, hl with | [_, _], _ => rfl) sc_call_eggs (fun vs H Q E h => ?_) (fun cdv A outer s H vs Q E hr h => ?_)
  · exact call_len h
  · obtain ⟨H0, fa, a, k, nl, n, rfl, F, B, hk, hn, hx, q⟩ := open1 h (by decide) rfl
    refine ⟨_, (pss_cons (ps_set (i := 2) sc_call_eggs.nd rfl (Or.inl rfl) (pe_ix ix_list (pv 1) pe_int (fun _ _ => rfl))) (pss_cons (ps_if (pt_not (pt_val (pe_k (ok_within T) (hr.mono (by decide)) rfl (pa_cons (pv 2) (pa_cons pe_int (pa_cons (pe_gint T.i_MOST_IN_LOT rfl) pa_nil)))))) (pss_one (ps_ret (pe_lst (pa_cons (pe_gint T.i_WRONG rfl) pa_nil)))) pss_nil) (pss_cons (ps_if (pt_val (pe_k (ok_is_full T) (hr.mono (by decide)) rfl (pa_cons (pv 0) pa_nil))) (pss_one (ps_ret (pe_lst (pa_cons (pe_gint T.i_NO_ROOM rfl) pa_nil)))) pss_nil) (pss_one (ps_ret (pe_lst (pa_cons (pe_k (ok_add_lot T) (hr.mono (by decide)) rfl (pa_cons (pv 0) (pa_cons (pe_mk T.m_Lot (ok_Lot_init T) (hr.mono (by decide)) rfl T.g_Lot (pa_cons pe_bl (pa_cons (pv 2) (pa_cons pe_int (pa_cons pe_int pa_nil))))) pa_nil))) pa_nil))))))), ?_⟩
    refine q_set (val_ixL (n := 0) (val_var rfl) val_c (SqL.of hn) rfl) ?_
    refine q_when (b := !(decide ((1 : Int) ≤ n) && decide ((n : Int) ≤ 1000000))) (ans_not (ans_val (val_within (val_var rfl) val_c val_c))) (fun e => ?_) (fun e => ?_)
    · have c : n < 1 ∨ Kh328.MOST < n := by
        simp only [Bool.not_eq_true', Bool.and_eq_false_iff, decide_eq_false_iff_not] at e
        show n < 1 ∨ 1000000 < n
        omega
      have ed : doing (some a) (callAt 1 [n]) = (some a, say (-22)) := if_pos c
      exact gives_lst F q rfl (va1 val_c) (by rw [ed]) (by rw [ed]; rfl)
    · have c : ¬ (n < 1 ∨ Kh328.MOST < n) := by
        simp only [Bool.not_eq_false', Bool.and_eq_true, decide_eq_true_eq] at e
        show ¬ (n < 1 ∨ 1000000 < n)
        omega
      refine q_when (b := decide (10 ≤ a.lots.length)) (ans_val (val_k (va1 (val_var rfl)) fun Q q => ⟨H0, fa, true, a, rfl, F, q⟩)) (fun e2 => ?_) (fun e2 => ?_)
      · have ed : doing (some a) (callAt 1 [n]) = (some a, say (-28)) := (if_neg c).trans (if_pos (of_decide_eq_true e2))
        exact gives_lst F q rfl (va1 val_c) (by rw [ed]) (by rw [ed]; rfl)
      · have ed : doing (some a) (callAt 1 [n]) = (some { a with lots := a.lots ++ [⟨false, n, 0, 0⟩] }, say a.lots.length) := (if_neg c).trans (if_neg (of_decide_eq_false e2))
        exact gives_add (m := 0) (g := 0) F B q rfl rfl (va_cons val_c (va_cons (val_var rfl) (va2 val_c val_c))) (by rw [ed]) (by rw [ed]; rfl)
theorem ok_call_stock (T : Tx K mg) : Kp P w K mg base 3 "call_stock" (spCall K 2) := by
  obtain ⟨fd, F⟩ := T.d_call_stock
  refine kp_of (ps := ["farm", "numbers"]) F T.g_call_stock (fun _ _ _ _ _ _ us hl => match us, hl with | [_, _], _ => rfl) sc_call_stock (fun vs H Q E h => ?_) (fun cdv A outer s H vs Q E hr h => ?_)
  · exact call_len h
  · obtain ⟨H0, fa, a, k, nl, n, wt, rfl, F, B, hk, hn, hx, hy, q⟩ := open2 h (by decide) rfl
    refine ⟨_, (pss_cons (ps_set (i := 2) sc_call_stock.nd rfl (Or.inl rfl) (pe_ix ix_list (pv 1) pe_int (fun _ _ => rfl))) (pss_cons (ps_set (i := 3) sc_call_stock.nd rfl (Or.inl rfl) (pe_ix ix_list (pv 1) pe_int (fun _ _ => rfl))) (pss_cons (ps_if (PW.pt (pw_or (pt_not (pt_val (pe_k (ok_within T) (hr.mono (by decide)) rfl (pa_cons (pv 2) (pa_cons pe_int (pa_cons (pe_gint T.i_MOST_IN_LOT rfl) pa_nil)))))) (pw_or1 (pt_not (pt_val (pe_k (ok_within T) (hr.mono (by decide)) rfl (pa_cons (pv 3) (pa_cons pe_int (pa_cons pe_int pa_nil))))))))) (pss_one (ps_ret (pe_lst (pa_cons (pe_gint T.i_WRONG rfl) pa_nil)))) pss_nil) (pss_cons (ps_if (pt_val (pe_k (ok_is_full T) (hr.mono (by decide)) rfl (pa_cons (pv 0) pa_nil))) (pss_one (ps_ret (pe_lst (pa_cons (pe_gint T.i_NO_ROOM rfl) pa_nil)))) pss_nil) (pss_one (ps_ret (pe_lst (pa_cons (pe_k (ok_add_lot T) (hr.mono (by decide)) rfl (pa_cons (pv 0) (pa_cons (pe_mk T.m_Lot (ok_Lot_init T) (hr.mono (by decide)) rfl T.g_Lot (pa_cons pe_bl (pa_cons (pv 2) (pa_cons (pe_op op_mul (pv 2) (pv 3)) (pa_cons pe_int pa_nil))))) pa_nil))) pa_nil)))))))), ?_⟩
    refine q_set (val_ixL (n := 0) (val_var rfl) val_c (SqL.of hn) rfl) ?_
    refine q_set (val_ixL (n := 1) (val_var rfl) val_c (SqL.of hn) rfl) ?_
    refine q_when (b := !(decide ((1 : Int) ≤ n) && decide ((n : Int) ≤ 1000000)) || !(decide ((1 : Int) ≤ wt) && decide ((wt : Int) ≤ 100000))) (ans_or2 (ans_not (ans_val (val_within (val_var rfl) val_c val_c))) (ans_not (ans_val (val_within (val_var rfl) val_c val_c)))) (fun e => ?_) (fun e => ?_)
    · have c : n < 1 ∨ Kh328.MOST < n ∨ wt < 1 ∨ 100000 < wt := by
        simp only [Bool.or_eq_true, Bool.not_eq_true', Bool.and_eq_false_iff, decide_eq_false_iff_not] at e
        show n < 1 ∨ 1000000 < n ∨ wt < 1 ∨ 100000 < wt
        omega
      have ed : doing (some a) (callAt 2 [n, wt]) = (some a, say (-22)) := if_pos c
      exact gives_lst F q rfl (va1 val_c) (by rw [ed]) (by rw [ed]; rfl)
    · have c : ¬ (n < 1 ∨ Kh328.MOST < n ∨ wt < 1 ∨ 100000 < wt) := by
        simp only [Bool.or_eq_false_iff, Bool.not_eq_false', Bool.and_eq_true, decide_eq_true_eq] at e
        show ¬ (n < 1 ∨ 1000000 < n ∨ wt < 1 ∨ 100000 < wt)
        omega
      refine q_when (b := decide (10 ≤ a.lots.length)) (ans_val (val_k (va1 (val_var rfl)) fun Q q => ⟨H0, fa, true, a, rfl, F, q⟩)) (fun e2 => ?_) (fun e2 => ?_)
      · have ed : doing (some a) (callAt 2 [n, wt]) = (some a, say (-28)) := (if_neg c).trans (if_pos (of_decide_eq_true e2))
        exact gives_lst F q rfl (va1 val_c) (by rw [ed]) (by rw [ed]; rfl)
      · have ed : doing (some a) (callAt 2 [n, wt]) = (some { a with lots := a.lots ++ [⟨true, n, n * wt, 0⟩] }, say a.lots.length) := (if_neg c).trans (if_neg (of_decide_eq_false e2))
        exact gives_add (g := 0) F B q rfl rfl (va_cons val_c (va_cons (val_var rfl) (va2 (nval_mulR (val_var rfl) (val_var rfl) (by omega)) val_c))) (by rw [ed]) (by rw [ed]; rfl)
theorem ok_call_day (T : Tx K mg) : Kp P w K mg base 6 "call_day" (spCall K 3) := by
  obtain ⟨fd, F⟩ := T.d_call_day
  refine kp_of (ps := ["farm", "numbers"]) F T.g_call_day (fun _ _ _ _ _ _ us hl => match us, hl with | [_, _], _ => rfl) sc_call_day (fun vs H Q E h => ?_) (fun cdv A outer s H vs Q E hr h => ?_)
  · exact call_len h
  · obtain ⟨H0, fa, a, k, nl, t, f, rfl, F, B, hk, hn, hx, hy, q⟩ := open2 h (by decide) rfl
    refine ⟨_, (pss_cons (ps_set (i := 2) sc_call_day.nd rfl (Or.inl rfl) (pe_ix ix_list (pv 1) pe_int (fun _ _ => rfl))) (pss_cons (ps_set (i := 3) sc_call_day.nd rfl (Or.inl rfl) (pe_ix ix_list (pv 1) pe_int (fun _ _ => rfl))) (pss_cons (ps_if (pt_cmpR op_gt (pv 2) (pe_gint T.i_WARMEST rfl) (nomark _)) (pss_one (ps_ret (pe_lst (pa_cons (pe_gint T.i_WRONG rfl) pa_nil)))) pss_nil) (pss_cons (ps_set (i := 4) sc_call_day.nd rfl (Or.inl rfl) (pe_k (ok_pass_day T) (hr.mono (by decide)) rfl (pa_cons (pv 0) (pa_cons (pv 2) (pa_cons (pv 3) pa_nil))))) (pss_one (ps_ret (pe_lst (pa_cons (pv 4) (pa_cons (pe_k (ok_all_mass T) (hr.mono (by decide)) rfl (pa_cons (pe_fld (pv 0) rfl) pa_nil)) pa_nil))))))))), ?_⟩
    refine q_set (val_ixL (n := 0) (val_var rfl) val_c (SqL.of hn) rfl) ?_
    refine q_set (val_ixL (n := 1) (val_var rfl) val_c (SqL.of hn) rfl) ?_
    refine q_when (b := decide (25 < t)) (ans_gt2 (val_var rfl) val_c (decide_eq_decide.mpr (by omega))) (fun e => ?_) (fun e => ?_)
    · have ed : doing (some a) (callAt 3 [t, f]) = (some a, say (-22)) := if_pos (of_decide_eq_true e)
      exact gives_lst F q rfl (va1 val_c) (by rw [ed]) (by rw [ed]; rfl)
    · have c : ¬ 25 < t := of_decide_eq_false e
      have ed : doing (some a) (callAt 3 [t, f]) = (some (Kh328.passed a t f), ⟨(a.lots.map (Kh328.gets a t f)).sum, [Kh328.massOf (Kh328.passed a t f)]⟩) := if_neg c
      have B2 := passed_bd B t f
      have hf := B2.few
      refine q_setH (PV := fun v H' => v = .int ((a.lots.map (Kh328.gets a t f)).sum : Nat) ∧ FarmIn K H0 H' fa true (Kh328.passed a t f)) (valH_k (va_cons (val_var rfl) (va2 (val_var rfl) (val_var rfl))) fun Q' q' => ⟨H0, fa, true, a, k, t, f, rfl, F, B, by omega, by omega, .inl hy, fun H' F' => q' _ _ ⟨rfl, F'⟩⟩) ?_
      rintro v H1 ⟨rfl, ⟨dx, pl, ll, as, F1⟩⟩
      refine st_ret_lst (vah_cons (val_var rfl) (vah1 (valH_k (P := fun v H' => v = .int (Kh328.massOf (Kh328.passed a t f) : Nat) ∧ Same H1 H') (va1 (farm_val_lots T (val_var rfl) F1.farm)) fun Q' q' => ⟨ll, as, _, rfl, F1.own, by omega, fun H' s => q' _ _ ⟨rfl, s⟩⟩))) ?_
      rintro vs H' ⟨r, rfl, v, rfl, rfl, s⟩
      refine ⟨by simp, fun r hr => ?_⟩
      have F2 := F1.on s
      refine q _ r ?_ (by rw [ed]; exact upd_same) (F2.keep.free hr)
      rw [ed]
      exact (F2.on (same_new hr)).in
end
end Wg

set_option Elab.async false
set_option linter.all false
set_option maxRecDepth 100000
set_option maxHeartbeats 4000000
/-! The calls, one by one: die, split, join, look, needs, begin. -/
namespace Wg
open PySem PySem.Spec PyProof.Rows L2
open Kh328 (Lot Abs doing say)
section
variable {P : Program} {w : World} {K : PySem.W.Frag} {mg : Str → Option Value} {base : Heap}
theorem val_ifE {σ : L2.St} {H : Hp} {t : TT} {ta tb : TE} {b : Bool} {v : V} (h : Ans t σ H b) (h1 : b = true → Val ta σ H v) (h2 : b = false → Val tb σ H v) : Val (tIf t ta tb) σ H v := fun Q q => h _ (by
  cases b with
  | true => exact iteT (h1 rfl Q q)
  | false => exact iteF (h2 rfl Q q))
theorem val_lacks {σ : L2.St} {H H0 : Hp} {ta tb : TE} {fa : Addr} {a : Abs} {i : Nat} (F : FarmIn K H0 H fa true a) (ha : Val ta σ H (.ref fa)) (hb : Val tb σ H (.int i)) : Val (tK (spLacks K) (tCons ta (tCons tb tNil))) σ H (.bl (decide (a.lots.length ≤ i))) :=
  val_k (va2 ha hb) fun _ q => ⟨H0, fa, true, a, i, rfl, F, q⟩
theorem no_lot {a : Abs} {i : Nat} (h : decide (a.lots.length ≤ i) = true) : a.lots[i]? = none := List.getElem?_eq_none_iff.mpr (of_decide_eq_true h)
theorem a_lot {a : Abs} {i : Nat} (h : decide (a.lots.length ≤ i) = false) : ∃ l, a.lots[i]? = some l := ⟨_, List.getElem?_eq_getElem (Nat.lt_of_not_le (of_decide_eq_false h))⟩
theorem ok_call_look (T : Tx K mg) : Kp P w K mg base 2 "call_look" (spCall K 7) := by
  obtain ⟨fd, F⟩ := T.d_call_look
  refine kp_of (ps := ["farm", "numbers"]) F T.g_call_look (fun _ _ _ _ _ _ us hl => match us, hl with | [_, _], _ => rfl) sc_call_look (fun vs H Q E h => ?_) (fun cdv A outer s H vs Q E hr h => ?_)
  · exact call_len h
  · obtain ⟨H0, fa, a, k, nl, i, rfl, F, B, hk, hn, hx, q⟩ := open1 h (by decide) rfl
    refine ⟨_, (pss_cons (ps_if (pt_val (pe_k (ok_lacks_lot T) (hr.mono (by decide)) rfl (pa_cons (pv 0) (pa_cons (pe_ix ix_list (pv 1) pe_int (fun _ _ => rfl)) pa_nil)))) (pss_one (ps_ret (pe_lst (pa_cons (pe_gint T.i_NO_LOT rfl) pa_nil)))) pss_nil) (pss_cons (ps_set (i := 2) sc_call_look.nd rfl (Or.inl rfl) (pe_ix ix_list (pe_fld (pv 0) rfl) (pe_ix ix_list (pv 1) pe_int (fun _ _ => rfl)) (fun _ _ => rfl))) (pss_cons (ps_set (i := 3) sc_call_look.nd rfl (Or.inl rfl) (pe_ifExp (pt_val (pe_fld (pv 2) rfl)) pe_int pe_int)) (pss_one (ps_ret (pe_lst (pa_cons (pv 3) (pa_cons (pe_fld (pv 2) rfl) (pa_cons (pe_fld (pv 2) rfl) (pa_cons (pe_k (ok_each_weighs T) (hr.mono (by decide)) rfl (pa_cons (pv 2) pa_nil)) (pa_cons (pe_fld (pv 2) rfl) pa_nil))))))))))), ?_⟩
    refine q_when (b := decide (a.lots.length ≤ i)) (ans_val (val_lacks F (val_var rfl) (val_ixL (n := 0) (val_var rfl) val_c (SqL.of hn) rfl))) (fun e => ?_) (fun e => ?_)
    · have ed : doing (some a) (callAt 7 [i]) = (some a, say (-2)) := by
        show (match a.lots[i]? with | none => _ | some l => _) = _
        rw [no_lot e]
      exact gives_lst F q rfl (va1 val_c) (by rw [ed]) (by rw [ed]; rfl)
    · obtain ⟨l, hl⟩ := a_lot e
      have ed : doing (some a) (callAt 7 [i]) = (some a, ⟨if l.hatched then 1 else 0, [l.n, l.mass, l.each, l.warmth]⟩) := by
        show (match a.lots[i]? with | none => _ | some l => _) = _
        rw [hl]
      have F0 := F
      obtain ⟨dx, pl, ll, as, F⟩ := F
      obtain ⟨x, dy, h1, h2, h3⟩ := F.addr hl
      have fit := bd_fit (B.lots l (List.mem_of_getElem? hl)) (k := k) (by omega)
      refine q_set (val_ixL (n := i) (farm_val_lots T (val_var rfl) F.farm) (val_ixL (n := 0) (val_var rfl) val_c (SqL.of hn) rfl) (SqL.of F.list) h3) ?_
      refine q_set (val_ifE (v := .int (if l.hatched then 1 else 0)) (ans_val (val_hatched T (val_var rfl) h2)) (fun e2 => ?_) (fun e2 => ?_)) ?_
      · rw [e2]
        exact val_c
      · rw [e2]
        exact val_c
      · refine gives_lst F0 q rfl (va_cons (val_var rfl) (va_cons (val_many T (val_var rfl) h2) (va_cons (val_mass T (val_var rfl) h2) (va2 (val_k (va1 (val_var rfl)) fun Q' q' => ⟨x, l, 40 + k, rfl, ⟨dy, h2⟩, fit, q'⟩) (val_degrees T (val_var rfl) h2))))) (by rw [ed]) (by rw [ed]; rfl) (by simp)
theorem ok_call_needs (T : Tx K mg) : Kp P w K mg base 4 "call_needs" (spCall K 8) := by
  obtain ⟨fd, F⟩ := T.d_call_needs
  refine kp_of (ps := ["farm", "numbers"]) F T.g_call_needs (fun _ _ _ _ _ _ us hl => match us, hl with | [_, _], _ => rfl) sc_call_needs (fun vs H Q E h => ?_) (fun cdv A outer s H vs Q E hr h => ?_)
  · exact call_len h
  · obtain ⟨H0, fa, a, k, nl, t, rfl, F, B, hk, hn, hx, q⟩ := open1 h (by decide) rfl
    refine ⟨_, (pss_cons (ps_set (i := 2) sc_call_needs.nd rfl (Or.inl rfl) (pe_ix ix_list (pv 1) pe_int (fun _ _ => rfl))) (pss_cons (ps_if (pt_cmpR op_gt (pv 2) (pe_gint T.i_WARMEST rfl) (nomark _)) (pss_one (ps_ret (pe_lst (pa_cons (pe_gint T.i_WRONG rfl) pa_nil)))) pss_nil) (pss_one (ps_ret (pe_lst (pa_cons (pe_callB (cr_sum rfl) (by rfl) T.b_sum (by decide +kernel) (pa_cons (pe_k (ok_needs_of_lots T) (hr.mono (by decide)) rfl (pa_cons (pv 0) (pa_cons (pe_fld (pv 0) rfl) (pa_cons (pv 2) pa_nil)))) pa_nil)) pa_nil)))))), ?_⟩
    refine q_set (val_ixL (n := 0) (val_var rfl) val_c (SqL.of hn) rfl) ?_
    refine q_when (b := decide (25 < t)) (ans_gt2 (val_var rfl) val_c (decide_eq_decide.mpr (by omega))) (fun e => ?_) (fun e => ?_)
    · have ed : doing (some a) (callAt 8 [t]) = (some a, say (-22)) := if_pos (of_decide_eq_true e)
      exact gives_lst F q rfl (va1 val_c) (by rw [ed]) (by rw [ed]; rfl)
    · have c : ¬ 25 < t := of_decide_eq_false e
      have ed : doing (some a) (callAt 8 [t]) = (some a, say (Kh328.needs a t)) := if_neg c
      have F0 := F
      obtain ⟨dx, pl, ll, as, F⟩ := F
      refine st_ret_lst (vah1 (valH_sum (ns := a.lots.map (Kh328.need a t)) (valH_k (P := fun v H' => ∃ D, v = .ref D ∧ H D = none ∧ H' = upd H D (.lst (nV (a.lots.map (Kh328.need a t))))) (va_cons (val_var rfl) (va2 (farm_val_lots T (val_var rfl) F.farm) (val_var rfl))) fun Q' q' => ⟨fa, a, dx, _, ll, as, k, t, rfl, F.rul, F.own, B, by omega, by omega, fun D hD => q' _ _ ⟨D, rfl, hD, rfl⟩⟩) ?_)) ?_
      · rintro r H' ⟨D, rfl, hD, rfl⟩
        exact ⟨D, rfl, SqL.of upd_same⟩
      · rintro vs H' ⟨v, rfl, rfl, r0, D, rfl, hD, rfl⟩
        refine ⟨by simp, fun r hr => ?_⟩
        have F2 := F.on (same_new (o := .lst (nV (a.lots.map (Kh328.need a t)))) hD)
        refine q _ r ?_ (by rw [ed]; exact upd_same) (F2.keep.free hr)
        rw [ed]
        exact (F2.on (same_new hr)).in
/-- the heap behind take_part: the lot i is what is left -/
theorem FarmX.parted {H0 H H' : Hp} {fa : Addr} {b : Bool} {a : Abs} {dx pl ll : Addr} {as : List Addr} (F : FarmX K H0 H fa b a dx pl ll as) {i : Nat} {x dy : Addr} {l' : Lot} (h1 : as[i]? = some x) (h2 : H' x = some (lotO K dy l')) (k : ∀ b o, H b = some o → b ≠ x → H' b = some o) :
    FarmX K H0 H' fa b { a with lots := a.lots.set i l' } dx pl ll as :=
  (F.setLot (dy := dy) (l' := l') h1).on fun c o e => by
    by_cases z : c = x
    · rw [z, upd_same] at e
      rw [z, h2]
      exact e
    · rw [upd_ne z] at e
      exact k c o e z
theorem ok_call_die (T : Tx K mg) : Kp P w K mg base 4 "call_die" (spCall K 4) := by
  obtain ⟨fd, F⟩ := T.d_call_die
  refine kp_of (ps := ["farm", "numbers"]) F T.g_call_die (fun _ _ _ _ _ _ us hl => match us, hl with | [_, _], _ => rfl) sc_call_die (fun vs H Q E h => ?_) (fun cdv A outer s H vs Q E hr h => ?_)
  · exact call_len h
  · obtain ⟨H0, fa, a, k, nl, i, n, rfl, F, B, hk, hn, hx, hy, q⟩ := open2 h (by decide) rfl
    refine ⟨_, (pss_cons (ps_set (i := 2) sc_call_die.nd rfl (Or.inl rfl) (pe_ix ix_list (pv 1) pe_int (fun _ _ => rfl))) (pss_cons (ps_if (pt_val (pe_k (ok_lacks_lot T) (hr.mono (by decide)) rfl (pa_cons (pv 0) (pa_cons (pe_ix ix_list (pv 1) pe_int (fun _ _ => rfl)) pa_nil)))) (pss_one (ps_ret (pe_lst (pa_cons (pe_gint T.i_NO_LOT rfl) pa_nil)))) pss_nil) (pss_cons (ps_set (i := 3) sc_call_die.nd rfl (Or.inl rfl) (pe_ix ix_list (pe_fld (pv 0) rfl) (pe_ix ix_list (pv 1) pe_int (fun _ _ => rfl)) (fun _ _ => rfl))) (pss_cons (ps_if (pt_cmpR op_lt (pe_fld (pv 3) rfl) (pv 2) (nomark _)) (pss_one (ps_ret (pe_lst (pa_cons (pe_gint T.i_TOO_FEW rfl) pa_nil)))) pss_nil) (pss_cons (ps_set (i := 4) sc_call_die.nd rfl (Or.inl rfl) (pe_k (ok_take_part T) (hr.mono (by decide)) rfl (pa_cons (pv 3) (pa_cons (pv 2) pa_nil)))) (pss_cons (ps_fld (pv 0) (pe_op op_add (pe_fld (pv 0) rfl) (pe_fld (pv 4) rfl)) rfl) (pss_cons (ps_fld (pv 0) (pe_op op_add (pe_fld (pv 0) rfl) (pe_fld (pv 4) rfl)) rfl) (pss_one (ps_ret (pe_lst (pa_cons (pe_fld (pv 3) rfl) pa_nil))))))))))), ?_⟩
    refine q_set (val_ixL (n := 1) (val_var rfl) val_c (SqL.of hn) rfl) ?_
    refine q_when (b := decide (a.lots.length ≤ i)) (ans_val (val_lacks F (val_var rfl) (val_ixL (n := 0) (val_var rfl) val_c (SqL.of hn) rfl))) (fun e => ?_) (fun e => ?_)
    · have ed : doing (some a) (callAt 4 [i, n]) = (some a, say (-2)) := by
        show (match a.lots[i]? with | none => _ | some l => _) = _
        rw [no_lot e]
      exact gives_lst F q rfl (va1 val_c) (by rw [ed]) (by rw [ed]; rfl)
    · obtain ⟨l, hl⟩ := a_lot e
      have F0 := F
      obtain ⟨dx, pl, ll, as, F⟩ := F
      obtain ⟨x, dy, h1, h2, h3⟩ := F.addr hl
      have Bl := B.lots l (List.mem_of_getElem? hl)
      refine q_set (val_ixL (n := i) (farm_val_lots T (val_var rfl) F.farm) (val_ixL (n := 0) (val_var rfl) val_c (SqL.of hn) rfl) (SqL.of F.list) h3) ?_
      refine q_when (b := decide (l.n < n)) (ans_lt (val_many T (val_var rfl) h2) (val_var rfl) (decide_eq_decide.mpr (by omega))) (fun e2 => ?_) (fun e2 => ?_)
      · have ed : doing (some a) (callAt 4 [i, n]) = (some a, say (-12)) := by
          show (match a.lots[i]? with | none => _ | some l => if l.n < n then _ else _) = _
          rw [hl]
          exact if_pos (of_decide_eq_true e2)
        exact gives_lst F0 q rfl (va1 val_c) (by rw [ed]) (by rw [ed]; rfl)
      · have c : ¬ l.n < n := of_decide_eq_false e2
        have ed : doing (some a) (callAt 4 [i, n]) = (some { a with lots := a.lots.set i (Kh328.rest l n), dead := a.dead + n, deadMass := a.deadMass + (Kh328.part l n).mass }, say (l.n - n : Nat)) := by
          show (match a.lots[i]? with | none => _ | some l => if l.n < n then _ else _) = _
          rw [hl]
          exact if_neg c
        refine q_setH (PV := fun v H' => ∃ y dz, v = .ref y ∧ H' y = some (lotO K dz (Kh328.part l n)) ∧ H' x = some (lotO K dy (Kh328.rest l n)) ∧ H y = none ∧ FarmX K H0 H' fa true { a with lots := a.lots.set i (Kh328.rest l n) } dx pl ll as) (valH_k (va2 (val_var rfl) (val_var rfl)) fun Q' q' =>
          ⟨x, dy, l, 40 + k, n, rfl, h2, bd_fit Bl (by omega), by omega, hy, fun y dz H1 hy0 hz0 hy1 hx1 kp => q' _ _ ⟨y, dz, rfl, hy1, hx1, hy0, F.parted h1 hx1 kp⟩⟩) ?_
        rintro v H1 ⟨y, dz, rfl, hy1, hx1, hy0, F1⟩
        have nyf : y ≠ fa := ne_of hy1 F1.farm lot_ne_farm
        have nxf : x ≠ fa := ne_of hx1 F1.farm lot_ne_farm
        refine farm_q_died T (nval_add (farm_val_died T (val_var rfl) F1.farm) (val_many T (val_var rfl) hy1)) (val_var rfl) F1.farm ?_
        refine farm_q_died_mass T (nval_add (farm_val_died_mass T (val_var rfl) upd_same) (val_mass T (val_var rfl) (by rw [upd_ne nyf]; exact hy1))) (val_var rfl) upd_same ?_
        rw [upd_upd]
        have F2 := F1.put (b' := true) (a' := { a with lots := a.lots.set i (Kh328.rest l n), dead := a.dead + n, deadMass := a.deadMass + (Kh328.part l n).mass }) rfl rfl
        refine st_ret_lst (vah_of (va1 (val_many T (val_var rfl) (by rw [upd_ne nxf]; exact hx1)))) ?_
        rintro _ _ ⟨rfl, rfl⟩
        refine ⟨by simp, fun r hr => ?_⟩
        refine q _ r ?_ (by rw [ed]; exact upd_same) (F2.keep.free hr)
        rw [ed]
        exact (F2.on (same_new hr)).in
theorem ok_call_split (T : Tx K mg) : Kp P w K mg base 4 "call_split" (spCall K 5) := by
  obtain ⟨fd, F⟩ := T.d_call_split
  refine kp_of (ps := ["farm", "numbers"]) F T.g_call_split (fun _ _ _ _ _ _ us hl => match us, hl with | [_, _], _ => rfl) sc_call_split (fun vs H Q E h => ?_) (fun cdv A outer s H vs Q E hr h => ?_)
  · exact call_len h
  · obtain ⟨H0, fa, a, k, nl, i, n, rfl, F, B, hk, hn, hx, hy, q⟩ := open2 h (by decide) rfl
    refine ⟨_, (pss_cons (ps_set (i := 2) sc_call_split.nd rfl (Or.inl rfl) (pe_ix ix_list (pv 1) pe_int (fun _ _ => rfl))) (pss_cons (ps_if (pt_val (pe_k (ok_lacks_lot T) (hr.mono (by decide)) rfl (pa_cons (pv 0) (pa_cons (pe_ix ix_list (pv 1) pe_int (fun _ _ => rfl)) pa_nil)))) (pss_one (ps_ret (pe_lst (pa_cons (pe_gint T.i_NO_LOT rfl) pa_nil)))) pss_nil) (pss_cons (ps_set (i := 3) sc_call_split.nd rfl (Or.inl rfl) (pe_ix ix_list (pe_fld (pv 0) rfl) (pe_ix ix_list (pv 1) pe_int (fun _ _ => rfl)) (fun _ _ => rfl))) (pss_cons (ps_if (pt_cmpR op_eq (pv 2) pe_int (nomark _)) (pss_one (ps_ret (pe_lst (pa_cons (pe_gint T.i_WRONG rfl) pa_nil)))) pss_nil) (pss_cons (ps_if (pt_cmpR op_lt (pe_fld (pv 3) rfl) (pv 2) (nomark _)) (pss_one (ps_ret (pe_lst (pa_cons (pe_gint T.i_TOO_FEW rfl) pa_nil)))) pss_nil) (pss_cons (ps_if (pt_val (pe_k (ok_is_full T) (hr.mono (by decide)) rfl (pa_cons (pv 0) pa_nil))) (pss_one (ps_ret (pe_lst (pa_cons (pe_gint T.i_NO_ROOM rfl) pa_nil)))) pss_nil) (pss_one (ps_ret (pe_lst (pa_cons (pe_k (ok_add_lot T) (hr.mono (by decide)) rfl (pa_cons (pv 0) (pa_cons (pe_k (ok_take_part T) (hr.mono (by decide)) rfl (pa_cons (pv 3) (pa_cons (pv 2) pa_nil))) pa_nil))) pa_nil)))))))))), ?_⟩
    have hf := B.few
    refine q_set (val_ixL (n := 1) (val_var rfl) val_c (SqL.of hn) rfl) ?_
    refine q_when (b := decide (a.lots.length ≤ i)) (ans_val (val_lacks F (val_var rfl) (val_ixL (n := 0) (val_var rfl) val_c (SqL.of hn) rfl))) (fun e => ?_) (fun e => ?_)
    · have ed : doing (some a) (callAt 5 [i, n]) = (some a, say (-2)) := by
        show (match a.lots[i]? with | none => _ | some l => _) = _
        rw [no_lot e]
      exact gives_lst F q rfl (va1 val_c) (by rw [ed]) (by rw [ed]; rfl)
    · obtain ⟨l, hl⟩ := a_lot e
      have F0 := F
      obtain ⟨dx, pl, ll, as, F⟩ := F
      obtain ⟨x, dy, h1, h2, h3⟩ := F.addr hl
      have Bl := B.lots l (List.mem_of_getElem? hl)
      have es : doing (some a) (callAt 5 [i, n]) = (if n < 1 then (some a, say (-22)) else if l.n < n then (some a, say (-12)) else if Kh328.LOTS ≤ a.lots.length then (some a, say (-28)) else (some { a with lots := (a.lots.set i (Kh328.rest l n)) ++ [Kh328.part l n] }, say a.lots.length)) := by
        show (match a.lots[i]? with | none => _ | some l => if n < 1 then _ else _) = _
        rw [hl] <;> rfl
      refine q_set (val_ixL (n := i) (farm_val_lots T (val_var rfl) F.farm) (val_ixL (n := 0) (val_var rfl) val_c (SqL.of hn) rfl) (SqL.of F.list) h3) ?_
      refine q_when (b := decide (n = 0)) (ans_eqI (val_var rfl) val_c (decide_eq_decide.mpr (by omega))) (fun e1 => ?_) (fun e1 => ?_)
      · have ed := es.trans (if_pos (show n < 1 by have := of_decide_eq_true e1; omega))
        exact gives_lst F0 q rfl (va1 val_c) (by rw [ed]) (by rw [ed]; rfl)
      · have c1 : ¬ n < 1 := by have := of_decide_eq_false e1; omega
        refine q_when (b := decide (l.n < n)) (ans_lt (val_many T (val_var rfl) h2) (val_var rfl) (decide_eq_decide.mpr (by omega))) (fun e2 => ?_) (fun e2 => ?_)
        · have ed := (es.trans (if_neg c1)).trans (if_pos (of_decide_eq_true e2))
          exact gives_lst F0 q rfl (va1 val_c) (by rw [ed]) (by rw [ed]; rfl)
        · have c2 : ¬ l.n < n := of_decide_eq_false e2
          refine q_when (b := decide (10 ≤ a.lots.length)) (ans_val (val_k (va1 (val_var rfl)) fun Q q => ⟨H0, fa, true, a, rfl, F0, q⟩)) (fun e3 => ?_) (fun e3 => ?_)
          · have ed := ((es.trans (if_neg c1)).trans (if_neg c2)).trans (if_pos (of_decide_eq_true e3))
            exact gives_lst F0 q rfl (va1 val_c) (by rw [ed]) (by rw [ed]; rfl)
          · have ed := ((es.trans (if_neg c1)).trans (if_neg c2)).trans (if_neg (of_decide_eq_false e3))
            refine st_ret_lst (vah1 (valH_kH (PV := fun v H' => v = .int (a.lots.length : Nat) ∧ FarmIn K H0 H' fa true { a with lots := (a.lots.set i (Kh328.rest l n)) ++ [Kh328.part l n] }) (vah_cons (val_var rfl) (vah1 (valH_k (P := fun v H' => ∃ y dz, v = .ref y ∧ H y = none ∧ H' y = some (lotO K dz (Kh328.part l n)) ∧ FarmX K H0 H' fa true { a with lots := a.lots.set i (Kh328.rest l n) } dx pl ll as) (va2 (val_var rfl) (val_var rfl)) fun Q' q' =>
              ⟨x, dy, l, 40 + k, n, rfl, h2, bd_fit Bl (by omega), by omega, hy, fun y dz H1 hy0 hz0 hy1 hx1 kp => q' _ _ ⟨y, dz, rfl, hy0, hy1, F.parted h1 hx1 kp⟩⟩))) ?_)) ?_
            · rintro vs H' ⟨r, rfl, v, rfl, y, dz, rfl, hy0, hy1, F1⟩ Q' q'
              refine ⟨H0, fa, true, _, dx, pl, ll, as, y, _, rfl, F1, ⟨dz, hy1⟩, F.keep.free hy0, F.fresh hy0, pace_ne_lots F B.told.len B.few, ?_, fun H3 F3 => q' _ _ ⟨?_, F3.in⟩⟩
              · show (a.lots.set i _).length ≤ 1000
                rw [List.length_set]
                omega
              · show V.int ((a.lots.set i _).length : Nat) = _
                rw [List.length_set]
            · rintro vs H' ⟨v, rfl, rfl, ⟨dx', pl', ll', as', F3⟩⟩
              refine ⟨by simp, fun r hr => ?_⟩
              refine q _ r ?_ (by rw [ed]; exact upd_same) (F3.keep.free hr)
              rw [ed]
              exact (F3.on (same_new hr)).in
end
end Wg

set_option Elab.async false
set_option linter.all false
set_option maxRecDepth 100000
set_option maxHeartbeats 4000000
/-! The calls, one by one: could, until, eats, hatches, ahead, lasts, best, sums, state. -/
namespace Wg
open PySem PySem.Spec PyProof.Rows L2
open Kh328 (Lot Abs doing say)
/-- the refusal that is due for a lot and a warmth, or 0 -/
def refOf (a : Abs) (i t : Nat) : Int := if a.lots.length ≤ i then -2 else if 25 < t then -22 else 0
def spRefusal (K : PySem.W.Frag) : Sp := fun vs H Q _ => ∃ (H0 : Hp) (fa : Addr) (a : Abs) (i t : Nat), vs = [.ref fa, .int i, .int t] ∧ FarmIn K H0 H fa true a ∧ Q (.int (refOf a i t)) H
theorem ref_no {a : Abs} {i t : Nat} (h : decide (refOf a i t < 0) = false) : i < a.lots.length ∧ t ≤ 25 ∧ ∃ l, a.lots[i]? = some l := by
  have h0 : ¬ refOf a i t < 0 := of_decide_eq_false h
  unfold refOf at h0
  by_cases c1 : a.lots.length ≤ i
  · rw [if_pos c1] at h0
    exact absurd (show (-2 : Int) < 0 by decide) h0
  · rw [if_neg c1] at h0
    by_cases c2 : 25 < t
    · rw [if_pos c2] at h0
      exact absurd (show (-22 : Int) < 0 by decide) h0
    · exact ⟨by omega, by omega, _, List.getElem?_eq_getElem (by omega)⟩
theorem ref_yes {a : Abs} {i t : Nat} {X : Lot → Option Abs × Kh328.Ans} (h : decide (refOf a i t < 0) = true) : (match a.lots[i]? with | none => (some a, say (-2)) | some l => if Kh328.WARM < t then (some a, say (-22)) else X l) = (some a, say (refOf a i t)) := by
  have h0 : refOf a i t < 0 := of_decide_eq_true h
  unfold refOf at h0 ⊢
  by_cases c1 : a.lots.length ≤ i
  · rw [List.getElem?_eq_none_iff.mpr c1, if_pos c1]
  · rw [if_neg c1] at h0 ⊢
    by_cases c2 : 25 < t
    · rw [List.getElem?_eq_getElem (by omega), if_pos c2]
      exact if_pos c2
    · rw [if_neg c2] at h0
      exact absurd h0 (by decide)
theorem ref_on {a : Abs} {i t : Nat} {l : Lot} {X : Lot → Option Abs × Kh328.Ans} (hl : a.lots[i]? = some l) (ht : t ≤ 25) : (match a.lots[i]? with | none => (some a, say (-2)) | some l => if Kh328.WARM < t then (some a, say (-22)) else X l) = X l := by
  rw [hl]
  exact if_neg (by show ¬ 25 < t; omega)
theorem could_is {k : Nat} {a : Abs} {l : Lot} (B : LotBd k l) (t : Nat) : grow l (a.pace.getD t 0) = Kh328.could a t l := by
  unfold Kh328.could grow
  cases e : l.hatched with
  | true => rfl
  | false => rw [B.egg e, if_neg Bool.false_ne_true, Nat.zero_mul, Nat.zero_div]
section
variable {P : Program} {w : World} {K : PySem.W.Frag} {mg : Str → Option Value} {base : Heap}
theorem ok_refusal_of (T : Tx K mg) : Kp P w K mg base 2 "refusal_of" (spRefusal K) := by
  obtain ⟨fd, F⟩ := T.d_refusal_of
  refine kp_of (ps := ["farm", "i", "warmth"]) F T.g_refusal_of (fun _ _ _ _ _ _ us hl => match us, hl with | [_, _, _], _ => rfl) sc_refusal_of (fun vs H Q E h => ?_) (fun cdv A outer s H vs Q E hr h => ?_)
  · obtain ⟨H0, fa, a, i, t, rfl, _⟩ := h
    rfl
  · obtain ⟨H0, fa, a, i, t, rfl, F, q⟩ := h
    refine ⟨_, (pss_cons (ps_if (pt_val (pe_k (ok_lacks_lot T) (hr.mono (by decide)) rfl (pa_cons (pv 0) (pa_cons (pv 1) pa_nil)))) (pss_one (ps_ret (pe_gint T.i_NO_LOT rfl))) pss_nil) (pss_cons (ps_if (pt_cmpR op_gt (pv 2) (pe_gint T.i_WARMEST rfl) (nomark _)) (pss_one (ps_ret (pe_gint T.i_WRONG rfl))) pss_nil) (pss_one (ps_ret pe_int)))), ?_⟩
    unfold refOf at q
    refine q_when (b := decide (a.lots.length ≤ i)) (ans_val (val_lacks F (val_var rfl) (val_var rfl))) (fun e => ?_) (fun e => ?_)
    · rw [if_pos (of_decide_eq_true e)] at q
      exact st_ret val_c q
    · rw [if_neg (of_decide_eq_false e)] at q
      refine q_when (b := decide (25 < t)) (ans_gt2 (val_var rfl) val_c (decide_eq_decide.mpr (by omega))) (fun e2 => ?_) (fun e2 => ?_)
      · rw [if_pos (of_decide_eq_true e2)] at q
        exact st_ret val_c q
      · rw [if_neg (of_decide_eq_false e2)] at q
        exact st_ret val_c q
theorem val_refusal {σ : L2.St} {H H0 : Hp} {ta tb tc : TE} {fa : Addr} {a : Abs} {i t : Nat} (F : FarmIn K H0 H fa true a) (ha : Val ta σ H (.ref fa)) (hb : Val tb σ H (.int i)) (hc : Val tc σ H (.int t)) : Val (tK (spRefusal K) (tCons ta (tCons tb (tCons tc tNil)))) σ H (.int (refOf a i t)) :=
  val_k (va_cons ha (va2 hb hc)) fun _ q => ⟨H0, fa, a, i, t, rfl, F, q⟩
theorem ok_call_could (T : Tx K mg) : Kp P w K mg base 3 "call_could" (spCall K 9) := by
  obtain ⟨fd, F⟩ := T.d_call_could
  refine kp_of (ps := ["farm", "numbers"]) F T.g_call_could (fun _ _ _ _ _ _ us hl => match us, hl with | [_, _], _ => rfl) sc_call_could (fun vs H Q E h => ?_) (fun cdv A outer s H vs Q E hr h => ?_)
  · exact call_len h
  · obtain ⟨H0, fa, a, k, nl, i, t, rfl, F, B, hk, hn, hx, hy, q⟩ := open2 h (by decide) rfl
    refine ⟨_, (pss_cons (ps_set (i := 2) sc_call_could.nd rfl (Or.inl rfl) (pe_ix ix_list (pv 1) pe_int (fun _ _ => rfl))) (pss_cons (ps_set (i := 3) sc_call_could.nd rfl (Or.inl rfl) (pe_k (ok_refusal_of T) (hr.mono (by decide)) rfl (pa_cons (pv 0) (pa_cons (pe_ix ix_list (pv 1) pe_int (fun _ _ => rfl)) (pa_cons (pv 2) pa_nil))))) (pss_cons (ps_if (pt_cmpR op_lt (pv 3) pe_int (nomark _)) (pss_one (ps_ret (pe_lst (pa_cons (pv 3) pa_nil)))) pss_nil) (pss_cons (ps_set (i := 4) sc_call_could.nd rfl (Or.inl rfl) (pe_k (ok_could_grow T) (hr.mono (by decide)) rfl (pa_cons (pe_ix ix_list (pe_fld (pv 0) rfl) (pe_ix ix_list (pv 1) pe_int (fun _ _ => rfl)) (fun _ _ => rfl)) (pa_cons (pe_ix ix_list (pe_fld (pv 0) rfl) (pv 2) (fun _ _ => rfl)) pa_nil)))) (pss_one (ps_ret (pe_lst (pa_cons (pv 4) (pa_cons (pe_k (ok_needed_feed T) (hr.mono (by decide)) rfl (pa_cons (pv 4) (pa_cons (pe_fld (pv 0) rfl) pa_nil))) pa_nil))))))))), ?_⟩
    refine q_set (val_ixL (n := 1) (val_var rfl) val_c (SqL.of hn) rfl) ?_
    refine q_set (val_refusal (i := i) (t := t) F (val_var rfl) (val_ixL (n := 0) (val_var rfl) val_c (SqL.of hn) rfl) (val_var rfl)) ?_
    refine q_when (b := decide (refOf a i t < 0)) (ans_lt (val_var rfl) val_c rfl) (fun e => ?_) (fun e => ?_)
    · have ed : doing (some a) (callAt 9 [i, t]) = (some a, say (refOf a i t)) := ref_yes e
      exact gives_lst F q rfl (va1 (val_var rfl)) (by rw [ed]) (by rw [ed]; rfl) (by simp)
    · obtain ⟨hi, ht, l, hl⟩ := ref_no e
      have ed : doing (some a) (callAt 9 [i, t]) = (some a, ⟨Kh328.could a t l, [Kh328.need a t l]⟩) := ref_on hl ht
      have F0 := F
      obtain ⟨dx, pl, ll, as, F⟩ := F
      obtain ⟨x, dy, h1, h2, h3⟩ := F.addr hl
      have Bl := B.lots l (List.mem_of_getElem? hl)
      refine q_set (v := .int (Kh328.could a t l : Nat)) (val_k (va2 (val_ixL (n := i) (farm_val_lots T (val_var rfl) F.farm) (val_ixL (n := 0) (val_var rfl) val_c (SqL.of hn) rfl) (SqL.of F.list) h3) (val_ixL (farm_val_pace T (val_var rfl) F.farm) (val_var rfl) (SqL.of F.pace) (pace_at B.told ht))) fun Q' q' => ⟨x, l, 40 + k, a.pace.getD t 0, rfl, ⟨dy, h2⟩, bd_fit Bl (by omega), B.told.at t, ?_⟩) ?_
      · rw [could_is Bl]
        exact q'
      · exact gives_lst F0 q rfl (va2 (val_var rfl) (val_k (v := .int (Kh328.need a t l : Nat)) (va2 (val_var rfl) (farm_val_conv T (val_var rfl) F.farm)) fun Q' q' => ⟨_, a.conv, rfl, B.told.conv.2, q'⟩)) (by rw [ed]) (by rw [ed]; rfl) (by simp)
theorem valH_till {σ : L2.St} {H H0 : Hp} {ta tb tc td : TE} {fa : Addr} {a : Abs} {k i wt t : Nat} (F : FarmIn K H0 H fa true a) (B : Bd k a) (hk : k ≤ 200) (hi : i < a.lots.length) (ht : t ≤ 25) (ha : Val ta σ H (.ref fa)) (hb : Val tb σ H (.int i)) (hc : Val tc σ H (.int wt)) (hd : Val td σ H (.int t)) :
    ValH (tK (spTill K) (tCons ta (tCons tb (tCons tc (tCons td tNil))))) σ H (fun v H' => FarmIn K H0 H' fa true a ∧ ((v = .non ∧ firstW a i wt t = none) ∨ ∃ n p, v = .ref p ∧ firstW a i wt t = some n ∧ H' p = some (.tup [.int (n : Nat), .int (eats t n a : Nat)]))) :=
  valH_k (va_cons ha (va_cons hb (va2 hc hd))) fun Q' q' => by
    have go : ∀ H', Same H H' → FarmIn K H0 H' fa true a := fun H' s => by
      obtain ⟨dx, pl, ll, as, F⟩ := F
      exact (F.on s).in
    exact ⟨H0, fa, true, a, k, i, wt, t, rfl, F, B, hk, ht, hi, fun e H' s => q' _ _ ⟨go H' s, .inl ⟨rfl, e⟩⟩, fun n e H' p s hp => q' _ _ ⟨go H' s, .inr ⟨n, p, rfl, e, hp⟩⟩⟩
theorem ok_call_until (T : Tx K mg) : Kp P w K mg base 7 "call_until" (spCall K 10) := by
  obtain ⟨fd, F⟩ := T.d_call_until
  refine kp_of (ps := ["farm", "numbers"]) F T.g_call_until (fun _ _ _ _ _ _ us hl => match us, hl with | [_, _], _ => rfl) sc_call_until (fun vs H Q E h => ?_) (fun cdv A outer s H vs Q E hr h => ?_)
  · exact call_len h
  · obtain ⟨H0, fa, a, k, nl, i, wt, t, rfl, F, B, hk, hn, q⟩ := open3 h (by decide) rfl
    refine ⟨_, (pss_cons (ps_set (i := 2) sc_call_until.nd rfl (Or.inl rfl) (pe_k (ok_refusal_of T) (hr.mono (by decide)) rfl (pa_cons (pv 0) (pa_cons (pe_ix ix_list (pv 1) pe_int (fun _ _ => rfl)) (pa_cons (pe_ix ix_list (pv 1) pe_int (fun _ _ => rfl)) pa_nil))))) (pss_cons (ps_if (pt_cmpR op_lt (pv 2) pe_int (nomark _)) (pss_one (ps_ret (pe_lst (pa_cons (pv 2) pa_nil)))) pss_nil) (pss_cons (ps_set (i := 3) sc_call_until.nd rfl (Or.inl rfl) (pe_k (ok_till_weight T) (hr.mono (by decide)) rfl (pa_cons (pv 0) (pa_cons (pe_ix ix_list (pv 1) pe_int (fun _ _ => rfl)) (pa_cons (pe_ix ix_list (pv 1) pe_int (fun _ _ => rfl)) (pa_cons (pe_ix ix_list (pv 1) pe_int (fun _ _ => rfl)) pa_nil)))))) (pss_cons (ps_if (pt_cmpR op_isN1 (pv 3) pe_non (nomark _)) (pss_one (ps_ret (pe_lst (pa_cons (pe_gint T.i_NEVER rfl) pa_nil)))) pss_nil) (pss_one (ps_ret (pe_lst (pa_cons (pe_ix ix_tup (pv 3) pe_int (fun _ _ => rfl)) pa_nil)))))))), ?_⟩
    refine q_set (val_refusal (i := i) (t := t) F (val_var rfl) (val_ixL (n := 0) (val_var rfl) val_c (SqL.of hn) rfl) (val_ixL (n := 2) (val_var rfl) val_c (SqL.of hn) rfl)) ?_
    refine q_when (b := decide (refOf a i t < 0)) (ans_lt (val_var rfl) val_c rfl) (fun e => ?_) (fun e => ?_)
    · have ed : doing (some a) (callAt 10 [i, wt, t]) = (some a, say (refOf a i t)) := ref_yes e
      exact gives_lst F q rfl (va1 (val_var rfl)) (by rw [ed]) (by rw [ed]; rfl) (by simp)
    · obtain ⟨hi, ht, l, hl⟩ := ref_no e
      have es : doing (some a) (callAt 10 [i, wt, t]) = (match firstW a i wt t with | some n => (some a, say n) | none => (some a, say (-33))) := ref_on hl ht
      refine q_setH (valH_till F B hk hi ht (val_var rfl) (val_ixL (n := 0) (val_var rfl) val_c (SqL.of hn) rfl) (val_ixL (n := 1) (val_var rfl) val_c (SqL.of hn) rfl) (val_ixL (n := 2) (val_var rfl) val_c (SqL.of hn) rfl)) ?_
      rintro v H1 ⟨F1, ⟨rfl, ef⟩ | ⟨n, p, rfl, ef, hp⟩⟩
      · have ed : doing (some a) (callAt 10 [i, wt, t]) = (some a, say (-33)) := by rw [es, ef]
        refine q_when (b := true) (ans_isN (val_var rfl) (decide_eq_true rfl)) (fun _ => ?_) (fun z => Bool.noConfusion z)
        exact gives_lst F1 q rfl (va1 val_c) (by rw [ed]) (by rw [ed]; rfl) (by simp)
      · have ed : doing (some a) (callAt 10 [i, wt, t]) = (some a, say n) := by rw [es, ef]
        refine q_when (b := false) (ans_isN (val_var rfl) (decide_eq_false fun z => by cases z)) (fun z => Bool.noConfusion z) (fun _ => ?_)
        exact gives_lst F1 q rfl (va1 (val_ixT (n := 0) (val_var rfl) val_c (SqT.of hp) rfl)) (by rw [ed]) (by rw [ed]; rfl) (by simp)
theorem ok_call_eats (T : Tx K mg) : Kp P w K mg base 7 "call_eats" (spCall K 11) := by
  obtain ⟨fd, F⟩ := T.d_call_eats
  refine kp_of (ps := ["farm", "numbers"]) F T.g_call_eats (fun _ _ _ _ _ _ us hl => match us, hl with | [_, _], _ => rfl) sc_call_eats (fun vs H Q E h => ?_) (fun cdv A outer s H vs Q E hr h => ?_)
  · exact call_len h
  · obtain ⟨H0, fa, a, k, nl, i, wt, t, rfl, F, B, hk, hn, q⟩ := open3 h (by decide) rfl
    refine ⟨_, (pss_cons (ps_set (i := 2) sc_call_eats.nd rfl (Or.inl rfl) (pe_k (ok_refusal_of T) (hr.mono (by decide)) rfl (pa_cons (pv 0) (pa_cons (pe_ix ix_list (pv 1) pe_int (fun _ _ => rfl)) (pa_cons (pe_ix ix_list (pv 1) pe_int (fun _ _ => rfl)) pa_nil))))) (pss_cons (ps_if (pt_cmpR op_lt (pv 2) pe_int (nomark _)) (pss_one (ps_ret (pe_lst (pa_cons (pv 2) pa_nil)))) pss_nil) (pss_cons (ps_set (i := 3) sc_call_eats.nd rfl (Or.inl rfl) (pe_k (ok_till_weight T) (hr.mono (by decide)) rfl (pa_cons (pv 0) (pa_cons (pe_ix ix_list (pv 1) pe_int (fun _ _ => rfl)) (pa_cons (pe_ix ix_list (pv 1) pe_int (fun _ _ => rfl)) (pa_cons (pe_ix ix_list (pv 1) pe_int (fun _ _ => rfl)) pa_nil)))))) (pss_cons (ps_if (pt_cmpR op_isN1 (pv 3) pe_non (nomark _)) (pss_one (ps_ret (pe_lst (pa_cons (pe_gint T.i_NEVER rfl) pa_nil)))) pss_nil) (pss_one (ps_ret (pe_lst (pa_cons (pe_ix ix_tup (pv 3) pe_int (fun _ _ => rfl)) pa_nil)))))))), ?_⟩
    refine q_set (val_refusal (i := i) (t := t) F (val_var rfl) (val_ixL (n := 0) (val_var rfl) val_c (SqL.of hn) rfl) (val_ixL (n := 2) (val_var rfl) val_c (SqL.of hn) rfl)) ?_
    refine q_when (b := decide (refOf a i t < 0)) (ans_lt (val_var rfl) val_c rfl) (fun e => ?_) (fun e => ?_)
    · have ed : doing (some a) (callAt 11 [i, wt, t]) = (some a, say (refOf a i t)) := ref_yes e
      exact gives_lst F q rfl (va1 (val_var rfl)) (by rw [ed]) (by rw [ed]; rfl) (by simp)
    · obtain ⟨hi, ht, l, hl⟩ := ref_no e
      have es : doing (some a) (callAt 11 [i, wt, t]) = (match firstW a i wt t with | some n => (some a, say ((Kh328.full t n a).eaten - a.eaten : Nat)) | none => (some a, say (-33))) := ref_on hl ht
      refine q_setH (valH_till F B hk hi ht (val_var rfl) (val_ixL (n := 0) (val_var rfl) val_c (SqL.of hn) rfl) (val_ixL (n := 1) (val_var rfl) val_c (SqL.of hn) rfl) (val_ixL (n := 2) (val_var rfl) val_c (SqL.of hn) rfl)) ?_
      rintro v H1 ⟨F1, ⟨rfl, ef⟩ | ⟨n, p, rfl, ef, hp⟩⟩
      · have ed : doing (some a) (callAt 11 [i, wt, t]) = (some a, say (-33)) := by rw [es, ef]
        refine q_when (b := true) (ans_isN (val_var rfl) (decide_eq_true rfl)) (fun _ => ?_) (fun z => Bool.noConfusion z)
        exact gives_lst F1 q rfl (va1 val_c) (by rw [ed]) (by rw [ed]; rfl) (by simp)
      · have ed : doing (some a) (callAt 11 [i, wt, t]) = (some a, say (eats t n a : Nat)) := by
          rw [es, ef]
          show (some a, say ((Kh328.full t n a).eaten - a.eaten : Nat)) = _
          rw [full_eaten_sub]
        refine q_when (b := false) (ans_isN (val_var rfl) (decide_eq_false fun z => by cases z)) (fun z => Bool.noConfusion z) (fun _ => ?_)
        exact gives_lst F1 q rfl (va1 (val_ixT (n := 1) (val_var rfl) val_c (SqT.of hp) rfl)) (by rw [ed]) (by rw [ed]; rfl) (by simp)
theorem ok_call_hatches (T : Tx K mg) : Kp P w K mg base 3 "call_hatches" (spCall K 12) := by
  obtain ⟨fd, F⟩ := T.d_call_hatches
  refine kp_of (ps := ["farm", "numbers"]) F T.g_call_hatches (fun _ _ _ _ _ _ us hl => match us, hl with | [_, _], _ => rfl) sc_call_hatches (fun vs H Q E h => ?_) (fun cdv A outer s H vs Q E hr h => ?_)
  · exact call_len h
  · obtain ⟨H0, fa, a, k, nl, i, t, rfl, F, B, hk, hn, hx, hy, q⟩ := open2 h (by decide) rfl
    refine ⟨_, (pss_cons (ps_set (i := 2) sc_call_hatches.nd rfl (Or.inl rfl) (pe_ix ix_list (pv 1) pe_int (fun _ _ => rfl))) (pss_cons (ps_set (i := 3) sc_call_hatches.nd rfl (Or.inl rfl) (pe_k (ok_refusal_of T) (hr.mono (by decide)) rfl (pa_cons (pv 0) (pa_cons (pe_ix ix_list (pv 1) pe_int (fun _ _ => rfl)) (pa_cons (pv 2) pa_nil))))) (pss_cons (ps_if (pt_cmpR op_lt (pv 3) pe_int (nomark _)) (pss_one (ps_ret (pe_lst (pa_cons (pv 3) pa_nil)))) pss_nil) (pss_cons (ps_set (i := 4) sc_call_hatches.nd rfl (Or.inl rfl) (pe_ix ix_list (pe_fld (pv 0) rfl) (pe_ix ix_list (pv 1) pe_int (fun _ _ => rfl)) (fun _ _ => rfl))) (pss_cons (ps_if (pt_val (pe_fld (pv 4) rfl)) (pss_one (ps_ret (pe_lst (pa_cons (pe_gint T.i_HATCHED rfl) pa_nil)))) pss_nil) (pss_cons (ps_set (i := 5) sc_call_hatches.nd rfl (Or.inl rfl) (pe_k (ok_till_hatched T) (hr.mono (by decide)) rfl (pa_cons (pv 0) (pa_cons (pv 4) (pa_cons (pv 2) pa_nil))))) (pss_cons (ps_if (pt_cmpR op_isN1 (pv 5) pe_non (nomark _)) (pss_one (ps_ret (pe_lst (pa_cons (pe_gint T.i_NEVER rfl) pa_nil)))) pss_nil) (pss_one (ps_ret (pe_lst (pa_cons (pv 5) pa_nil))))))))))), ?_⟩
    refine q_set (val_ixL (n := 1) (val_var rfl) val_c (SqL.of hn) rfl) ?_
    refine q_set (val_refusal (i := i) (t := t) F (val_var rfl) (val_ixL (n := 0) (val_var rfl) val_c (SqL.of hn) rfl) (val_var rfl)) ?_
    refine q_when (b := decide (refOf a i t < 0)) (ans_lt (val_var rfl) val_c rfl) (fun e => ?_) (fun e => ?_)
    · have ed : doing (some a) (callAt 12 [i, t]) = (some a, say (refOf a i t)) := ref_yes e
      exact gives_lst F q rfl (va1 (val_var rfl)) (by rw [ed]) (by rw [ed]; rfl) (by simp)
    · obtain ⟨hi, ht, l, hl⟩ := ref_no e
      have es : doing (some a) (callAt 12 [i, t]) = (if l.hatched then (some a, say (-6)) else (match Kh328.firstDay t (fun b => Kh328.hatchedOf b i) (Kh328.DAYS + 1) 0 a with | some n => (some a, say n) | none => (some a, say (-33)))) := ref_on hl ht
      have F0 := F
      obtain ⟨dx, pl, ll, as, F⟩ := F
      obtain ⟨x, dy, h1, h2, h3⟩ := F.addr hl
      refine q_set (val_ixL (n := i) (farm_val_lots T (val_var rfl) F.farm) (val_ixL (n := 0) (val_var rfl) val_c (SqL.of hn) rfl) (SqL.of F.list) h3) ?_
      refine q_when (b := l.hatched) (ans_val (val_hatched T (val_var rfl) h2)) (fun e2 => ?_) (fun e2 => ?_)
      · have ed := es.trans (if_pos e2)
        exact gives_lst F0 q rfl (va1 val_c) (by rw [ed]) (by rw [ed]; rfl) (by simp)
      · have ed := es.trans (if_neg (by rw [e2]; decide))
        have hc := B.cold l (List.mem_of_getElem? hl) e2
        refine q_setH (PV := fun v H' => H' = H ∧ ((v = .non ∧ 1000 * t < a.hatch - l.warmth) ∨ (v = .int ((a.hatch - l.warmth + t - 1) / t : Nat) ∧ a.hatch - l.warmth ≤ 1000 * t))) (valH_k (va_cons (val_var rfl) (va2 (val_var rfl) (val_var rfl))) fun Q' q' => ⟨H0, fa, true, a, x, dy, l, t, rfl, F0, h2, hc, ht, fun z => q' _ _ ⟨rfl, .inl ⟨rfl, z⟩⟩, fun z => q' _ _ ⟨rfl, .inr ⟨rfl, z⟩⟩⟩) ?_
        rintro v _ ⟨rfl, ⟨rfl, z⟩ | ⟨rfl, z⟩⟩
        · rw [hatch_never hl e2 z] at ed
          refine q_when (b := true) (ans_isN (val_var rfl) (decide_eq_true rfl)) (fun _ => ?_) (fun z => Bool.noConfusion z)
          exact gives_lst F0 q rfl (va1 val_c) (by rw [ed]) (by rw [ed]; rfl) (by simp)
        · rw [(hatch_in hl e2 hc z).2] at ed
          refine q_when (b := false) (ans_isN (val_var rfl) (decide_eq_false fun z => by cases z)) (fun z => Bool.noConfusion z) (fun _ => ?_)
          exact gives_lst F0 q rfl (va1 (val_var rfl)) (by rw [ed]) (by rw [ed]; rfl) (by simp)
/-- list(t), t a new tuple -/
theorem st_ret_list {σ : L2.St} {H : Hp} {ta : TE} {D : Ends} {PV : V → Hp → Prop} (h : ValH ta σ H PV) (q : ∀ v H', PV v H' → ∃ p ys, v = .ref p ∧ H' p = some (.tup ys) ∧ ∀ l, H' l = none → D.rt (.ref l) (upd H' l (.lst ys))) :
    tRet (tCB (fun xs H Q => ∃ p ys, xs = [.ref p] ∧ (SqL K H p ys ∨ SqT K H p ys) ∧ ∀ l, H l = none → Q (.ref l) (upd H l (.lst ys))) (tCons ta tNil)) D σ H :=
  h _ fun v H' p => by
    obtain ⟨r, ys, rfl, hr, go⟩ := q v H' p
    exact ⟨r, ys, rfl, .inr (SqT.of hr), go⟩
theorem ok_call_ahead (T : Tx K mg) : Kp P w K mg base 7 "call_ahead" (spCall K 13) := by
  obtain ⟨fd, F⟩ := T.d_call_ahead
  refine kp_of (ps := ["farm", "numbers"]) F T.g_call_ahead (fun _ _ _ _ _ _ us hl => match us, hl with | [_, _], _ => rfl) sc_call_ahead (fun vs H Q E h => ?_) (fun cdv A outer s H vs Q E hr h => ?_)
  · exact call_len h
  · obtain ⟨H0, fa, a, k, nl, n, t, rfl, F, B, hk, hn, hx, hy, q⟩ := open2 h (by decide) rfl
    refine ⟨_, (pss_cons (ps_set (i := 2) sc_call_ahead.nd rfl (Or.inl rfl) (pe_ix ix_list (pv 1) pe_int (fun _ _ => rfl))) (pss_cons (ps_set (i := 3) sc_call_ahead.nd rfl (Or.inl rfl) (pe_ix ix_list (pv 1) pe_int (fun _ _ => rfl))) (pss_cons (ps_if (PW.pt (pw_or (pt_cmpR op_gt (pv 2) (pe_gint T.i_MOST_DAYS rfl) (nomark _)) (pw_or1 (pt_cmpR op_gt (pv 3) (pe_gint T.i_WARMEST rfl) (nomark _))))) (pss_one (ps_ret (pe_lst (pa_cons (pe_gint T.i_WRONG rfl) pa_nil)))) pss_nil) (pss_one (ps_ret (pe_callTy call_list_of (by rfl) T.b_list (by decide +kernel) (pa_cons (pe_k (ok_after_days T) (hr.mono (by decide)) rfl (pa_cons (pv 0) (pa_cons (pv 2) (pa_cons (pv 3) pa_nil)))) pa_nil))))))), ?_⟩
    refine q_set (val_ixL (n := 0) (val_var rfl) val_c (SqL.of hn) rfl) ?_
    refine q_set (val_ixL (n := 1) (val_var rfl) val_c (SqL.of hn) rfl) ?_
    refine q_when (b := decide (1000 < n) || decide (25 < t)) (ans_or2 (ans_gt2 (val_var rfl) val_c (decide_eq_decide.mpr (by omega))) (ans_gt2 (val_var rfl) val_c (decide_eq_decide.mpr (by omega)))) (fun e => ?_) (fun e => ?_)
    · have c : Kh328.WARM < t ∨ Kh328.DAYS < n := by
        simp only [Bool.or_eq_true, decide_eq_true_eq] at e
        show 25 < t ∨ 1000 < n
        omega
      have ed : doing (some a) (callAt 13 [n, t]) = (some a, say (-22)) := if_pos c
      exact gives_lst F q rfl (va1 val_c) (by rw [ed]) (by rw [ed]; rfl) (by simp)
    · have c : ¬ (Kh328.WARM < t ∨ Kh328.DAYS < n) := by
        simp only [Bool.or_eq_false_iff, decide_eq_false_iff_not] at e
        show ¬ (25 < t ∨ 1000 < n)
        omega
      have c2 : t ≤ 25 ∧ n ≤ 1000 := by
        simp only [Bool.or_eq_false_iff, decide_eq_false_iff_not] at e
        omega
      have ed : doing (some a) (callAt 13 [n, t]) = (some a, ⟨Kh328.massOf (Kh328.full t n a), [eats t n a]⟩) := by
        refine (if_neg c).trans ?_
        rw [full_eaten_sub]
        rfl
      have F0 := F
      obtain ⟨dx, pl, ll, as, F⟩ := F
      refine st_ret_list (valH_k (P := fun v H' => Same H H' ∧ ∃ p, v = .ref p ∧ H' p = some (.tup [.int (Kh328.massOf (Kh328.full t n a) : Nat), .int (eats t n a : Nat)])) (va_cons (val_var rfl) (va2 (val_var rfl) (val_var rfl))) fun Q' q' => ⟨H0, fa, true, a, k, n, t, rfl, F0, B, hk, c2.1, c2.2, fun H' p s hp => q' _ _ ⟨s, p, rfl, hp⟩⟩) ?_
      rintro v H' ⟨s, p, rfl, hp⟩
      refine ⟨p, _, rfl, hp, fun r hr => ?_⟩
      have F1 := F.on s
      refine q _ r ?_ (by rw [ed]; exact upd_same) (F1.keep.free hr)
      rw [ed]
      exact (F1.on (same_new hr)).in
theorem ok_call_lasts (T : Tx K mg) : Kp P w K mg base 7 "call_lasts" (spCall K 14) := by
  obtain ⟨fd, F⟩ := T.d_call_lasts
  refine kp_of (ps := ["farm", "numbers"]) F T.g_call_lasts (fun _ _ _ _ _ _ us hl => match us, hl with | [_, _], _ => rfl) sc_call_lasts (fun vs H Q E h => ?_) (fun cdv A outer s H vs Q E hr h => ?_)
  · exact call_len h
  · obtain ⟨H0, fa, a, k, nl, f, t, rfl, F, B, hk, hn, hx, hy, q⟩ := open2 h (by decide) rfl
    refine ⟨_, (pss_cons (ps_set (i := 2) sc_call_lasts.nd rfl (Or.inl rfl) (pe_ix ix_list (pv 1) pe_int (fun _ _ => rfl))) (pss_cons (ps_set (i := 3) sc_call_lasts.nd rfl (Or.inl rfl) (pe_ix ix_list (pv 1) pe_int (fun _ _ => rfl))) (pss_cons (ps_if (pt_cmpR op_gt (pv 3) (pe_gint T.i_WARMEST rfl) (nomark _)) (pss_one (ps_ret (pe_lst (pa_cons (pe_gint T.i_WRONG rfl) pa_nil)))) pss_nil) (pss_one (ps_ret (pe_lst (pa_cons (pe_k (ok_days_of_feed T) (hr.mono (by decide)) rfl (pa_cons (pv 0) (pa_cons (pv 2) (pa_cons (pv 3) pa_nil)))) pa_nil))))))), ?_⟩
    refine q_set (val_ixL (n := 0) (val_var rfl) val_c (SqL.of hn) rfl) ?_
    refine q_set (val_ixL (n := 1) (val_var rfl) val_c (SqL.of hn) rfl) ?_
    refine q_when (b := decide (25 < t)) (ans_gt2 (val_var rfl) val_c (decide_eq_decide.mpr (by omega))) (fun e => ?_) (fun e => ?_)
    · have ed : doing (some a) (callAt 14 [f, t]) = (some a, say (-22)) := if_pos (of_decide_eq_true e)
      exact gives_lst F q rfl (va1 val_c) (by rw [ed]) (by rw [ed]; rfl) (by simp)
    · have c : ¬ 25 < t := of_decide_eq_false e
      have ed : doing (some a) (callAt 14 [f, t]) = (some a, say (Kh328.lasts t Kh328.DAYS f a)) := if_neg c
      have F0 := F
      obtain ⟨dx, pl, ll, as, F⟩ := F
      refine st_ret_lst (vah1 (valH_k (P := fun v H' => v = .int (Kh328.lasts t Kh328.DAYS f a : Nat) ∧ Same H H') (va_cons (val_var rfl) (va2 (val_var rfl) (val_var rfl))) fun Q' q' => ⟨H0, fa, true, a, k, f, t, rfl, F0, B, hk, by omega, fun H' s => q' _ _ ⟨rfl, s⟩⟩)) ?_
      rintro vs H' ⟨v, rfl, rfl, s⟩
      refine ⟨by simp, fun r hr => ?_⟩
      have F1 := F.on s
      refine q _ r ?_ (by rw [ed]; exact upd_same) (F1.keep.free hr)
      rw [ed]
      exact (F1.on (same_new hr)).in
/-- xs.index(y) of a list of whole numbers: its first place -/
theorem val_index {σ : L2.St} {H : Hp} {ta tb : TE} {p : Addr} {ns : List Nat} {j m : Nat} (ha : Val ta σ H (.ref p)) (hs : SqL K H p (nV ns)) (hb : Val tb σ H (.int m)) (hj : ns[j]? = some m) (h0 : ∀ i n, i < j → ns[i]? = some n → n ≠ m) :
    Val (tBM K "list" (rIndex K) ta (tCons tb tNil)) σ H (.int (j : Nat)) := fun Q q => ha _ ⟨.inl ⟨rfl, _, hs⟩, hb _ ⟨p, nV ns, .int m, j, .int m, rfl, rfl, hs, rfl, by
    rw [List.all_eq_true]
    intro x hx
    obtain ⟨n, _, rfl⟩ := List.mem_map.mp hx
    rfl, by rw [List.getElem?_map, hj]; rfl, by show ((m : Int) == (m : Int)) = true; exact beq_self_eq_true _, fun i z hi hz => by
    rw [List.getElem?_map] at hz
    cases e : ns[i]? with
    | none =>
      rw [e] at hz
      cases hz
    | some n =>
      rw [e] at hz
      cases hz
      have ne := h0 i n hi e
      show ((n : Int) == (m : Int)) = false
      exact beq_eq_false_iff_ne.mpr (by omega), q⟩⟩
theorem ok_call_best (T : Tx K mg) : Kp P w K mg base 3 "call_best" (spCall K 15) := by
  obtain ⟨fd, F⟩ := T.d_call_best
  refine kp_of (ps := ["farm", "numbers"]) F T.g_call_best (fun _ _ _ _ _ _ us hl => match us, hl with | [_, _], _ => rfl) sc_call_best (fun vs H Q E h => ?_) (fun cdv A outer s H vs Q E hr h => ?_)
  · exact call_len h
  · obtain ⟨H0, fa, a, k, nl, i, rfl, F, B, hk, hn, hx, q⟩ := open1 h (by decide) rfl
    refine ⟨_, (pss_cons (ps_if (pt_val (pe_k (ok_lacks_lot T) (hr.mono (by decide)) rfl (pa_cons (pv 0) (pa_cons (pe_ix ix_list (pv 1) pe_int (fun _ _ => rfl)) pa_nil)))) (pss_one (ps_ret (pe_lst (pa_cons (pe_gint T.i_NO_LOT rfl) pa_nil)))) pss_nil) (pss_cons (ps_set (i := 2) sc_call_best.nd rfl (Or.inr rfl) (pe_ix ix_list (pe_fld (pv 0) rfl) (pe_ix ix_list (pv 1) pe_int (fun _ _ => rfl)) (fun _ _ => rfl))) (pss_cons (ps_setLc (i := 3) (own := [("pace", 5)]) (g := gName 5) (tt := tYes) (te := (tK _ (tCons (tVar 2) (tCons (tVar 5) tNil)))) rfl sc_call_best.nd rfl rfl (sw_true rfl rfl rfl (by decide +kernel)) (pi_list (pe_fld (pv 0) rfl)) (blkOk_by (own := [("pace", 5)]) (N := N_call_best) (sc := defScope s_call_best) (by decide +kernel)) (fun _ _ _ _ _ => pg_name (i := 5) sc_call_best.nd rfl (Or.inl rfl)) (fun _ _ _ _ _ => pts_nil) (fun _ _ _ _ _ => (pe_k (ok_could_grow T) (hr.mono (by decide)) rfl (pa_cons (pv 2) (pa_cons (pv 5) pa_nil))))) (pss_cons (ps_set (i := 4) sc_call_best.nd rfl (Or.inl rfl) (pe_callB (cr_max rfl) (by rfl) T.b_max (by decide +kernel) (pa_cons (pv 3) pa_nil))) (pss_one (ps_ret (pe_lst (pa_cons (pe_bm PySem.F.plainAttrs_list PySem.F.slot_list_index PySem.F.type_list_index mt_index (pv 3) (pa_cons (pv 4) pa_nil)) (pa_cons (pv 4) pa_nil))))))))), ?_⟩
    refine q_when (b := decide (a.lots.length ≤ i)) (ans_val (val_lacks F (val_var rfl) (val_ixL (n := 0) (val_var rfl) val_c (SqL.of hn) rfl))) (fun e => ?_) (fun e => ?_)
    · have ed : doing (some a) (callAt 15 [i]) = (some a, say (-2)) := by
        show (match a.lots[i]? with | none => _ | some l => _) = _
        rw [no_lot e]
      exact gives_lst F q rfl (va1 val_c) (by rw [ed]) (by rw [ed]; rfl) (by simp)
    · obtain ⟨l, hl⟩ := a_lot e
      have es : doing (some a) (callAt 15 [i]) = (some a, ⟨(Kh328.best a l).1, [(Kh328.best a l).2]⟩) := by
        show (match a.lots[i]? with | none => _ | some l => _) = _
        rw [hl]
      obtain ⟨t, g1, g2, g3, g4⟩ := best_walk (fun i => Kh328.could a i l) 26 (by decide)
      have ed : doing (some a) (callAt 15 [i]) = (some a, ⟨t, [Kh328.could a t l]⟩) := by
        rw [es, best_foldl, g2]
      have F0 := F
      obtain ⟨dx, pl, ll, as, F⟩ := F
      obtain ⟨x, dy, h1, h2, h3⟩ := F.addr hl
      have Bl := B.lots l (List.mem_of_getElem? hl)
      have hp := B.told.len
      have pw : ∀ (j n : Nat), a.pace[j]? = some n → j < 26 ∧ grow l n = Kh328.could a j l := fun j n z => by
        have hj := (List.getElem?_eq_some_iff.mp z).1
        refine ⟨by omega, ?_⟩
        rw [← could_is Bl, List.getD_eq_getElem?_getD, z]
        rfl
      have pa : ∀ j, j < 26 → (a.pace.map (grow l))[j]? = some (Kh328.could a j l) := fun j hj => by
        have z := List.getElem?_eq_getElem (show j < a.pace.length by omega)
        rw [List.getElem?_map, z]
        show some (grow l _) = _
        rw [(pw j _ z).2]
      refine q_set (val_ixL (n := i) (farm_val_lots T (val_var rfl) F.farm) (val_ixL (n := 0) (val_var rfl) val_c (SqL.of hn) rfl) (SqL.of F.list) h3) ?_
      refine q_setH (lc_val (zs := nV (a.pace.map (grow l))) (farm_val_pace T (val_var rfl) F.farm) (SqL.of F.pace) (by simp; omega) (by simp) (fun _ => rfl) ?_) ?_
      · intro j v z H1 s hv hz
        rw [List.getElem?_map] at hv
        rw [List.getElem?_map, List.getElem?_map] at hz
        cases e1 : a.pace[j]? with
        | none =>
          rw [e1] at hv
          cases hv
        | some n =>
          rw [e1] at hv hz
          cases hv
          cases hz
          exact val_k (va2 (val_var rfl) (val_var rfl)) fun Q' q' => ⟨x, l, 40 + k, n, rfl, ⟨dy, s _ _ h2⟩, bd_fit Bl (by omega), B.told.pace n (List.mem_of_getElem? e1), q'⟩
      · rintro v H1 ⟨D, rfl, hD, rfl⟩
        have F1 := F.on (same_new (o := .lst (nV (a.pace.map (grow l)))) hD)
        have hs : SqL K (upd H D (.lst (nV (a.pace.map (grow l))))) D (nV (a.pace.map (grow l))) := SqL.of upd_same
        refine q_set (v := .int (Kh328.could a t l : Nat)) (val_max (val_var rfl) hs (List.mem_of_getElem? (pa t g1)) fun y hy => ?_) ?_
        · obtain ⟨j, hj, rfl⟩ := List.mem_iff_getElem.mp hy
          have hj2 : j < 26 := by
            rw [List.length_map] at hj
            omega
          have z := pa j hj2
          rw [List.getElem?_eq_getElem hj] at z
          rw [Option.some.inj z]
          exact g3 j hj2
        · refine gives_lst F1.in q rfl (va2 (val_index (val_var rfl) hs (val_var rfl) (pa t g1) fun j n hj hz => ?_) (val_var rfl)) (by rw [ed]) (by rw [ed]; rfl) (by simp)
          have z := pa j (by omega)
          rw [z] at hz
          have lt : Kh328.could a j l < Kh328.could a t l := g4 j hj
          have eq := Option.some.inj hz
          omega
theorem ok_call_sums (T : Tx K mg) : Kp P w K mg base 2 "call_sums" (spCall K 16) := by
  obtain ⟨fd, F⟩ := T.d_call_sums
  refine kp_of (ps := ["farm", "numbers"]) F T.g_call_sums (fun _ _ _ _ _ _ us hl => match us, hl with | [_, _], _ => rfl) sc_call_sums (fun vs H Q E h => ?_) (fun cdv A outer s H vs Q E hr h => ?_)
  · exact call_len h
  · obtain ⟨H0, fa, a, k, nl, rfl, F, B, hk, q⟩ := open0 h (by decide) rfl
    refine ⟨_, (pss_one (ps_ret (pe_lst (pa_cons (pe_fld (pv 0) rfl) (pa_cons (pe_fld (pv 0) rfl) (pa_cons (pe_fld (pv 0) rfl) (pa_cons (pe_fld (pv 0) rfl) (pa_cons (pe_k (ok_all_mass T) (hr.mono (by decide)) rfl (pa_cons (pe_fld (pv 0) rfl) pa_nil)) pa_nil)))))))), ?_⟩
    have hf := B.few
    obtain ⟨dx, pl, ll, as, F⟩ := F
    have ed : doing (some a) (callAt 16 []) = (some a, ⟨a.fed, [a.eaten, a.dead, a.deadMass, Kh328.massOf a]⟩) := rfl
    refine st_ret_lst (vah_cons (farm_val_fed T (val_var rfl) F.farm) (vah_cons (farm_val_eaten T (val_var rfl) F.farm) (vah_cons (farm_val_died T (val_var rfl) F.farm) (vah_cons (farm_val_died_mass T (val_var rfl) F.farm) (vah1 (valH_k (P := fun v H' => v = .int (Kh328.massOf a : Nat) ∧ Same H H') (va1 (farm_val_lots T (val_var rfl) F.farm)) fun Q' q' => ⟨ll, as, _, rfl, F.own, by omega, fun H' s => q' _ _ ⟨rfl, s⟩⟩)))))) ?_
    rintro vs H' ⟨r1, rfl, r2, rfl, r3, rfl, r4, rfl, v, rfl, rfl, s⟩
    refine ⟨by simp, fun r hr => ?_⟩
    have F1 := F.on s
    refine q _ r ?_ (by rw [ed]; exact upd_same) (F1.keep.free hr)
    rw [ed]
    exact (F1.on (same_new hr)).in
theorem ok_call_state (T : Tx K mg) : Kp P w K mg base 1 "call_state" (spCall K 17) := by
  obtain ⟨fd, F⟩ := T.d_call_state
  refine kp_of (ps := ["farm", "numbers"]) F T.g_call_state (fun _ _ _ _ _ _ us hl => match us, hl with | [_, _], _ => rfl) sc_call_state (fun vs H Q E h => ?_) (fun cdv A outer s H vs Q E hr h => ?_)
  · exact call_len h
  · obtain ⟨H0, fa, a, k, nl, rfl, F, B, hk, q⟩ := open0 h (by decide) rfl
    refine ⟨_, (pss_one (ps_ret (pe_lst (pa_cons (pe_fld (pv 0) rfl) (pa_cons (pe_callB call_len_seq (by rfl) T.b_len PySem.boot_len (pa_cons (pe_fld (pv 0) rfl) pa_nil)) (pa_cons (pe_callB (cr_sum rfl) (by rfl) T.b_sum (by decide +kernel) (pa_cons (pe_lc (own := [("lot", 2)]) (g := gName 2) (tt := tYes) (te := (tFld K (tVar 2) "many")) rfl sc_call_state.nd (pi_list (pe_fld (pv 0) rfl)) (blkOk_by (own := [("lot", 2)]) (N := N_call_state) (sc := defScope s_call_state) (by decide +kernel)) (fun _ _ _ _ _ => pg_name (i := 2) sc_call_state.nd rfl (Or.inl rfl)) (fun _ _ _ _ _ => pts_nil) (fun _ _ _ _ _ => (pe_fld (pv 2) rfl))) pa_nil)) pa_nil)))))), ?_⟩
    have hf := B.few
    obtain ⟨dx, pl, ll, as, F⟩ := F
    have ed : doing (some a) (callAt 17 []) = (some a, ⟨a.day, [a.lots.length, (a.lots.map Lot.n).sum]⟩) := rfl
    refine st_ret_lst (vah_cons (farm_val_today T (val_var rfl) F.farm) (vah_cons (val_lenL (farm_val_lots T (val_var rfl) F.farm) (SqL.of F.list)) (vah1 (valH_sum (ns := a.lots.map Lot.n) (lc_val (zs := nV (a.lots.map Lot.n)) (farm_val_lots T (val_var rfl) F.farm) (SqL.of F.list) (by rw [lots_len F]; omega) (by rw [lots_len F]; simp) (fun _ => rfl) ?_) ?_)))) ?_
    · intro i x z H1 s hx hz
      obtain ⟨y, dy, l, rfl, h1, h2, h3⟩ := lots_at F hx
      rw [List.getElem?_map, List.getElem?_map, h2] at hz
      cases hz
      exact val_many T (val_var rfl) (s _ _ h3)
    · rintro r H' ⟨D, rfl, hD, rfl⟩
      exact ⟨D, rfl, SqL.of upd_same⟩
    · rintro vs H' ⟨r1, rfl, r2, rfl, v, rfl, rfl, r0, D, rfl, hD, rfl⟩
      refine ⟨by simp, fun r hr => ?_⟩
      have F1 := F.on (same_new (o := .lst (nV (a.lots.map Lot.n))) hD)
      refine q _ r ?_ (by rw [ed, lots_len F]; exact upd_same) (F1.keep.free hr)
      rw [ed]
      exact (F1.on (same_new hr)).in
end
end Wg

set_option Elab.async false
set_option linter.all false
set_option maxRecDepth 100000
set_option maxHeartbeats 4000000
/-! The calls, one by one: join, begin. -/
namespace Wg
open PySem PySem.Spec PyProof.Rows L2
open Kh328 (Lot Abs doing say)
section
variable {P : Program} {w : World} {K : PySem.W.Frag} {mg : Str → Option Value} {base : Heap}
theorem ok_call_join (T : Tx K mg) : Kp P w K mg base 2 "call_join" (spCall K 6) := by
  obtain ⟨fd, F⟩ := T.d_call_join
  refine kp_of (ps := ["farm", "numbers"]) F T.g_call_join (fun _ _ _ _ _ _ us hl => match us, hl with | [_, _], _ => rfl) sc_call_join (fun vs H Q E h => ?_) (fun cdv A outer s H vs Q E hr h => ?_)
  · exact call_len h
  · obtain ⟨H0, fa, a, k, nl, i, j, rfl, F, B, hk, hn, hx, hy, q⟩ := open2 h (by decide) rfl
    refine ⟨_, (pss_cons (ps_if (PW.pt (pw_or (pt_val (pe_k (ok_lacks_lot T) (hr.mono (by decide)) rfl (pa_cons (pv 0) (pa_cons (pe_ix ix_list (pv 1) pe_int (fun _ _ => rfl)) pa_nil)))) (pw_or1 (pt_val (pe_k (ok_lacks_lot T) (hr.mono (by decide)) rfl (pa_cons (pv 0) (pa_cons (pe_ix ix_list (pv 1) pe_int (fun _ _ => rfl)) pa_nil))))))) (pss_one (ps_ret (pe_lst (pa_cons (pe_gint T.i_NO_LOT rfl) pa_nil)))) pss_nil) (pss_cons (ps_if (pt_cmpR op_eq (pe_ix ix_list (pv 1) pe_int (fun _ _ => rfl)) (pe_ix ix_list (pv 1) pe_int (fun _ _ => rfl)) (nomark _)) (pss_one (ps_ret (pe_lst (pa_cons (pe_gint T.i_WRONG rfl) pa_nil)))) pss_nil) (pss_cons (ps_set (i := 2) sc_call_join.nd rfl (Or.inl rfl) (pe_ix ix_list (pe_fld (pv 0) rfl) (pe_ix ix_list (pv 1) pe_int (fun _ _ => rfl)) (fun _ _ => rfl))) (pss_cons (ps_set (i := 3) sc_call_join.nd rfl (Or.inl rfl) (pe_ix ix_list (pe_fld (pv 0) rfl) (pe_ix ix_list (pv 1) pe_int (fun _ _ => rfl)) (fun _ _ => rfl))) (pss_cons (ps_if (PW.pt (pw_or (pt_cmpR op_ne (pe_fld (pv 2) rfl) (pe_fld (pv 3) rfl) (nomark _)) (pw_or1 (pt_cmpR op_ne (pe_fld (pv 2) rfl) (pe_fld (pv 3) rfl) (nomark _))))) (pss_one (ps_ret (pe_lst (pa_cons (pe_gint T.i_UNLIKE rfl) pa_nil)))) pss_nil) (pss_cons (ps_fld (pv 2) (pe_op op_add (pe_fld (pv 2) rfl) (pe_fld (pv 3) rfl)) rfl) (pss_cons (ps_fld (pv 2) (pe_op op_add (pe_fld (pv 2) rfl) (pe_fld (pv 3) rfl)) rfl) (pss_cons (ps_fld (pv 3) pe_int rfl) (pss_cons (ps_fld (pv 3) pe_int rfl) (pss_one (ps_ret (pe_lst (pa_cons (pe_fld (pv 2) rfl) pa_nil))))))))))))), ?_⟩
    have v0 : ∀ {σ : L2.St}, σ[1]? = some (some (.ref nl)) → Val (tOp (rIxL K) (tVar 1) (tC (.int 0))) σ H (.int (i : Nat)) := fun e => val_ixL (n := 0) (val_var e) val_c (SqL.of hn) rfl
    have v1 : ∀ {σ : L2.St}, σ[1]? = some (some (.ref nl)) → Val (tOp (rIxL K) (tVar 1) (tC (.int 1))) σ H (.int (j : Nat)) := fun e => val_ixL (n := 1) (val_var e) val_c (SqL.of hn) rfl
    refine q_when (b := decide (a.lots.length ≤ i) || decide (a.lots.length ≤ j)) (ans_or2 (ans_val (val_lacks F (val_var rfl) (v0 rfl))) (ans_val (val_lacks F (val_var rfl) (v1 rfl)))) (fun e => ?_) (fun e => ?_)
    · have ed : doing (some a) (callAt 6 [i, j]) = (some a, say (-2)) := by
        show (match a.lots[i]?, a.lots[j]? with | some l, some m => _ | _, _ => _) = _
        rcases (Bool.or_eq_true _ _).mp e with z | z
        · rw [no_lot z]
        · rw [no_lot z]
          cases a.lots[i]? <;> rfl
      exact gives_lst F q rfl (va1 val_c) (by rw [ed]) (by rw [ed]; rfl)
    · obtain ⟨z1, z2⟩ := Bool.or_eq_false_iff.mp e
      obtain ⟨l, hl⟩ := a_lot z1
      obtain ⟨m, hm⟩ := a_lot z2
      have F0 := F
      obtain ⟨dx, pl, ll, as, F⟩ := F
      obtain ⟨x, dy, h1, h2, h3⟩ := F.addr hl
      obtain ⟨y, dz, g1, g2, g3⟩ := F.addr hm
      have es : doing (some a) (callAt 6 [i, j]) = (if i = j then (some a, say (-22)) else if l.hatched ≠ m.hatched ∨ l.warmth ≠ m.warmth then (some a, say (-33)) else (some { a with lots := (a.lots.set i { l with n := l.n + m.n, mass := l.mass + m.mass }).set j { m with n := 0, mass := 0 } }, say (l.n + m.n : Nat))) := by
        show (match a.lots[i]?, a.lots[j]? with | some l, some m => if i = j then _ else _ | _, _ => _) = _
        rw [hl, hm] <;> rfl
      refine q_when (b := decide (i = j)) (ans_eqI (v0 rfl) (v1 rfl) (decide_eq_decide.mpr (by omega))) (fun e1 => ?_) (fun e1 => ?_)
      · have ed := es.trans (if_pos (of_decide_eq_true e1))
        exact gives_lst F0 q rfl (va1 val_c) (by rw [ed]) (by rw [ed]; rfl)
      · have c1 : ¬ i = j := of_decide_eq_false e1
        refine q_set (val_ixL (n := i) (farm_val_lots T (val_var rfl) F.farm) (v0 rfl) (SqL.of F.list) h3) ?_
        refine q_set (val_ixL (n := j) (farm_val_lots T (val_var rfl) F.farm) (v1 rfl) (SqL.of F.list) g3) ?_
        refine q_when (b := !decide (l.hatched = m.hatched) || !decide ((l.warmth : Int) = m.warmth)) (ans_or2 (ans_neB (val_hatched T (val_var rfl) h2) (val_hatched T (val_var rfl) g2) rfl) (ans_neI (val_degrees T (val_var rfl) h2) (val_degrees T (val_var rfl) g2) rfl)) (fun e2 => ?_) (fun e2 => ?_)
        · have c2 : l.hatched ≠ m.hatched ∨ l.warmth ≠ m.warmth := by
            simp only [Bool.or_eq_true, Bool.not_eq_true', decide_eq_false_iff_not] at e2
            rcases e2 with z | z
            · exact .inl z
            · exact .inr (by omega)
          have ed := (es.trans (if_neg c1)).trans (if_pos c2)
          exact gives_lst F0 q rfl (va1 val_c) (by rw [ed]) (by rw [ed]; rfl)
        · have c2 : ¬ (l.hatched ≠ m.hatched ∨ l.warmth ≠ m.warmth) := by
            simp only [Bool.or_eq_false_iff, Bool.not_eq_false', decide_eq_true_eq] at e2
            intro z
            rcases z with z | z
            · exact z e2.1
            · exact z (by omega)
          have ed := (es.trans (if_neg c1)).trans (if_neg c2)
          have nxy : x ≠ y := fun z => c1 (nd_ix F.nd h1 (z ▸ g1))
          refine q_many T (nval_add (val_many T (val_var rfl) h2) (val_many T (val_var rfl) g2)) (val_var rfl) h2 ?_
          refine q_mass T (nval_add (val_mass T (val_var rfl) upd_same) (val_mass T (val_var rfl) (by rw [upd_ne nxy.symm]; exact g2))) (val_var rfl) upd_same ?_
          rw [upd_upd]
          have F1 := F.setLot (dy := dy) (l' := { l with n := l.n + m.n, mass := l.mass + m.mass }) h1
          have g4 : (upd H x (lotO K dy { l with n := l.n + m.n, mass := l.mass + m.mass })) y = some (lotO K dz m) := by
            rw [upd_ne nxy.symm]
            exact g2
          refine q_many T (n := 0) val_c (val_var rfl) g4 ?_
          refine q_mass T (n := 0) val_c (val_var rfl) upd_same ?_
          rw [upd_upd]
          have F2 := F1.setLot (dy := dz) (l' := { m with n := 0, mass := 0 }) g1
          have h5 : (upd (upd H x (lotO K dy { l with n := l.n + m.n, mass := l.mass + m.mass })) y (lotO K dz { m with n := 0, mass := 0 })) x = some (lotO K dy { l with n := l.n + m.n, mass := l.mass + m.mass }) := by
            rw [upd_ne nxy, upd_same]
          refine st_ret_lst (vah_of (va1 (val_many T (val_var rfl) h5))) ?_
          rintro _ _ ⟨rfl, rfl⟩
          refine ⟨by simp, fun r hr => ?_⟩
          refine q _ r ?_ (by rw [ed]; exact upd_same) (F2.keep.free hr)
          rw [ed]
          exact (F2.on (same_new hr)).in
end
end Wg

set_option Elab.async false
set_option linter.all false
set_option maxRecDepth 100000
set_option maxHeartbeats 4000000
/-! The calls, one by one: begin. -/
namespace Wg
open PySem PySem.Spec PyProof.Rows L2
open Kh328 (Lot Abs doing say)
section
variable {P : Program} {w : World} {K : PySem.W.Frag} {mg : Str → Option Value} {base : Heap}
/-! ### begin -/
theorem FarmSt.on {H0 H H' : Hp} {fa : Addr} {s : Option Abs} (F : FarmSt K H0 H fa s) (e : Same H H') : FarmSt K H0 H' fa s := by
  cases s with
  | none => obtain ⟨dx, pl, ll, as, F⟩ := F; exact (F.on e).in
  | some a => obtain ⟨dx, pl, ll, as, F⟩ := F; exact (F.on e).in
theorem FarmSt.keep {H0 H : Hp} {fa : Addr} {s : Option Abs} (F : FarmSt K H0 H fa s) : Same H0 H := by
  cases s with
  | none => obtain ⟨dx, pl, ll, as, F⟩ := F; exact F.keep
  | some a => obtain ⟨dx, pl, ll, as, F⟩ := F; exact F.keep
theorem FarmSt.any {H0 H : Hp} {fa : Addr} {s : Option Abs} (F : FarmSt K H0 H fa s) : ∃ b a dx pl ll as, FarmX K H0 H fa b a dx pl ll as := by
  cases s with
  | none => obtain ⟨dx, pl, ll, as, F⟩ := F; exact ⟨_, _, _, _, _, _, F⟩
  | some a => obtain ⟨dx, pl, ll, as, F⟩ := F; exact ⟨_, _, _, _, _, _, F⟩
/-- [v, ..] is answered, nothing changes -/
theorem gives_st {σ : L2.St} {H H0 : Hp} {fa : Addr} {s : Option Abs} {Q : VK} {t : TA} {vs : List V} {D : Ends} {d : Option Abs × Kh328.Ans} (F : FarmSt K H0 H fa s) (q : Gives K H0 fa Q d) (hD : D.rt = Q) (h : VA t σ H vs) (e1 : d.1 = s) (e2 : (answered d.2).map V.int = vs) (hl : vs.length ≤ 1000 := by decide) : tRet (tLst t) D σ H := by
  refine st_ret_lst (vah_of h) ?_
  rintro _ _ ⟨rfl, rfl⟩
  refine ⟨hl, fun r hr => ?_⟩
  rw [hD]
  refine q _ r ?_ (by rw [e2]; exact upd_same) (F.keep.free hr)
  rw [e1]
  exact F.on (same_new hr)
/-- xs[n:] -/
theorem valH_from {σ : L2.St} {H : Hp} {ta tb : TE} {p : Addr} {xs : List V} {n : Nat} (ha : Val ta σ H (.ref p)) (hs : SqL K H p xs) (hb : Val tb σ H (.int n)) (hn : n ≤ xs.length) : ValH (tSl (rSlL K) ta (tPart tb) tNoPart) σ H (fun v H' => ∃ r, v = .ref r ∧ H r = none ∧ H' = upd H r (.lst (xs.drop n))) := fun Q q =>
  ha _ (hb _ ⟨_, rfl, p, xs, rfl, hs, fun r hr => by
    have e : cutV xs (some (n : Int)) none = xs.drop n := by
      unfold cutV
      rw [HT.sIx_nat, HT.sIx_none, Nat.min_eq_left hn, List.take_of_length_le]
      rw [List.length_drop]
      omega
    rw [e]
    exact q _ _ ⟨r, rfl, hr, rfl⟩⟩)
/-- xs[m:n] -/
theorem valH_cut {σ : L2.St} {H : Hp} {ta tb tc : TE} {p : Addr} {xs : List V} {m n : Nat} (ha : Val ta σ H (.ref p)) (hs : SqL K H p xs) (hb : Val tb σ H (.int m)) (hc : Val tc σ H (.int n)) (hm : m ≤ xs.length) (hn : n ≤ xs.length) : ValH (tSl (rSlL K) ta (tPart tb) (tPart tc)) σ H (fun v H' => ∃ r, v = .ref r ∧ H r = none ∧ H' = upd H r (.lst ((xs.drop m).take (n - m)))) := fun Q q =>
  ha _ (hb _ ⟨_, rfl, hc _ ⟨_, rfl, p, xs, rfl, hs, fun r hr => by
    have e : cutV xs (some (m : Int)) (some (n : Int)) = (xs.drop m).take (n - m) := by
      unfold cutV
      rw [HT.sIx_nat, HT.sIx_nat, Nat.min_eq_left hm, Nat.min_eq_left hn]
    rw [e]
    exact q _ _ ⟨r, rfl, hr, rfl⟩⟩⟩)
/-- o.f = e where e makes a new thing -/
theorem st_fldH {σ : L2.St} {H : Hp} {ta tv : TE} {f : Str} {D : Ends} {PV : V → Hp → Prop} (hv : ValH tv σ H PV) (k : ∀ v H', PV v H' → ∃ a C dx fs, Val ta σ H' (.ref a) ∧ H' a = some (.ins C dx fs) ∧ Cls K C ∧ NoAttr K C f ∧ fs.length < 1000 ∧ D.nx σ (upd H' a (.ins C dx (putF f v fs)))) : sFld K ta tv f D σ H :=
  hv _ fun v H' p => let ⟨a, C, dx, fs, h1, h2, h3, h4, h5, h6⟩ := k v H' p; h1 _ ⟨a, C, dx, fs, rfl, h2, h3, h4, h5, h6⟩
theorem q_fldH {σ : L2.St} {H : Hp} {ta tv : TE} {f : Str} {D : Ends} {tz : TS} {PV : V → Hp → Prop} (hv : ValH tv σ H PV) (k : ∀ v H', PV v H' → ∃ a C dx fs, Val ta σ H' (.ref a) ∧ H' a = some (.ins C dx fs) ∧ Cls K C ∧ NoAttr K C f ∧ fs.length < 1000 ∧ tz D σ (upd H' a (.ins C dx (putF f v fs)))) : tSeq (sFld K ta tv f) tz D σ H := st_fldH (D := { D with nx := tz D }) hv k
theorem doing_begin (s : Option Abs) (x w c : Nat) (p : List Nat) : doing s (.begin_ x w c p) = if x < 1 ∨ 1000 < x ∨ w < 1 ∨ 100 < w ∨ c < 50 ∨ 300 < c ∨ p.length ≠ Kh328.WARM + 1 ∨ (p.any fun x => decide (500 < x)) = true then (s, say (-22)) else (some (Kh328.begun x w c p), say 0) := by
  cases s <;> rfl
theorem ok_call_begin (T : Tx K mg) : Kp P w K mg base 2 "call_begin" (spCall K 0) := by
  obtain ⟨fd, F⟩ := T.d_call_begin
  refine kp_of (ps := ["farm", "numbers"]) F T.g_call_begin (fun _ _ _ _ _ _ us hl => match us, hl with | [_, _], _ => rfl) sc_call_begin (fun vs H Q E h => ?_) (fun cdv A outer s H vs Q E hr h => ?_)
  · exact call_len h
  · obtain ⟨H0, fa, s', k, nl, xs, rfl, F, _, B, hk, hn, ok, q⟩ := h
    have hlen : xs.length = 4 + xs.getD 3 0 := ok.len
    match xs, hlen, ok, hn, q with
    | x0 :: x1 :: x2 :: x3 :: pc, hlen, ok, hn, q =>
    refine ⟨_, (pss_cons (ps_set (i := 2) sc_call_begin.nd rfl (Or.inl rfl) (pe_ix ix_list (pv 1) pe_int (fun _ _ => rfl))) (pss_cons (ps_set (i := 3) sc_call_begin.nd rfl (Or.inl rfl) (pe_ix ix_list (pv 1) pe_int (fun _ _ => rfl))) (pss_cons (ps_set (i := 4) sc_call_begin.nd rfl (Or.inl rfl) (pe_ix ix_list (pv 1) pe_int (fun _ _ => rfl))) (pss_cons (ps_set (i := 5) sc_call_begin.nd rfl (Or.inl rfl) (pe_slice sl_list (pv 1) (po_some pe_int) po_none)) (pss_cons (ps_if (PW.pt (pw_or (pt_not (pt_val (pe_k (ok_within T) (hr.mono (by decide)) rfl (pa_cons (pv 2) (pa_cons pe_int (pa_cons pe_int pa_nil)))))) (pw_or1 (pt_not (pt_val (pe_k (ok_within T) (hr.mono (by decide)) rfl (pa_cons (pv 3) (pa_cons pe_int (pa_cons pe_int pa_nil))))))))) (pss_one (ps_ret (pe_lst (pa_cons (pe_gint T.i_WRONG rfl) pa_nil)))) pss_nil) (pss_cons (ps_if (PW.pt (pw_or (pt_not (pt_val (pe_k (ok_within T) (hr.mono (by decide)) rfl (pa_cons (pv 4) (pa_cons pe_int (pa_cons pe_int pa_nil)))))) (pw_or1 (pt_not (pt_val (pe_k (ok_is_pace T) (hr.mono (by decide)) rfl (pa_cons (pv 5) pa_nil))))))) (pss_one (ps_ret (pe_lst (pa_cons (pe_gint T.i_WRONG rfl) pa_nil)))) pss_nil) (pss_cons (ps_fld (pv 0) pe_bl rfl) (pss_cons (ps_fld (pv 0) (pv 2) rfl) (pss_cons (ps_fld (pv 0) (pv 3) rfl) (pss_cons (ps_fld (pv 0) (pv 4) rfl) (pss_cons (ps_fld (pv 0) (pv 5) rfl) (pss_cons (ps_fld (pv 0) (pe_lst pa_nil) rfl) (pss_cons (ps_fld (pv 0) pe_int rfl) (pss_cons (ps_fld (pv 0) pe_int rfl) (pss_cons (ps_fld (pv 0) pe_int rfl) (pss_cons (ps_fld (pv 0) pe_int rfl) (pss_cons (ps_fld (pv 0) pe_int rfl) (pss_one (ps_ret (pe_lst (pa_cons pe_int pa_nil))))))))))))))))))))), ?_⟩
    have es : doing s' (callAt 0 (x0 :: x1 :: x2 :: x3 :: pc)) = _ := doing_begin s' x0 x1 x2 pc
    have g0 : (nV (x0 :: x1 :: x2 :: x3 :: pc))[0]? = some (.int (x0 : Nat)) := rfl
    have g1 : (nV (x0 :: x1 :: x2 :: x3 :: pc))[1]? = some (.int (x1 : Nat)) := rfl
    have g2 : (nV (x0 :: x1 :: x2 :: x3 :: pc))[2]? = some (.int (x2 : Nat)) := rfl
    have b0 := ok.big x0 (by simp)
    have b1 := ok.big x1 (by simp)
    have b2 := ok.big x2 (by simp)
    refine q_set (val_ixL (n := 0) (v := .int (x0 : Nat)) (val_var rfl) val_c (SqL.of hn) g0) ?_
    refine q_set (val_ixL (n := 1) (v := .int (x1 : Nat)) (val_var rfl) val_c (SqL.of hn) g1) ?_
    refine q_set (val_ixL (n := 2) (v := .int (x2 : Nat)) (val_var rfl) val_c (SqL.of hn) g2) ?_
    refine q_setH (valH_from (n := 4) (val_var rfl) (SqL.of hn) val_c (by simp)) ?_
    rintro v H1 ⟨pl, rfl, hpl, rfl⟩
    have hp : (upd H pl (.lst ((nV (x0 :: x1 :: x2 :: x3 :: pc)).drop 4))) pl = some (.lst (nV pc)) := upd_same
    have F1 := F.on (same_new (o := .lst ((nV (x0 :: x1 :: x2 :: x3 :: pc)).drop 4)) hpl)
    have hpl0 : H0 pl = none := F.keep.free hpl
    generalize (upd H pl (.lst ((nV (x0 :: x1 :: x2 :: x3 :: pc)).drop 4))) = H1 at hp F1
    refine q_when (b := !(decide ((1 : Int) ≤ x0) && decide ((x0 : Int) ≤ 1000)) || !(decide ((1 : Int) ≤ x1) && decide ((x1 : Int) ≤ 100))) (ans_or2 (ans_not (ans_val (val_within (val_var rfl) val_c val_c))) (ans_not (ans_val (val_within (val_var rfl) val_c val_c)))) (fun e => ?_) (fun e => ?_)
    · have c : x0 < 1 ∨ 1000 < x0 ∨ x1 < 1 ∨ 100 < x1 := by
        simp only [Bool.or_eq_true, Bool.not_eq_true', Bool.and_eq_false_iff, decide_eq_false_iff_not] at e
        omega
      have ed := es.trans (if_pos (by
        rcases c with z | z | z | z
        · exact .inl z
        · exact .inr (.inl z)
        · exact .inr (.inr (.inl z))
        · exact .inr (.inr (.inr (.inl z)))))
      exact gives_st F1 q rfl (va1 val_c) (by rw [ed]) (by rw [ed]; rfl)
    · have c : ¬ (x0 < 1 ∨ 1000 < x0 ∨ x1 < 1 ∨ 100 < x1) := by
        simp only [Bool.or_eq_false_iff, Bool.not_eq_false', Bool.and_eq_true, decide_eq_true_eq] at e
        omega
      refine q_when (b := !(decide ((50 : Int) ≤ x2) && decide ((x2 : Int) ≤ 300)) || !(decide (pc.length = 26) && decide (∀ n ∈ pc, n ≤ 500))) (ans_or2 (ans_not (ans_val (val_within (val_var rfl) val_c val_c))) (ans_not (ans_val (val_k (va1 (val_var rfl)) fun Q' q' => ⟨pl, pc, rfl, hp, q'⟩)))) (fun e2 => ?_) (fun e2 => ?_)
      · have c2 : x2 < 50 ∨ 300 < x2 ∨ pc.length ≠ Kh328.WARM + 1 ∨ (pc.any fun x => decide (500 < x)) = true := by
          simp only [Bool.or_eq_true, Bool.not_eq_true', Bool.and_eq_false_iff, decide_eq_false_iff_not] at e2
          rcases e2 with (z | z) | (z | z)
          · exact .inl (by omega)
          · exact .inr (.inl (by omega))
          · exact .inr (.inr (.inl z))
          · refine .inr (.inr (.inr (List.any_eq_true.mpr ?_)))
            obtain ⟨n, z⟩ := Classical.not_forall.mp z
            obtain ⟨hn', z⟩ := Classical.not_imp.mp z
            exact ⟨n, hn', decide_eq_true (by omega)⟩
        have ed := es.trans (if_pos (.inr (.inr (.inr (.inr c2)))))
        exact gives_st F1 q rfl (va1 val_c) (by rw [ed]) (by rw [ed]; rfl)
      · have c2 : ¬ (x2 < 50 ∨ 300 < x2 ∨ pc.length ≠ Kh328.WARM + 1 ∨ (pc.any fun x => decide (500 < x)) = true) := by
          simp only [Bool.or_eq_false_iff, Bool.not_eq_false', Bool.and_eq_true, decide_eq_true_eq] at e2
          obtain ⟨⟨z1, z2⟩, z3, z4⟩ := e2
          rintro (z | z | z | z)
          · omega
          · omega
          · exact z z3
          · obtain ⟨n, hn', z⟩ := List.any_eq_true.mp z
            have := z4 n hn'
            have := of_decide_eq_true z
            omega
        have ed := es.trans (if_neg (by
          rintro (z | z | z | z | z)
          · exact c (.inl z)
          · exact c (.inr (.inl z))
          · exact c (.inr (.inr (.inl z)))
          · exact c (.inr (.inr (.inr z)))
          · exact c2 z))
        obtain ⟨b, a, dx, pl0, ll0, as0, FX⟩ := F1.any
        refine farm_p_begun T (x2 := ⟨true, a.hatch, a.first, a.conv, pl0, ll0, a.day, a.fed, a.eaten, a.dead, a.deadMass⟩) val_c (val_var rfl) FX.farm rfl ?_
        refine farm_p_hatch T (x2 := ⟨true, x0, a.first, a.conv, pl0, ll0, a.day, a.fed, a.eaten, a.dead, a.deadMass⟩) (val_var rfl) (val_var rfl) upd_same rfl ?_
        rw [upd_upd]
        refine farm_p_first T (x2 := ⟨true, x0, x1, a.conv, pl0, ll0, a.day, a.fed, a.eaten, a.dead, a.deadMass⟩) (val_var rfl) (val_var rfl) upd_same rfl ?_
        rw [upd_upd]
        refine farm_p_conv T (x2 := ⟨true, x0, x1, x2, pl0, ll0, a.day, a.fed, a.eaten, a.dead, a.deadMass⟩) (val_var rfl) (val_var rfl) upd_same rfl ?_
        rw [upd_upd]
        refine farm_p_pace T (x2 := ⟨true, x0, x1, x2, pl, ll0, a.day, a.fed, a.eaten, a.dead, a.deadMass⟩) (val_var rfl) (val_var rfl) upd_same rfl ?_
        rw [upd_upd]
        refine q_fldH (valH_lst va_nil (by decide)) ?_
        rintro v H2 ⟨ll, rfl, hll, rfl⟩
        have nlf : ll ≠ fa := fun z => by
          rw [z, upd_same] at hll
          cases hll
        refine ⟨fa, _, dx, _, val_var rfl, (by rw [upd_ne nlf.symm]; exact upd_same), T.c_Farm, T.n_Farm_lots, farmF_few _, ?_⟩
        rw [farmF_put_lots]
        refine farm_p_today T (y := 0) (x2 := ⟨true, x0, x1, x2, pl, ll, 0, a.fed, a.eaten, a.dead, a.deadMass⟩) val_c (val_var rfl) upd_same rfl ?_
        rw [upd_upd]
        refine farm_p_fed T (y := 0) (x2 := ⟨true, x0, x1, x2, pl, ll, 0, 0, a.eaten, a.dead, a.deadMass⟩) val_c (val_var rfl) upd_same rfl ?_
        rw [upd_upd]
        refine farm_p_eaten T (y := 0) (x2 := ⟨true, x0, x1, x2, pl, ll, 0, 0, 0, a.dead, a.deadMass⟩) val_c (val_var rfl) upd_same rfl ?_
        rw [upd_upd]
        refine farm_p_died T (y := 0) (x2 := ⟨true, x0, x1, x2, pl, ll, 0, 0, 0, 0, a.deadMass⟩) val_c (val_var rfl) upd_same rfl ?_
        rw [upd_upd]
        refine farm_p_died_mass T (y := 0) (x2 := ⟨true, x0, x1, x2, pl, ll, 0, 0, 0, 0, 0⟩) val_c (val_var rfl) upd_same rfl ?_
        rw [upd_upd]
        rw [upd_ne nlf] at hll
        have npf : pl ≠ fa := ne_of hp FX.farm lst_ne_ins
        have npl : pl ≠ ll := ne_of_none hp hll
        have FN : FarmX K H0 (upd (upd (upd H1 fa (farmO K dx ⟨true, x0, x1, x2, pl, ll0, a.day, a.fed, a.eaten, a.dead, a.deadMass⟩)) ll (.lst [])) fa (farmO K dx ⟨true, x0, x1, x2, pl, ll, 0, 0, 0, 0, 0⟩)) fa true (Kh328.begun x0 x1 x2 pc) dx pl ll [] := by
          refine ⟨keep_out (keep_out (keep_out FX.keep FX.f0) (FX.keep.free hll)) FX.f0, FX.f0, hpl0, FX.keep.free hll, fun x m => (nomatch m), upd_same, ?_, ?_, rfl, List.nodup_nil, fun i x l m => (nomatch m)⟩
          · rw [upd_ne npf, upd_ne npl, upd_ne npf]
            exact hp
          · rw [upd_ne nlf, upd_same]
            rfl
        refine st_ret_lst (vah_of (va1 val_c)) ?_
        rintro _ _ ⟨rfl, rfl⟩
        refine ⟨by simp, fun r hr => ?_⟩
        refine q _ r ?_ (by rw [ed]; exact upd_same) (FN.keep.free hr)
        rw [ed]
        exact (FN.on (same_new hr)).in
end
end Wg

set_option Elab.async false
set_option linter.all false
set_option maxRecDepth 100000
set_option maxHeartbeats 4000000
/-! The walk over the list of calls. -/
namespace Wg
open PySem PySem.Spec PyProof.Rows L2
open Kh328 (Lot Abs doing say)
theorem told_cons (a : List Int) (r : List (List Int)) : PyFlat.told (a :: r) = ((a.length : Int) :: a) ++ PyFlat.told r := by
  unfold PyFlat.told
  rw [List.flatMap_cons]
/-! ### promises -/
def spFarmInit (K : PySem.W.Frag) : Sp := fun vs H Q _ => ∃ (x dx : Addr), vs = [.ref x] ∧ H x = some (.ins (He.ga K "Farm") dx []) ∧
  ∀ (pl ll : Addr) (H' : Hp), H pl = none → H ll = none → H' x = some (farmO K dx (farmS false blank pl ll)) → H' pl = some (.lst []) → H' ll = some (.lst []) → (∀ b o, H b = some o → b ≠ x → H' b = some o) → Q .non H'
def spEnd (K : PySem.W.Frag) : Sp := fun vs H Q _ => ∃ (al : Addr) (ns : List Int) (i : Nat) (q : Rec) (rest : List Int), vs = [.ref al, .int i] ∧ SqL K H al (ns.map V.int) ∧ ns.drop i = one q ++ rest ∧ Ok q ∧ Q (.int (i + 1 + q.2.length : Nat)) H
def spAnswer (K : PySem.W.Frag) : Sp := fun vs H Q _ => ∃ (H0 : Hp) (fa : Addr) (s : Option Abs) (k : Nat) (nl : Addr) (p : Nat) (xs : List Nat), vs = [.ref fa, .int p, .ref nl] ∧ FarmSt K H0 H fa s ∧ (∀ a, s = some a → Bd k a) ∧ k ≤ 200 ∧
  H nl = some (.lst (nV xs)) ∧ Ok (p, xs) ∧ Gives K H0 fa Q (doing s (callAt p xs))
def spAns (K : PySem.W.Frag) : Sp := fun vs H Q _ => ∃ (al : Addr) (ns : List Int), vs = [.ref al] ∧ SqL K H al (ns.map V.int) ∧ (∀ x ∈ ns, 0 ≤ x ∧ x ≤ 4294967295) ∧ PyKh328.answers_asked ns = true ∧
  ∀ H' p, H' p = some (.lst ((PyKh328.answers ns).map V.int)) → Q (.ref p) H'
section
variable {P : Program} {w : World} {K : PySem.W.Frag} {mg : Str → Option Value} {base : Heap}
theorem ok_Farm_init (T : Tx K mg) : Km P w K mg base 1 "Farm" "__init__" (spFarmInit K) := by
  obtain ⟨fd, F⟩ := T.d_Farm_init
  refine km_of (q := "Farm.__init__") (ps := ["self"]) F (fun _ _ _ _ _ _ us hl => match us, hl with | [_], _ => rfl) sc_Farm_init (fun vs H Q E h => ?_) (fun cdv A outer s H vs Q E hr h => ?_)
  · obtain ⟨x, dx, rfl, _⟩ := h
    rfl
  · obtain ⟨x, dx, rfl, hx, q⟩ := h
    refine ⟨_, (pss_cons (ps_fld (pv 0) pe_bl rfl) (pss_cons (ps_fld (pv 0) pe_int rfl) (pss_cons (ps_fld (pv 0) pe_int rfl) (pss_cons (ps_fld (pv 0) pe_int rfl) (pss_cons (ps_fld (pv 0) (pe_lst pa_nil) rfl) (pss_cons (ps_fld (pv 0) (pe_lst pa_nil) rfl) (pss_cons (ps_fld (pv 0) pe_int rfl) (pss_cons (ps_fld (pv 0) pe_int rfl) (pss_cons (ps_fld (pv 0) pe_int rfl) (pss_cons (ps_fld (pv 0) pe_int rfl) (pss_one (ps_fld (pv 0) pe_int rfl)))))))))))), ?_⟩
    refine q_fld val_c (val_var rfl) hx T.c_Farm T.n_Farm_begun (few_up few0 (by decide)) ?_
    refine q_fld val_c (val_var rfl) upd_same T.c_Farm T.n_Farm_hatch (few_up (few1 few0) (by decide)) ?_
    refine q_fld val_c (val_var rfl) upd_same T.c_Farm T.n_Farm_first (few_up (few1 (few1 few0)) (by decide)) ?_
    refine q_fld val_c (val_var rfl) upd_same T.c_Farm T.n_Farm_conv (few_up (few1 (few1 (few1 few0))) (by decide)) ?_
    rw [upd_upd, upd_upd, upd_upd]
    refine q_fldH (valH_lst va_nil (by decide)) ?_
    rintro v H1 ⟨pl, rfl, hpl, rfl⟩
    have npx : pl ≠ x := fun z => by
      rw [z, upd_same] at hpl
      cases hpl
    rw [upd_ne npx] at hpl
    refine ⟨x, _, dx, _, val_var rfl, (by rw [upd_ne npx.symm]; exact upd_same), T.c_Farm, T.n_Farm_pace, few_up (few1 (few1 (few1 (few1 few0)))) (by decide), ?_⟩
    refine q_fldH (valH_lst va_nil (by decide)) ?_
    rintro v H1 ⟨ll, rfl, hll, rfl⟩
    have nlx : ll ≠ x := fun z => by
      rw [z, upd_same] at hll
      cases hll
    have nlp : ll ≠ pl := fun z => by
      rw [z, upd_ne npx, upd_same] at hll
      cases hll
    rw [upd_ne nlx, upd_ne nlp, upd_ne nlx] at hll
    refine ⟨x, _, dx, _, val_var rfl, (by rw [upd_ne nlx.symm]; exact upd_same), T.c_Farm, T.n_Farm_lots, few_up (few1 (few1 (few1 (few1 (few1 few0))))) (by decide), ?_⟩
    refine q_fld val_c (val_var rfl) upd_same T.c_Farm T.n_Farm_today (few_up (few1 (few1 (few1 (few1 (few1 (few1 few0)))))) (by decide)) ?_
    refine q_fld val_c (val_var rfl) upd_same T.c_Farm T.n_Farm_fed (few_up (few1 (few1 (few1 (few1 (few1 (few1 (few1 few0))))))) (by decide)) ?_
    refine q_fld val_c (val_var rfl) upd_same T.c_Farm T.n_Farm_eaten (few_up (few1 (few1 (few1 (few1 (few1 (few1 (few1 (few1 few0)))))))) (by decide)) ?_
    refine q_fld val_c (val_var rfl) upd_same T.c_Farm T.n_Farm_died (few_up (few1 (few1 (few1 (few1 (few1 (few1 (few1 (few1 (few1 few0))))))))) (by decide)) ?_
    refine st_fld val_c (val_var rfl) upd_same T.c_Farm T.n_Farm_died_mass (few_up (few1 (few1 (few1 (few1 (few1 (few1 (few1 (few1 (few1 (few1 few0)))))))))) (by decide)) ?_
    rw [upd_upd, upd_upd, upd_upd, upd_upd]
    show Q .non _
    refine q pl ll _ hpl hll ?_ ?_ ?_ fun b o e hb => ?_
    · rw [upd_same]
      exact congrArg (fun z => some (HO.ins (He.ga K "Farm") dx z)) (farmF_new (farmS false blank pl ll))
    · rw [upd_ne npx, upd_ne npx, upd_ne nlp.symm, upd_ne npx, upd_same]
    · rw [upd_ne nlx, upd_ne nlx, upd_same]
    · rw [upd_ne hb, upd_ne hb, upd_ne (ne_of_none e hll), upd_ne hb, upd_ne (ne_of_none e hpl), upd_ne hb]
      exact e
theorem valH_farm {σ : L2.St} {H : Hp} : ValH (tMk (He.ga K "Farm") (spFarmInit K) tNil) σ H (fun v H' => ∃ x, v = .ref x ∧ FarmSt K H H' x none) := fun Q q x dx hx hdx hne => by
  refine ⟨x, dx, rfl, upd_same, fun pl ll H' hpl hll h1 h2 h3 kp => ⟨rfl, q _ _ ⟨x, rfl, dx, pl, ll, [], ?_, hx, ?_, ?_, fun y m => (nomatch m), h1, h2, h3, rfl, List.nodup_nil, fun i y l m => (nomatch m)⟩⟩⟩
  · exact Same.made hx hdx kp
  · exact (same_new (o := .own x) hdx |>.trans (same_new (o := .ins (He.ga K "Farm") dx []) (by rw [upd_ne hne.symm]; exact hx))).free hpl
  · exact (same_new (o := .own x) hdx |>.trans (same_new (o := .ins (He.ga K "Farm") dx []) (by rw [upd_ne hne.symm]; exact hx))).free hll
/-! ### a list beside the farm -/
theorem FarmX.swap {H0 H : Hp} {fa : Addr} {b : Bool} {a : Abs} {dx pl ll tl : Addr} {as : List Addr} {o o' : HO} (F : FarmX K (upd H0 tl o) H fa b a dx pl ll as) : FarmX K (upd H0 tl o') (upd H tl o') fa b a dx pl ll as := by
  have ne : ∀ {c : Addr}, (upd H0 tl o) c = none → c ≠ tl := fun {c} h z => by
    rw [z, upd_same] at h
    cases h
  have no : ∀ {c : Addr}, (upd H0 tl o) c = none → (upd H0 tl o') c = none := fun {c} h => by
    rw [upd_ne (ne h)]
    rw [upd_ne (ne h)] at h
    exact h
  refine ⟨fun c u e => ?_, no F.f0, no F.p0, no F.l0, fun x m => no (F.a0 x m), ?_, ?_, ?_, F.len, F.nd, fun i x l h1 h2 => ?_⟩
  · by_cases z : c = tl
    · rw [z, upd_same] at e ⊢
      exact e
    · rw [upd_ne z] at e ⊢
      exact F.keep c u (by rw [upd_ne z]; exact e)
  · rw [upd_ne (ne F.f0)]; exact F.farm
  · rw [upd_ne (ne F.p0)]; exact F.pace
  · rw [upd_ne (ne F.l0)]; exact F.list
  · obtain ⟨dy, h⟩ := F.lots i x l h1 h2
    exact ⟨dy, by rw [upd_ne (ne (F.a0 x (List.mem_of_getElem? h1)))]; exact h⟩
theorem FarmSt.swap {H0 H : Hp} {fa : Addr} {s : Option Abs} {tl : Addr} {o o' : HO} (F : FarmSt K (upd H0 tl o) H fa s) : FarmSt K (upd H0 tl o') (upd H tl o') fa s := by
  cases s with
  | none => obtain ⟨dx, pl, ll, as, F⟩ := F; exact F.swap.in
  | some a => obtain ⟨dx, pl, ll, as, F⟩ := F; exact F.swap.in
/-- a new thing beside the farm -/
theorem FarmX.beside {H0 H : Hp} {fa : Addr} {b : Bool} {a : Abs} {dx pl ll tl : Addr} {as : List Addr} {o : HO} (F : FarmX K H0 H fa b a dx pl ll as) (h : H tl = none) : FarmX K (upd H0 tl o) (upd H tl o) fa b a dx pl ll as := by
  have no : ∀ {c : Addr} {u : HO}, H0 c = none → H c = some u → (upd H0 tl o) c = none := fun {c u} h0 h1 => by
    rw [upd_ne (ne_of_none h1 h)]
    exact h0
  have G := F.on (same_new (o := o) h)
  refine ⟨fun c u e => ?_, no F.f0 F.farm, no F.p0 F.pace, no F.l0 F.list, fun x m => let ⟨_, _, q⟩ := F.at m; no (F.a0 x m) q, G.farm, G.pace, G.list, G.len, G.nd, G.lots⟩
  by_cases z : c = tl
  · rw [z, upd_same] at e ⊢
    exact e
  · rw [upd_ne z] at e ⊢
    exact F.keep c u e
theorem FarmSt.beside {H0 H : Hp} {fa : Addr} {s : Option Abs} {tl : Addr} {o : HO} (F : FarmSt K H0 H fa s) (h : H tl = none) : FarmSt K (upd H0 tl o) (upd H tl o) fa s := by
  cases s with
  | none => obtain ⟨dx, pl, ll, as, F⟩ := F; exact (F.beside h).in
  | some a => obtain ⟨dx, pl, ll, as, F⟩ := F; exact (F.beside h).in
/-! ### where a call ends -/
theorem widths_at {p : Nat} (h : p < 18) : (tab_WIDTHS.map (He.Dv.v K))[p]? = some (.int (width p : Nat)) := by
  match p, h with
  | 0, _ => rfl | 1, _ => rfl | 2, _ => rfl | 3, _ => rfl | 4, _ => rfl | 5, _ => rfl | 6, _ => rfl | 7, _ => rfl | 8, _ => rfl | 9, _ => rfl | 10, _ => rfl | 11, _ => rfl | 12, _ => rfl | 13, _ => rfl | 14, _ => rfl | 15, _ => rfl | 16, _ => rfl | 17, _ => rfl
  | p + 18, h => omega
theorem at_drop {ns : List Int} {i : Nat} {q : Rec} {rest : List Int} (h : ns.drop i = one q ++ rest) (j : Nat) : ns[i + j]? = (one q ++ rest)[j]? := by
  rw [← h, List.getElem?_drop]
theorem V_at {ns : List Int} {i : Nat} {z : Int} (h : ns[i]? = some z) : (ns.map V.int)[i]? = some (.int z) := by
  rw [List.getElem?_map, h]
  rfl
theorem ok_end_of_call (T : Tx K mg) : Kp P w K mg base 1 "end_of_call" (spEnd K) := by
  obtain ⟨fd, F⟩ := T.d_end_of_call
  refine kp_of (ps := ["calls", "start"]) F T.g_end_of_call (fun _ _ _ _ _ _ us hl => match us, hl with | [_, _], _ => rfl) sc_end_of_call (fun vs H Q E h => ?_) (fun cdv A outer s H vs Q E hr h => ?_)
  · obtain ⟨al, ns, i, q, rest, rfl, _⟩ := h
    rfl
  · obtain ⟨al, ns, i, q, rest, rfl, hs, hd, ok, k⟩ := h
    refine ⟨_, (pss_cons (ps_set (i := 2) sc_end_of_call.nd rfl (Or.inl rfl) (pe_op op_add (pe_op op_add (pv 1) pe_int) (pe_ix ix_tup (pe_gref T.g_WIDTHS rfl) (pe_ix ix_list (pv 0) (pv 1) (fun _ _ => rfl)) (fun _ _ => rfl)))) (pss_cons (ps_if (pt_cmpR op_eq (pe_ix ix_list (pv 0) (pv 1) (fun _ _ => rfl)) (pe_gint T.i_BEGIN rfl) (nomark _)) (pss_one (ps_ret (pe_op op_add (pv 2) (pe_ix ix_list (pv 0) (pe_op op_sub (pv 2) pe_int) (fun _ _ => rfl))))) pss_nil) (pss_one (ps_ret (pv 2))))), ?_⟩
    have e0 : ns[i]? = some (q.1 : Int) := (at_drop hd 0)
    have v0 := V_at e0
    refine q_set (nval_add (nval_add (n := 1) (val_var rfl) val_c) (val_ixT (n := q.1) val_c (val_ixL (n := i) (val_var rfl) (val_var rfl) hs v0) (T.t_WIDTHS H) (widths_at ok.num))) ?_
    refine q_when (b := decide (q.1 = 0)) (ans_eqI (val_ixL (n := i) (val_var rfl) (val_var rfl) hs v0) val_c (decide_eq_decide.mpr (by omega))) (fun e => ?_) (fun e => ?_)
    · have c : q.1 = 0 := of_decide_eq_true e
      have hl : q.2.length = 4 + q.2.getD 3 0 := by
        have := ok.len
        rw [c] at this
        exact this
      have w4 : width q.1 = 4 := by rw [c]; rfl
      have h3 : q.2[3]? = some (q.2.getD 3 0) := by
        rw [List.getD_eq_getElem?_getD, List.getElem?_eq_getElem (show 3 < q.2.length by omega)]
        rfl
      have e4 : ns[i + 4]? = some ((q.2.getD 3 0 : Nat) : Int) := by
        rw [at_drop hd 4]
        show ((q.1 : Int) :: (q.2.map Int.ofNat ++ rest))[4]? = _
        rw [List.getElem?_cons_succ, List.getElem?_append_left (by rw [List.length_map]; omega), List.getElem?_map, h3]
        rfl
      refine st_ret (nval_add (val_var rfl) (val_ixL (n := i + 4) (val_var rfl) (val_is (nval_sub (n := 1) (val_var rfl) val_c (by omega)) ?_) hs (V_at e4))) ?_
      · rw [w4]
        rfl
      · rw [w4]
        have e5 : i + 1 + 4 + q.2.getD 3 0 = i + 1 + q.2.length := by omega
        rw [e5]
        exact k
    · have c : ¬ q.1 = 0 := of_decide_eq_false e
      have hl : q.2.length = width q.1 := by
        have := ok.len
        rw [if_neg c] at this
        exact this
      refine st_ret (val_var rfl) ?_
      rw [hl] at k
      exact k
/-! ### one call -/
theorem not_begun {p : Nat} (h : p ≠ 0) (xs : List Nat) : doing none (callAt p xs) = (none, Kh328.say (-61)) := by
  unfold callAt
  split
  · exact absurd rfl h
  all_goals rfl
theorem call_at (T : Tx K mg) {p : Nat} (h : p < 18) : ∃ f, (tab_CALLS.map (He.Dv.v K))[p]? = some (.ref f) ∧ Hd P w K mg base 7 f (spCall K p) := by
  match p, h with
  | 0, _ => exact ⟨_, rfl, (ok_call_begin T).hd (by decide)⟩
  | 1, _ => exact ⟨_, rfl, (ok_call_eggs T).hd (by decide)⟩
  | 2, _ => exact ⟨_, rfl, (ok_call_stock T).hd (by decide)⟩
  | 3, _ => exact ⟨_, rfl, (ok_call_day T).hd (by decide)⟩
  | 4, _ => exact ⟨_, rfl, (ok_call_die T).hd (by decide)⟩
  | 5, _ => exact ⟨_, rfl, (ok_call_split T).hd (by decide)⟩
  | 6, _ => exact ⟨_, rfl, (ok_call_join T).hd (by decide)⟩
  | 7, _ => exact ⟨_, rfl, (ok_call_look T).hd (by decide)⟩
  | 8, _ => exact ⟨_, rfl, (ok_call_needs T).hd (by decide)⟩
  | 9, _ => exact ⟨_, rfl, (ok_call_could T).hd (by decide)⟩
  | 10, _ => exact ⟨_, rfl, (ok_call_until T).hd (by decide)⟩
  | 11, _ => exact ⟨_, rfl, (ok_call_eats T).hd (by decide)⟩
  | 12, _ => exact ⟨_, rfl, (ok_call_hatches T).hd (by decide)⟩
  | 13, _ => exact ⟨_, rfl, (ok_call_ahead T).hd (by decide)⟩
  | 14, _ => exact ⟨_, rfl, (ok_call_lasts T).hd (by decide)⟩
  | 15, _ => exact ⟨_, rfl, (ok_call_best T).hd (by decide)⟩
  | 16, _ => exact ⟨_, rfl, (ok_call_sums T).hd (by decide)⟩
  | 17, _ => exact ⟨_, rfl, (ok_call_state T).hd (by decide)⟩
  | p + 18, h => omega
theorem farm_begun {H0 H : Hp} {fa : Addr} {s : Option Abs} (F : FarmSt K H0 H fa s) : ∃ dx x, H fa = some (farmO K dx x) ∧ x.begun = s.isSome := by
  cases s with
  | none => obtain ⟨dx, pl, ll, as, F⟩ := F; exact ⟨dx, _, F.farm, rfl⟩
  | some a => obtain ⟨dx, pl, ll, as, F⟩ := F; exact ⟨dx, _, F.farm, rfl⟩
theorem st_tab {σ : L2.St} {H : Hp} {k : Nat} {tf : TE} {t : TA} {D : Ends} {f : Addr} {sp : Sp} {vs : List V} (hf : Val tf σ H (.ref f)) (hd : Hd P w K mg base k f sp) (ha : VA t σ H vs) (q : sp vs H D.rt E0) : tRet (tTab P w K mg base k tf t) D σ H :=
  hf _ ⟨f, sp, rfl, hd, ha _ q⟩
theorem ok_answer_call (T : Tx K mg) : Kp P w K mg base 8 "answer_call" (spAnswer K) := by
  obtain ⟨fd, F⟩ := T.d_answer_call
  refine kp_of (ps := ["farm", "number", "numbers"]) F T.g_answer_call (fun _ _ _ _ _ _ us hl => match us, hl with | [_, _, _], _ => rfl) sc_answer_call (fun vs H Q E h => ?_) (fun cdv A outer s H vs Q E hr h => ?_)
  · obtain ⟨H0, fa, s', k, nl, p, xs, rfl, _⟩ := h
    rfl
  · obtain ⟨H0, fa, s', k, nl, p, xs, rfl, F, B, hk, hn, ok, q⟩ := h
    have hp : p < 18 := ok.num
    refine ⟨_, (pss_cons (ps_if (PW.pt (pw_and (pt_cmpR op_ne (pv 1) (pe_gint T.i_BEGIN rfl) (nomark _)) (pw_and1 (pt_not (pt_val (pe_fld (pv 0) rfl)))))) (pss_one (ps_ret (pe_lst (pa_cons (pe_gint T.i_NOT_BEGUN rfl) pa_nil)))) pss_nil) (pss_one (ps_ret (pe_tab (k := 7) (pe_ix ix_tup (pe_gref T.g_CALLS rfl) (pv 1) (fun _ _ => rfl)) (hr.mono (by decide)) (pa_cons (pv 0) (pa_cons (pv 2) pa_nil)))))), ?_⟩
    obtain ⟨dx, x, hx, hb⟩ := farm_begun F
    refine q_when (b := !decide ((p : Int) = 0) && !s'.isSome) (ans_and2 (ans_neI (val_var rfl) val_c rfl) (ans_not (ans_val (val_is (farm_val_begun T (val_var rfl) hx) (by rw [hb]))))) (fun e => ?_) (fun e => ?_)
    · simp only [Bool.and_eq_true, Bool.not_eq_true', decide_eq_false_iff_not] at e
      have e2 : s' = none := by
        cases s' with
        | none => rfl
        | some a => exact absurd e.2 (by simp)
      subst e2
      have ed := not_begun (p := p) (by have := e.1; omega) xs
      exact gives_st F q rfl (va1 val_c) (by rw [ed]) (by rw [ed]; rfl)
    · obtain ⟨f, hf, hd⟩ := call_at (P := P) (w := w) (base := base) T hp
      refine st_tab (val_ixT (n := p) val_c (val_var rfl) (T.t_CALLS H) hf) hd (va2 (val_var rfl) (val_var rfl)) ⟨H0, fa, s', k, nl, xs, rfl, F, fun z => ?_, B, hk, hn, ok, q⟩
      intro e2
      subst e2
      simp only [Bool.and_eq_false_iff, Bool.not_eq_false', decide_eq_true_eq, Option.isSome_none] at e
      rcases e with e | e
      · omega
      · cases e
/-! ### the walk -/
theorem q_ext {σ : L2.St} {H : Hp} {ta te : TE} {D : Ends} {tz : TS} {l r : Addr} {xs ys : List V} (ha : Val ta σ H (.ref l)) (hl : H l = some (.lst xs)) (hv : Val te σ H (.ref r)) (hr : H r = some (.lst ys)) (hz : xs.length + ys.length ≤ 2000000) (q : tz D σ (upd H l (.lst (xs ++ ys)))) :
    tSeq (tDrop (tBM K "list" rExtend ta (tCons te tNil))) tz D σ H := ha _ ⟨.inl ⟨rfl, _, SqL.of hl⟩, hv _ ⟨l, r, xs, ys, rfl, rfl, hl, hr, Nat.le_trans hz (by decide), q⟩⟩
theorem flat_cons (q : Rec) (r : List Rec) : flat (q :: r) = one q ++ flat r := by
  unfold flat
  rw [List.flatMap_cons]
theorem flat_nil {r : List Rec} (h : flat r = []) : r = [] := by
  cases r with
  | nil => rfl
  | cons q r =>
    rw [flat_cons] at h
    cases h
theorem ok_answers_fn (T : Tx K mg) {fd : FuncData} (F : FunD K "answers" "answers" (defArgs s_answers) (defBody s_answers) (defScope s_answers) [] [] (He.ga K "answers") fd) : FnOk P w K mg base CX0 9 (He.ga K "answers") fd ["calls"] (spAns K) := by
  refine F.ok sc_answers (fun vs H Q E h => ?_) (fun cdv A outer s H vs Q E hr h => ?_)
  · obtain ⟨al, ns, rfl, _⟩ := h
    rfl
  · obtain ⟨al, ns, rfl, hs, hb, ask, k⟩ := h
    obtain ⟨ps, oks, e0, hlen, ean⟩ := asked_calls hb ask
    refine ⟨_, PSs.nox (pss_cons (ps_set (i := 1) sc_answers.nd rfl (Or.inl rfl) (pe_mk0 T.m_Farm (ok_Farm_init T) (hr.mono (by decide)) rfl T.g_Farm)) (pss_cons (ps_set (i := 2) sc_answers.nd rfl (Or.inl rfl) (pe_lst pa_nil)) (pss_cons (ps_set (i := 3) sc_answers.nd rfl (Or.inl rfl) pe_int) (pss_cons (ps_while PassesOwn.never (pt_cmpR op_lt (pv 3) (pe_callB call_len_seq (by rfl) T.b_len PySem.boot_len (pa_cons (pv 0) pa_nil)) (nomark _)) (pss_cons (ps_set (i := 4) sc_answers.nd rfl (Or.inl rfl) (pe_k (ok_end_of_call T) (hr.mono (by decide)) rfl (pa_cons (pv 0) (pa_cons (pv 3) pa_nil)))) (pss_cons (ps_set (i := 5) sc_answers.nd rfl (Or.inl rfl) (pe_k (ok_answer_call T) (hr.mono (by decide)) rfl (pa_cons (pv 1) (pa_cons (pe_ix ix_list (pv 0) (pv 3) (fun _ _ => rfl)) (pa_cons (pe_slice sl_list (pv 0) (po_some (pe_op op_add (pv 3) pe_int)) (po_some (pv 4))) pa_nil))))) (pss_cons (ps_expr (pe_bm PySem.F.plainAttrs_list PySem.F.slot_list_append PySem.F.type_list_append mt_append (pv 2) (pa_cons (pe_callB call_len_seq (by rfl) T.b_len PySem.boot_len (pa_cons (pv 5) pa_nil)) pa_nil))) (pss_cons (ps_expr (pe_bm PySem.F.plainAttrs_list PySem.F.slot_list_extend PySem.F.type_list_extend mt_extend (pv 2) (pa_cons (pv 5) pa_nil))) (pss_one (ps_set (i := 3) sc_answers.nd rfl (Or.inl rfl) (pv 4)))))))) (pss_one (ps_ret (pv 2))))))), ?_⟩
    refine q_setH valH_farm ?_
    rintro v H1 ⟨fa, rfl, F1⟩
    refine q_setH (valH_lst va_nil (by decide)) ?_
    rintro v H2 ⟨tl, rfl, htl, rfl⟩
    have F2 := F1.beside (o := .lst []) htl
    have htl0 : H tl = none := F1.keep.free htl
    refine q_set (v := .int ((0 : Nat) : Int)) val_c ?_
    refine q_while (fun m σ' H' => ∃ (i n : Nat) (rs : List Rec) (s' : Option Abs) (told : List Int) (v4 v5 : Option V), m = rs.length ∧ σ' = [some (.ref al), some (.ref fa), some (.ref tl), some (.int (i : Nat)), v4, v5] ∧ FarmSt K (upd H tl (.lst (told.map V.int))) H' fa s' ∧
      (∀ a, s' = some a → Bd n a) ∧ n + rs.length ≤ 100 ∧ (∀ q ∈ rs, Ok q) ∧ ns.drop i = flat rs ∧ i ≤ ns.length ∧ told ++ PyFlat.told (plays s' rs) = PyKh328.answers ns ∧ told.length ≤ 6 * n)
      ps.length ⟨0, 0, ps, none, [], none, none, rfl, rfl, F2, fun a z => (nomatch z), by omega, oks, e0, Nat.zero_le _, ean.symm, Nat.zero_le _⟩ ?_
    rintro m σ' H' ⟨i, n, rs, s', told, v4, v5, rfl, rfl, F, B, hn, okr, hd, hi, et, ht⟩
    have sK : Same H H' := (same_new htl0).trans F.keep
    have hal : SqL K H' al (ns.map V.int) := sK.seq hs
    have htl' : H' tl = some (.lst (told.map V.int)) := F.keep _ _ upd_same
    refine ans_lt (b := decide (i < ns.length)) (val_var rfl) (val_is (val_lenL (val_var rfl) hal) (by rw [List.length_map])) (decide_eq_decide.mpr (by omega)) _ ?_
    by_cases c : i < ns.length
    · rw [decide_eq_true c]
      refine iteT ?_
      cases rs with
      | nil =>
        have hz := congrArg List.length hd
        rw [List.length_drop] at hz
        have : (flat []).length = 0 := rfl
        omega
      | cons q rs =>
        rw [flat_cons] at hd
        have ok := okr q (List.mem_cons_self ..)
        rw [List.length_cons] at hn
        have e1 : ns[i]? = some (q.1 : Int) := at_drop hd 0
        have hlen2 : i + 1 + q.2.length ≤ ns.length := by
          have hz := congrArg List.length hd
          rw [List.length_drop, List.length_append] at hz
          have : (one q).length = q.2.length + 1 := by
            show (_ :: _ : List Int).length = _
            rw [List.length_cons, List.length_map]
          omega
        have hd1 : ns.drop (i + 1) = q.2.map Int.ofNat ++ flat rs := by
          rw [← List.drop_drop, hd]
          rfl
        have cut : ((ns.map V.int).drop (i + 1)).take (i + 1 + q.2.length - (i + 1)) = nV q.2 := by
          rw [← List.map_drop, hd1, List.map_append, Nat.add_sub_cancel_left, List.take_append_of_le_length (by simp), List.take_of_length_le (by simp), List.map_map]
          rfl
        have hd2 : ns.drop (i + 1 + q.2.length) = flat rs := by
          rw [← List.drop_drop, hd1, List.drop_append_of_le_length (by simp), List.drop_of_length_le (by simp), List.nil_append]
        refine ⟨_, fun σ2 H2 z => z, ?_⟩
        refine q_set (v := .int ((i + 1 + q.2.length : Nat) : Int)) (val_k (va2 (val_var rfl) (val_var rfl)) fun Q' q' => ⟨al, ns, i, q, flat rs, rfl, hal, hd, ok, q'⟩) ?_
        refine q_setH (PV := fun v H2 => ∃ r, v = .ref r ∧ FarmSt K (upd H tl (.lst (told.map V.int))) H2 fa (doing s' (callAt q.1 q.2)).1 ∧ H2 r = some (.lst ((answered (doing s' (callAt q.1 q.2)).2).map V.int)) ∧ (upd H tl (.lst (told.map V.int))) r = none)
          (valH_kH (vah_cons (val_var rfl) (vah_cons (val_ixL (n := i) (val_var rfl) (val_var rfl) hal (V_at e1)) (vah1 (valH_cut (m := i + 1) (n := i + 1 + q.2.length) (val_var rfl) hal (nval_add (n := 1) (val_var rfl) val_c) (val_var rfl) (by rw [List.length_map]; omega) (by rw [List.length_map]; omega))))) ?_) ?_
        · rintro vs H2 ⟨r1, rfl, r2, rfl, v, rfl, nl, rfl, hnl, rfl⟩ Q' q'
          refine ⟨_, fa, s', n, nl, q.1, q.2, rfl, F.on (same_new hnl), B, by omega, by rw [← cut]; exact upd_same, ok, fun H3 r F3 h3 h0 => q' _ _ ⟨r, rfl, F3, h3, h0⟩⟩
        · rintro v H2 ⟨r, rfl, F3, h3, h0⟩
          have hl4 := out_len s' (callAt q.1 q.2)
          have nrt : r ≠ tl := fun z => by
            rw [z, upd_same] at h0
            cases h0
          have ht2 : H2 tl = some (.lst (told.map V.int)) := F3.keep _ _ upd_same
          refine q_app (v := .int (((answered (doing s' (callAt q.1 q.2)).2).length : Nat) : Int)) (val_var rfl) ht2 (val_is (val_lenL (val_var rfl) (SqL.of h3)) (by rw [List.length_map])) (by rw [List.length_map]; omega) ?_
          refine q_ext (val_var rfl) upd_same (val_var rfl) (r := r) (by rw [upd_ne nrt]; exact h3) (by simp [answered]; omega) ?_
          rw [upd_upd]
          refine st_set (val_var rfl) ?_
          have el : told.map V.int ++ [V.int (((answered (doing s' (callAt q.1 q.2)).2).length : Nat) : Int)] ++ (answered (doing s' (callAt q.1 q.2)).2).map V.int = (told ++ (((answered (doing s' (callAt q.1 q.2)).2).length : Int) :: answered (doing s' (callAt q.1 q.2)).2)).map V.int := by simp
          rw [el]
          refine ⟨rs.length, Nat.lt_succ_self _, i + 1 + q.2.length, n + 1, rs, (doing s' (callAt q.1 q.2)).1, _, _, _, rfl, rfl, F3.swap, doing_bd B _, by omega, fun z m => okr z (List.mem_cons_of_mem _ m), hd2, hlen2, ?_, ?_⟩
          · rw [← et]
            show _ = told ++ PyFlat.told (answered _ :: plays _ rs)
            rw [told_cons, List.append_assoc]
          · simp [answered]
            omega
    · rw [decide_eq_false c]
      refine iteF ?_
      have hz : rs = [] := flat_nil (by rw [← hd, List.drop_of_length_le (by omega)])
      subst hz
      refine st_ret (val_var rfl) (k _ tl ?_)
      have e3 : told = PyKh328.answers ns := by
        rw [← et]
        show told = told ++ []
        rw [List.append_nil]
      rw [← e3]
      exact htl'
end
end Wg

set_option Elab.async false
set_option linter.all false
set_option maxRecDepth 100000
set_option maxHeartbeats 0
namespace Wg
open PySem PySem.W PySem.Calls PyProof.Rows
theorem run (w : World) : HeadRun.RunEqS R qv hk ob 4000 names w := by
  intro os
  kernel_rfl
end Wg

set_option Elab.async false
set_option linter.all false
set_option maxRecDepth 100000
set_option maxHeartbeats 0
namespace Wg
open PySem PySem.Spec PyProof.Rows L2
open PySem.W (Codec)
theorem said : R.wellSaid = true := by decide +kernel
theorem facts {h : Heap} {mg : Str → Option Value} {w : World} {f : Addr} {K : PySem.W.Frag} (X : K.In h) (G : h.Ns mainGlobals mg) (hfa : mg ("answers" : Str) = some (.ref f)) (c : SaysW K) :
    ∃ fd : FuncData, (∀ (s : Shared) (us : List Value), us.length = (["calls"] : List Str).length → BindsTo s fd ⟨us, []⟩ ((["calls"] : List Str).zip us)) ∧ ∀ base : Heap, FnOk R.prog w K mg base CX0 9 f fd ["calls"] (spAns K) := by
  have T : Tx K mg := ⟨⟨h, X, G⟩, c⟩
  have e := hfa.symm.trans T.g_answers
  cases e
  obtain ⟨fd, F⟩ := T.d_answers
  have b := FunD.bindsA (ps := ["calls"]) F fun _ _ _ _ _ _ us hl => match us, hl with | [_], _ => rfl
  refine ⟨fd, b, fun base => ?_⟩
  exact ok_answers_fn T F
theorem fin : R.Holds := by
  w_on
  refine HeadRun.head_spec (r := R) (q := qv) (H := hk) (ob := ob) (M := 4000) (loose := names) (d := HandSHeadRun.topDef R.prog ansPlace) (kwd := []) ob_eq (by kernel_rfl) (fun s => by kernel_rfl) run (by kernel_rfl) (by kernel_rfl) (by kernel_rfl) PySem.W.os_shapes said (by decide +kernel) ⟨rfl, rfl, rfl, rfl, rfl, by decide +kernel⟩ ?hw ?hc
  case hw => exact ⟨[.list [.int 16]], by decide +kernel, by decide +kernel⟩
  case hc =>
    refine walk_by (r := R) (k := 9) (ps := ["calls"]) said (by kernel_rfl) rfl ⟨rfl, by decide, by decide⟩ ?F
    intro w mg fa h Y G hmg0
    obtain ⟨K, KX, c⟩ := Y
    have hmg : mg ("answers" : PySem.Str) = some (.ref fa) := by
      have e : (HandSHeadRun.topDef R.prog ansPlace).name = ("answers" : PySem.Str) := by kernel_rfl
      rw [← e]
      exact hmg0
    obtain ⟨fd, hb, hF⟩ := facts (w := w) KX G hmg c
    refine ⟨K, fd, spAns K, KX, hb, fun H xs a hO hwi hask hx => ?_, fun base _ _ => hF base⟩
    cases hx with
    | cons h1 h2 =>
      cases h2
      cases h1 with
      | lst hs ha =>
        have e := L2.ints_dw a.1 _ ha
        subst e
        have q : ((Codec.inLen 0 5000 a.1 && a.1.all (Codec.inInt 0 4294967295)) && true) = true := hwi
        rw [Bool.and_eq_true, Bool.and_eq_true] at q
        have ask : PyKh328.answers_asked a.1 = true := hask
        refine ⟨_, a.1, rfl, hs, fun x m => ?_, ask, fun H' p hp => .lst (L2.SqL.of hp) (L2.dw_ints _)⟩
        have z := List.all_eq_true.mp q.1.2 x m
        exact Codec.inInt_iff.mp z
end Wg

theorem PySem.Challenge.cw_warmthgrown_s01_answers_holds : PySem.Challenge.rw_warmthgrown_s01_answers.Holds := by
  exact Wg.fin

