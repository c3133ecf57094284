import PyProof.Rows.All
import Wide.All
import OpenK.AllK
import Wide.FinOn
import Open.SpecLaws
import KE.OsGo
import HandS.ForSpec
import HandS.Comp
import HandS.CallLocal
import HandS.More
import HandS.Deep
import HandS.OwnEq
import HandS.Iter
import HandS.Conv
import HandS.WrittenGet
import PySem.Challenge.RW_originways_s01_answers
set_option Elab.async false
set_option linter.all false
set_option maxRecDepth 100000
set_option maxHeartbeats 8000000
namespace My
open Su202
/-- how many addresses a prefix of that length holds -/
def size (l : Nat) : Nat := 2 ^ (addressBits - l)
theorem size_pos (l : Nat) : 0 < size l := Nat.pow_pos (by decide)
/-- a prefix, as the program asks it -/
def PrefixOk (a l : Nat) : Prop := l ≤ 6 ∧ a < 64 ∧ a % size l = 0
theorem isPrefix_iff {a l : Nat} : isPrefix a l = true ↔ PrefixOk a l := by
  show (decide (l ≤ 6) && (decide (a < 2 ^ 6) && a % size l == 0)) = true ↔ _
  rw [Bool.and_eq_true, Bool.and_eq_true, decide_eq_true_iff, decide_eq_true_iff, beq_iff_eq]
  exact Iff.rfl
theorem isPrefix_false {a l : Nat} (h : ¬ PrefixOk a l) : isPrefix a l = false := by
  cases e : isPrefix a l with
  | false => rfl
  | true => exact absurd (isPrefix_iff.mp e) h
theorem contains_iff {a l x : Nat} (h : a % size l = 0) : prefixContains a l x = true ↔ a ≤ x ∧ x < a + size l := by
  show (x / size l == a / size l) = true ↔ _
  rw [beq_iff_eq]
  have p := size_pos l
  have ea : size l * (a / size l) = a := by
    have := Nat.div_add_mod a (size l)
    omega
  have ex := Nat.div_add_mod x (size l)
  have lx := Nat.mod_lt x p
  constructor
  · intro e
    rw [e] at ex
    omega
  · intro ⟨h1, h2⟩
    generalize hs : size l = s at *
    generalize hq : a / s = q at *
    generalize hr : x / s = r at *
    rcases Nat.lt_trichotomy r q with c | c | c
    · have : s * (r + 1) ≤ s * q := Nat.mul_le_mul_left s c
      rw [Nat.mul_add] at this
      omega
    · exact c
    · have : s * (q + 1) ≤ s * r := Nat.mul_le_mul_left s c
      rw [Nat.mul_add] at this
      omega
theorem contains_eq {a l x : Nat} (h : a % size l = 0) : prefixContains a l x = decide (a ≤ x ∧ x < a + size l) := by
  cases e : prefixContains a l x with
  | true => exact (decide_eq_true ((contains_iff h).mp e)).symm
  | false =>
    refine (decide_eq_false fun q => ?_).symm
    rw [(contains_iff h).mpr q] at e
    cases e
/-- authorizes, as the specification's any asks it -/
def auth (a l o : Nat) (g : Roa) : Bool := g.covers a l && (decide (l ≤ g.maxLength) && g.origin == o)
theorem validity_eq (roas : List Roa) (a l o : Nat) : validity roas a l o = if roas.any (auth a l o) = true then 1 else if roas.any (fun g => g.covers a l) = true then 2 else 0 := rfl
theorem validity_le (roas : List Roa) (a l o : Nat) : validity roas a l o ≤ 2 := by
  rw [validity_eq]
  split
  · decide
  · split <;> decide
/-- what the program's ROAs and announcements keep -/
structure RoaOk (g : Roa) : Prop where
  pre : PrefixOk g.address g.length
  ml : g.length ≤ g.maxLength ∧ g.maxLength ≤ 6
  org : g.origin < 8
structure AnnOk (s : Announcement) : Prop where
  pre : PrefixOk s.address s.length
  anr : s.announcer < 8
  org : s.origin < 8
structure RegOk (r : Registry) : Prop where
  roas : ∀ g ∈ r.roas, RoaOk g
  anns : ∀ s ∈ r.announcements, AnnOk s
  roaN : r.roas.length ≤ 12
  annN : r.announcements.length ≤ 16
theorem take_more {α : Type} : ∀ {l : List α} {i : Nat} {x : α}, l[i]? = some x → l.take (i + 1) = l.take i ++ [x]
  | [], i, x, h => by simp at h
  | a :: l, 0, x, h => by
    have e : a = x := Option.some.inj h
    subst e
    rfl
  | a :: l, i + 1, x, h => by
    have ih := take_more (l := l) (i := i) (x := x) h
    show a :: l.take (i + 1) = a :: l.take i ++ [x]
    rw [ih]
    rfl
theorem any_more {α : Type} {l : List α} {i : Nat} {x : α} (f : α → Bool) (h : l[i]? = some x) : (l.take (i + 1)).any f = ((l.take i).any f || f x) := by
  rw [take_more h, List.any_append]
  simp
theorem mem_of_getElem? {α : Type} {l : List α} {i : Nat} {x : α} (h : l[i]? = some x) : x ∈ l := List.mem_of_getElem? h
/-- one turn of the choice -/
def selStep (x : Nat) (best : Option Announcement) (s : Announcement) : Option Announcement := if prefixContains s.address s.length x = true then (match best with
  | none => some s
  | some y => if isPreferred s y = true then some s else some y) else best
theorem select_eq (l : List Announcement) (x : Nat) : selectAnnouncement l x = l.foldl (selStep x) none := rfl
theorem select_more {l : List Announcement} {i : Nat} {s : Announcement} (x : Nat) (h : l[i]? = some s) : selectAnnouncement (l.take (i + 1)) x = selStep x (selectAnnouncement (l.take i) x) s := by
  rw [select_eq, select_eq, take_more h, List.foldl_append]
  rfl
theorem select_mem {x : Nat} : ∀ (l : List Announcement) (b : Option Announcement) (P : Announcement → Prop), (∀ s ∈ l, P s) → (∀ s, b = some s → P s) → ∀ s, l.foldl (selStep x) b = some s → P s
  | [], _, _, _, hb, s, e => hb s e
  | a :: l, b, P, hl, hb, s, e => by
    refine select_mem l (selStep x b a) P (fun s hs => hl s (List.Mem.tail _ hs)) (fun t ht => ?_) s e
    unfold selStep at ht
    have ha : P a := hl a (List.Mem.head _)
    split at ht
    · split at ht
      · cases ht
        exact ha
      · split at ht
        · cases ht
          exact ha
        · cases ht
          exact hb _ rfl
    · exact hb t ht
theorem select_ok {l : List Announcement} {x : Nat} {s : Announcement} (P : Announcement → Prop) (hl : ∀ s ∈ l, P s) (e : selectAnnouncement l x = some s) : P s :=
  select_mem l none P hl (fun _ q => by cases q) s e
/-- the program's preference, if by if -/
def pref (s y : Announcement) : Bool :=
  if s.length = y.length then (if s.isOwn = y.isOwn then (if s.announcer = y.announcer then decide (s.origin < y.origin) else decide (s.announcer < y.announcer)) else s.isOwn) else decide (y.length < s.length)
theorem pref_eq (s y : Announcement) : isPreferred s y = pref s y := by
  unfold isPreferred pref
  by_cases h1 : s.length = y.length
  · rw [if_pos h1]
    have e1 : decide (y.length < s.length) = false := decide_eq_false (by omega)
    have e2 : (y.length == s.length) = true := beq_iff_eq.mpr h1.symm
    rw [e1, e2, Bool.false_or, Bool.true_and]
    cases ha : s.isOwn <;> cases hb : y.isOwn <;> simp
    · by_cases h2 : s.announcer = y.announcer
      · simp [h2]
      · simp [h2]
    · by_cases h2 : s.announcer = y.announcer
      · simp [h2]
      · simp [h2]
  · rw [if_neg h1]
    have e2 : (y.length == s.length) = false := beq_eq_false_iff_ne.mpr (fun q => h1 q.symm)
    rw [e2, Bool.false_and, Bool.or_false]
end My
namespace My
open Su202
/-! ### the flat list, call by call -/
/-- how many numbers a call has behind its own -/
def cnt (p : Int) : Option Nat := (PySu202.shape p).map fun q => q.1
theorem whole_id (c : List (List Int)) : PySu202.whole c = c := by
  unfold PySu202.whole
  split <;> rfl
theorem map_whole (cs : List (List (List Int))) : cs.map PySu202.whole = cs := by
  have e : PySu202.whole = id := funext whole_id
  rw [e, List.map_id]
/-- the numbers that name a call, and their counts -/
theorem shape_cases {p : Int} {n k : Nat} (h : PySu202.shape p = some (n, k)) : k = 0 ∧
    ((n = 0 ∧ (p = 0 ∨ p = 14 ∨ p = 16 ∨ p = 17)) ∨ (n = 4 ∧ (p = 1 ∨ p = 3 ∨ p = 4 ∨ p = 13)) ∨ (n = 3 ∧ p = 7) ∨
     (n = 1 ∧ (p = 2 ∨ p = 5 ∨ p = 6 ∨ p = 8 ∨ p = 9 ∨ p = 10 ∨ p = 11 ∨ p = 12 ∨ p = 15))) := by
  unfold PySu202.shape at h
  by_cases e0 : p = 0
  · rw [if_pos e0] at h
    obtain ⟨h1, h2⟩ := Prod.mk.inj (Option.some.inj h)
    omega
  rw [if_neg e0] at h
  by_cases e1 : p = 1
  · rw [if_pos e1] at h
    obtain ⟨h1, h2⟩ := Prod.mk.inj (Option.some.inj h)
    omega
  rw [if_neg e1] at h
  by_cases e2 : p = 2
  · rw [if_pos e2] at h
    obtain ⟨h1, h2⟩ := Prod.mk.inj (Option.some.inj h)
    omega
  rw [if_neg e2] at h
  by_cases e3 : p = 3
  · rw [if_pos e3] at h
    obtain ⟨h1, h2⟩ := Prod.mk.inj (Option.some.inj h)
    omega
  rw [if_neg e3] at h
  by_cases e4 : p = 4
  · rw [if_pos e4] at h
    obtain ⟨h1, h2⟩ := Prod.mk.inj (Option.some.inj h)
    omega
  rw [if_neg e4] at h
  by_cases e5 : p = 5
  · rw [if_pos e5] at h
    obtain ⟨h1, h2⟩ := Prod.mk.inj (Option.some.inj h)
    omega
  rw [if_neg e5] at h
  by_cases e6 : p = 6
  · rw [if_pos e6] at h
    obtain ⟨h1, h2⟩ := Prod.mk.inj (Option.some.inj h)
    omega
  rw [if_neg e6] at h
  by_cases e7 : p = 7
  · rw [if_pos e7] at h
    obtain ⟨h1, h2⟩ := Prod.mk.inj (Option.some.inj h)
    omega
  rw [if_neg e7] at h
  by_cases e8 : p = 8
  · rw [if_pos e8] at h
    obtain ⟨h1, h2⟩ := Prod.mk.inj (Option.some.inj h)
    omega
  rw [if_neg e8] at h
  by_cases e9 : p = 9
  · rw [if_pos e9] at h
    obtain ⟨h1, h2⟩ := Prod.mk.inj (Option.some.inj h)
    omega
  rw [if_neg e9] at h
  by_cases e10 : p = 10
  · rw [if_pos e10] at h
    obtain ⟨h1, h2⟩ := Prod.mk.inj (Option.some.inj h)
    omega
  rw [if_neg e10] at h
  by_cases e11 : p = 11
  · rw [if_pos e11] at h
    obtain ⟨h1, h2⟩ := Prod.mk.inj (Option.some.inj h)
    omega
  rw [if_neg e11] at h
  by_cases e12 : p = 12
  · rw [if_pos e12] at h
    obtain ⟨h1, h2⟩ := Prod.mk.inj (Option.some.inj h)
    omega
  rw [if_neg e12] at h
  by_cases e13 : p = 13
  · rw [if_pos e13] at h
    obtain ⟨h1, h2⟩ := Prod.mk.inj (Option.some.inj h)
    omega
  rw [if_neg e13] at h
  by_cases e14 : p = 14
  · rw [if_pos e14] at h
    obtain ⟨h1, h2⟩ := Prod.mk.inj (Option.some.inj h)
    omega
  rw [if_neg e14] at h
  by_cases e15 : p = 15
  · rw [if_pos e15] at h
    obtain ⟨h1, h2⟩ := Prod.mk.inj (Option.some.inj h)
    omega
  rw [if_neg e15] at h
  by_cases e16 : p = 16
  · rw [if_pos e16] at h
    obtain ⟨h1, h2⟩ := Prod.mk.inj (Option.some.inj h)
    omega
  rw [if_neg e16] at h
  by_cases e17 : p = 17
  · rw [if_pos e17] at h
    obtain ⟨h1, h2⟩ := Prod.mk.inj (Option.some.inj h)
    omega
  rw [if_neg e17] at h
  cases h
/-- one call of the list -/
structure Turn (f : Nat) (p : Int) (r : List Int) (cs : List (List (List Int))) where
  n : Nat
  cs' : List (List (List Int))
  sh : PySu202.shape p = some (n, 0)
  le : n ≤ r.length
  eq : cs = [p :: r.take n] :: cs'
  rest : PyFlat.calls PySu202.shape f (r.drop n) = some cs'
theorem turn {f : Nat} {p : Int} {r : List Int} {cs : List (List (List Int))} (h : PyFlat.calls PySu202.shape (f + 1) (p :: r) = some cs) : Nonempty (Turn f p r cs) := by
  have h' : (match PyFlat.call PySu202.shape (p :: r) with
    | none => none
    | some (d, t) => match PyFlat.calls PySu202.shape f t with
      | none => none
      | some ds => some (d :: ds)) = some cs := h
  cases e : PyFlat.call PySu202.shape (p :: r) with
  | none => rw [e] at h'; cases h'
  | some q =>
    obtain ⟨d, t⟩ := q
    rw [e] at h'
    have h2 : (match PyFlat.calls PySu202.shape f t with
      | none => none
      | some ds => some (d :: ds)) = some cs := h'
    cases e2 : PyFlat.calls PySu202.shape f t with
    | none => rw [e2] at h2; cases h2
    | some ds =>
      rw [e2] at h2
      have e3 : d :: ds = cs := Option.some.inj h2
      have e' : (match PySu202.shape p with
        | none => none
        | some (n, k) => if r.length < n then none else match PyFlat.rows k (r.drop n) with
          | none => none
          | some (xs, t) => some ((p :: r.take n) :: xs, t)) = some (d, t) := e
      cases e4 : PySu202.shape p with
      | none => rw [e4] at e'; cases e'
      | some nk =>
        obtain ⟨n, k⟩ := nk
        have hk := (shape_cases e4).1
        subst hk
        rw [e4] at e'
        have e5 : (if r.length < n then none else some ([p :: r.take n], r.drop n)) = some (d, t) := e'
        by_cases hl : r.length < n
        · rw [if_pos hl] at e5; cases e5
        · rw [if_neg hl] at e5
          cases e5
          exact ⟨⟨n, ds, e4, by omega, e3.symm, e2⟩⟩
theorem calls_nil {f : Nat} {cs : List (List (List Int))} (h : PyFlat.calls PySu202.shape f [] = some cs) : cs = [] := by
  cases f <;> exact (Option.some.inj h).symm
theorem calls_zero {p : Int} {r : List Int} {cs : List (List (List Int))} (h : PyFlat.calls PySu202.shape 0 (p :: r) = some cs) : False := by cases h
/-! ### the machine -/
def stp (s : Option Registry) (c : List (List Int)) : Option Registry × List Int := Su202Neutral.step s (c.headD [])
/-- what the rest of the calls answer -/
def restOf (s : Option Registry) (cs : List (List (List Int))) : List Int := PyFlat.told (PyFlat.played stp s cs)
def resI (z : Result) : List Int := z.value :: z.fields.map fun (n : Nat) => (n : Int)
theorem rest_nil (s : Option Registry) : restOf s [] = [] := rfl
theorem rest_cons {s : Option Registry} {p : Int} {xs : List Int} {op : Operation} (cs : List (List (List Int))) (h : Su202Neutral.callOf (p :: xs) = some op) :
    restOf s ([p :: xs] :: cs) = (((resI (step s op).2).length : Nat) : Int) :: (resI (step s op).2 ++ restOf (step s op).1 cs) := by
  have e : stp s [p :: xs] = ((step s op).1, resI (step s op).2) := by
    show Su202Neutral.step s (p :: xs) = _
    unfold Su202Neutral.step
    rw [h]
    rfl
  show PyFlat.told ((stp s [p :: xs]).2 :: PyFlat.played stp (stp s [p :: xs]).1 cs) = _
  rw [e]
  rfl
theorem answers_eq {l : List Int} {cs : List (List (List Int))} (h : PyFlat.calls PySu202.shape l.length l = some cs) : PySu202.answers l = restOf none cs := by
  have e : PySu202.calls l = some cs := by
    unfold PySu202.calls
    rw [h]
    show some (cs.map PySu202.whole) = some cs
    rw [map_whole]
  unfold PySu202.answers
  rw [e]
  rfl
/-- what is asked of the list -/
theorem asked_calls {l : List Int} (h : PySu202.answers_asked l = true) : ∃ cs, PyFlat.calls PySu202.shape l.length l = some cs ∧ (PySu202.answers l).length ≤ 10000000 := by
  unfold PySu202.answers_asked at h
  cases e : PyFlat.calls PySu202.shape l.length l with
  | none => rw [e] at h; cases h
  | some cs =>
    rw [e] at h
    simp only [Bool.and_eq_true] at h
    exact ⟨cs, rfl, of_decide_eq_true h.2⟩
/-- what a call is, by its number and its numbers -/
theorem callOf_0 : Su202Neutral.callOf [0] = some .reset := rfl
theorem call_1 (xs : List Int) (op : Operation) (h : Su202Neutral.callOf (1 :: xs) = some op) : ∃ a b c d, xs = [a, b, c, d] ∧ op = .addRoa a.toNat b.toNat c.toNat d.toNat := by
  match xs, h with
  | [], h => cases h
  | [a], h => cases h
  | [a, b], h => cases h
  | [a, b, c], h => cases h
  | [a, b, c, d], h =>
    cases h
    exact ⟨a, b, c, d, rfl, rfl⟩
  | a :: b :: c :: d :: e :: r, h => cases h
theorem call_2 (xs : List Int) (op : Operation) (h : Su202Neutral.callOf (2 :: xs) = some op) : ∃ a, xs = [a] ∧ op = .removeRoa a.toNat := by
  match xs, h with
  | [], h => cases h
  | [a], h =>
    cases h
    exact ⟨a, rfl, rfl⟩
  | [a, b], h => cases h
  | [a, b, c], h => cases h
  | [a, b, c, d], h => cases h
  | a :: b :: c :: d :: e :: r, h => cases h
theorem call_3 (xs : List Int) (op : Operation) (h : Su202Neutral.callOf (3 :: xs) = some op) : ∃ a b c d, xs = [a, b, c, d] ∧ op = .announce a.toNat b.toNat c.toNat d.toNat := by
  match xs, h with
  | [], h => cases h
  | [a], h => cases h
  | [a, b], h => cases h
  | [a, b, c], h => cases h
  | [a, b, c, d], h =>
    cases h
    exact ⟨a, b, c, d, rfl, rfl⟩
  | a :: b :: c :: d :: e :: r, h => cases h
theorem call_4 (xs : List Int) (op : Operation) (h : Su202Neutral.callOf (4 :: xs) = some op) : ∃ a b c d, xs = [a, b, c, d] ∧ op = .withdraw a.toNat b.toNat c.toNat d.toNat := by
  match xs, h with
  | [], h => cases h
  | [a], h => cases h
  | [a, b], h => cases h
  | [a, b, c], h => cases h
  | [a, b, c, d], h =>
    cases h
    exact ⟨a, b, c, d, rfl, rfl⟩
  | a :: b :: c :: d :: e :: r, h => cases h
theorem call_5 (xs : List Int) (op : Operation) (h : Su202Neutral.callOf (5 :: xs) = some op) : ∃ a, xs = [a] ∧ op = .setStrict a.toNat := by
  match xs, h with
  | [], h => cases h
  | [a], h =>
    cases h
    exact ⟨a, rfl, rfl⟩
  | [a, b], h => cases h
  | [a, b, c], h => cases h
  | [a, b, c, d], h => cases h
  | a :: b :: c :: d :: e :: r, h => cases h
theorem call_6 (xs : List Int) (op : Operation) (h : Su202Neutral.callOf (6 :: xs) = some op) : ∃ a, xs = [a] ∧ op = .tightenRoas a.toNat := by
  match xs, h with
  | [], h => cases h
  | [a], h =>
    cases h
    exact ⟨a, rfl, rfl⟩
  | [a, b], h => cases h
  | [a, b, c], h => cases h
  | [a, b, c, d], h => cases h
  | a :: b :: c :: d :: e :: r, h => cases h
theorem call_7 (xs : List Int) (op : Operation) (h : Su202Neutral.callOf (7 :: xs) = some op) : ∃ a b c, xs = [a, b, c] ∧ op = .validity a.toNat b.toNat c.toNat := by
  match xs, h with
  | [], h => cases h
  | [a], h => cases h
  | [a, b], h => cases h
  | [a, b, c], h =>
    cases h
    exact ⟨a, b, c, rfl, rfl⟩
  | [a, b, c, d], h => cases h
  | a :: b :: c :: d :: e :: r, h => cases h
theorem call_8 (xs : List Int) (op : Operation) (h : Su202Neutral.callOf (8 :: xs) = some op) : ∃ a, xs = [a] ∧ op = .destination a.toNat := by
  match xs, h with
  | [], h => cases h
  | [a], h =>
    cases h
    exact ⟨a, rfl, rfl⟩
  | [a, b], h => cases h
  | [a, b, c], h => cases h
  | [a, b, c, d], h => cases h
  | a :: b :: c :: d :: e :: r, h => cases h
theorem call_9 (xs : List Int) (op : Operation) (h : Su202Neutral.callOf (9 :: xs) = some op) : ∃ a, xs = [a] ∧ op = .addressCount a.toNat := by
  match xs, h with
  | [], h => cases h
  | [a], h =>
    cases h
    exact ⟨a, rfl, rfl⟩
  | [a, b], h => cases h
  | [a, b, c], h => cases h
  | [a, b, c, d], h => cases h
  | a :: b :: c :: d :: e :: r, h => cases h
theorem call_10 (xs : List Int) (op : Operation) (h : Su202Neutral.callOf (10 :: xs) = some op) : ∃ a, xs = [a] ∧ op = .hijackers a.toNat := by
  match xs, h with
  | [], h => cases h
  | [a], h =>
    cases h
    exact ⟨a, rfl, rfl⟩
  | [a, b], h => cases h
  | [a, b, c], h => cases h
  | [a, b, c, d], h => cases h
  | a :: b :: c :: d :: e :: r, h => cases h
theorem call_11 (xs : List Int) (op : Operation) (h : Su202Neutral.callOf (11 :: xs) = some op) : ∃ a, xs = [a] ∧ op = .vulnerableAddresses a.toNat := by
  match xs, h with
  | [], h => cases h
  | [a], h =>
    cases h
    exact ⟨a, rfl, rfl⟩
  | [a, b], h => cases h
  | [a, b, c], h => cases h
  | [a, b, c, d], h => cases h
  | a :: b :: c :: d :: e :: r, h => cases h
theorem call_12 (xs : List Int) (op : Operation) (h : Su202Neutral.callOf (12 :: xs) = some op) : ∃ a, xs = [a] ∧ op = .previewTighten a.toNat := by
  match xs, h with
  | [], h => cases h
  | [a], h =>
    cases h
    exact ⟨a, rfl, rfl⟩
  | [a, b], h => cases h
  | [a, b, c], h => cases h
  | [a, b, c, d], h => cases h
  | a :: b :: c :: d :: e :: r, h => cases h
theorem call_13 (xs : List Int) (op : Operation) (h : Su202Neutral.callOf (13 :: xs) = some op) : ∃ a b c d, xs = [a, b, c, d] ∧ op = .previewAnnounce a.toNat b.toNat c.toNat d.toNat := by
  match xs, h with
  | [], h => cases h
  | [a], h => cases h
  | [a, b], h => cases h
  | [a, b, c], h => cases h
  | [a, b, c, d], h =>
    cases h
    exact ⟨a, b, c, d, rfl, rfl⟩
  | a :: b :: c :: d :: e :: r, h => cases h
theorem call_14 (xs : List Int) (op : Operation) (h : Su202Neutral.callOf (14 :: xs) = some op) : xs = [] ∧ op = .droppedAnnouncements := by
  match xs, h with
  | [], h =>
    cases h
    exact ⟨rfl, rfl⟩
  | [a], h => cases h
  | [a, b], h => cases h
  | [a, b, c], h => cases h
  | [a, b, c, d], h => cases h
  | a :: b :: c :: d :: e :: r, h => cases h
theorem call_15 (xs : List Int) (op : Operation) (h : Su202Neutral.callOf (15 :: xs) = some op) : ∃ a, xs = [a] ∧ op = .validPrefixCount a.toNat := by
  match xs, h with
  | [], h => cases h
  | [a], h =>
    cases h
    exact ⟨a, rfl, rfl⟩
  | [a, b], h => cases h
  | [a, b, c], h => cases h
  | [a, b, c, d], h => cases h
  | a :: b :: c :: d :: e :: r, h => cases h
theorem call_16 (xs : List Int) (op : Operation) (h : Su202Neutral.callOf (16 :: xs) = some op) : xs = [] ∧ op = .listRoas := by
  match xs, h with
  | [], h =>
    cases h
    exact ⟨rfl, rfl⟩
  | [a], h => cases h
  | [a, b], h => cases h
  | [a, b, c], h => cases h
  | [a, b, c, d], h => cases h
  | a :: b :: c :: d :: e :: r, h => cases h
theorem call_17 (xs : List Int) (op : Operation) (h : Su202Neutral.callOf (17 :: xs) = some op) : xs = [] ∧ op = .listAnnouncements := by
  match xs, h with
  | [], h =>
    cases h
    exact ⟨rfl, rfl⟩
  | [a], h => cases h
  | [a, b], h => cases h
  | [a, b, c], h => cases h
  | [a, b, c, d], h => cases h
  | a :: b :: c :: d :: e :: r, h => cases h
end My
namespace My
open Su202
/-! ### one more announcement -/
theorem prefixOf_ok {x l : Nat} (hx : x < 64) (hl : l ≤ 6) : PrefixOk (prefixOf x l) l := by
  refine ⟨hl, Nat.lt_of_le_of_lt (Nat.sub_le _ _) hx, ?_⟩
  show (x - x % size l) % size l = 0
  rw [show x - x % size l = size l * (x / size l) from by have := Nat.div_add_mod x (size l); omega]
  exact Nat.mul_mod_right _ _
theorem prefixOf_has {x l : Nat} (hx : x < 64) (hl : l ≤ 6) : prefixContains (prefixOf x l) l x = true := by
  refine (contains_iff (prefixOf_ok hx hl).2.2).mpr ?_
  have h1 := Nat.mod_lt x (size_pos l)
  have h2 := Nat.mod_le x (size l)
  show x - x % size l ≤ x ∧ x < x - x % size l + size l
  omega
/-- the choice behind one more announcement that contains the address -/
def plus (s : Announcement) : Option Announcement → Announcement
  | none => s
  | some y => if isPreferred s y = true then s else y
theorem select_add {l : List Announcement} {x : Nat} {s : Announcement} (h : prefixContains s.address s.length x = true) : selectAnnouncement (l ++ [s]) x = some (plus s (selectAnnouncement l x)) := by
  rw [select_eq, select_eq, List.foldl_append]
  show selStep x (l.foldl (selStep x) none) s = _
  generalize l.foldl (selStep x) none = b
  unfold selStep
  rw [if_pos h]
  cases b with
  | none => rfl
  | some y =>
    show (if isPreferred s y = true then some s else some y) = some (if isPreferred s y = true then s else y)
    split <;> rfl
theorem select_skip {l : List Announcement} {x : Nat} {s : Announcement} (h : prefixContains s.address s.length x = false) : selectAnnouncement (l ++ [s]) x = selectAnnouncement l x := by
  rw [select_eq, select_eq, List.foldl_append]
  show selStep x (l.foldl (selStep x) none) s = _
  generalize l.foldl (selStep x) none = b
  unfold selStep
  rw [if_neg (by rw [h]; exact Bool.false_ne_true)]
theorem accepted_add (r : Registry) (a l m o : Nat) : (r.announce a l m o).accepted = r.accepted ++ (if r.isAccepted a l o = true then [⟨a, l, m, o⟩] else []) := by
  show (r.announcements ++ [(⟨a, l, m, o⟩ : Announcement)]).filter (fun s => r.isAccepted s.address s.length s.origin) = _
  rw [List.filter_append]
  congr 1
  rw [List.filter_cons]
  rfl
/-- the destination behind one more announcement -/
theorem dest_add {r : Registry} {x a l m o : Nat} (h : prefixContains a l x = true) : (r.announce a l m o).destination x = if r.isAccepted a l o = true then some (plus ⟨a, l, m, o⟩ (selectAnnouncement r.accepted x)).announcer else r.destination x := by
  show (selectAnnouncement (r.announce a l m o).accepted x).map (fun s => s.announcer) = _
  rw [accepted_add]
  by_cases c : r.isAccepted a l o = true
  · rw [if_pos c, if_pos c, select_add h]
    rfl
  · rw [if_neg c, if_neg c, List.append_nil]
    rfl
/-- the one that is chosen is at least as good as the new one -/
def beats (s : Announcement) : Option Announcement → Bool
  | none => true
  | some y => isPreferred s y
/-- who is not the destination attracts the address just where the new announcement is accepted and preferred -/
theorem dest_add_iff {r : Registry} {x a l m o : Nat} (h : prefixContains a l x = true) (hd : r.destination x ≠ some m) :
    ((r.announce a l m o).destination x == some m) = (r.isAccepted a l o && beats ⟨a, l, m, o⟩ (selectAnnouncement r.accepted x)) := by
  rw [dest_add h]
  have hd' : (r.destination x == some m) = false := beq_eq_false_iff_ne.mpr hd
  by_cases c : r.isAccepted a l o = true
  · rw [if_pos c, c, Bool.true_and]
    unfold Registry.destination at hd
    cases e : selectAnnouncement r.accepted x with
    | none => exact beq_self_eq_true _
    | some y =>
      rw [e] at hd
      show (some (if isPreferred ⟨a, l, m, o⟩ y = true then (⟨a, l, m, o⟩ : Announcement) else y).announcer == some m) = isPreferred ⟨a, l, m, o⟩ y
      by_cases p : isPreferred ⟨a, l, m, o⟩ y = true
      · rw [if_pos p, p]
        exact beq_self_eq_true _
      · rw [if_neg p, Bool.eq_false_iff.mpr p]
        exact beq_eq_false_iff_ne.mpr hd
  · rw [if_neg c, Bool.eq_false_iff.mpr c, Bool.false_and]
    exact hd'
/-- a member attracts the address by an announcement of that length and origin -/
def luring (r : Registry) (x m l o : Nat) : Bool := r.isAccepted (prefixOf x l) l o && beats ⟨prefixOf x l, l, m, o⟩ (selectAnnouncement r.accepted x)
theorem hijack_iff {r : Registry} {x m : Nat} (hx : x < 64) : r.canHijack x m = (r.destination x != some m && (List.range 8).any fun o => (List.range 7).any fun l => luring r x m l o) := by
  show (r.destination x != some m && (List.range 8).any (fun o => (List.range 7).any fun l => (r.announce (prefixOf x l) l m o).destination x == some m)) = _
  by_cases hd : r.destination x = some m
  · have e : (r.destination x != some m) = false := by rw [hd, bne_self_eq_false]
    rw [e, Bool.false_and, Bool.false_and]
  · have e : (r.destination x != some m) = true := bne_iff_ne.mpr hd
    rw [e, Bool.true_and, Bool.true_and, Bool.eq_iff_iff]
    have key : ∀ l o, l < 7 → ((r.announce (prefixOf x l) l m o).destination x == some m) = luring r x m l o := fun l o hl => dest_add_iff (prefixOf_has hx (by omega)) hd
    simp only [List.any_eq_true, List.mem_range]
    constructor
    · rintro ⟨o, ho, l, hl, h⟩
      exact ⟨o, ho, l, hl, (key l o hl).symm.trans h⟩
    · rintro ⟨o, ho, l, hl, h⟩
      exact ⟨o, ho, l, hl, (key l o hl).trans h⟩
end My
namespace My
open Su202
/-! ### validity and acceptance as the program asks them -/
def cov (gs : List Roa) (a l : Nat) : List Roa := gs.filter fun g => g.covers a l
def aut (cs : List Roa) (l : Nat) : List Nat := (cs.filter fun g => decide (l ≤ g.maxLength)).map Roa.origin
theorem cov_any (gs : List Roa) (a l : Nat) : gs.any (fun g => g.covers a l) = !(cov gs a l).isEmpty := by
  unfold cov
  induction gs with
  | nil => rfl
  | cons g gs ih =>
    rw [List.any_cons, List.filter_cons, ih]
    cases e : g.covers a l
    · rfl
    · rfl
theorem aut_auth (gs : List Roa) (a l o : Nat) : (aut (cov gs a l) l).contains o = gs.any (auth a l o) := by
  unfold aut cov
  induction gs with
  | nil => rfl
  | cons g gs ih =>
    rw [List.any_cons, List.filter_cons, ← ih]
    unfold auth
    cases e : g.covers a l
    · rfl
    · rw [if_pos rfl, List.filter_cons]
      cases e2 : decide (l ≤ g.maxLength)
      · rfl
      · rw [if_pos rfl, List.map_cons, List.contains_cons, Bool.true_and, Bool.true_and, BEq.comm]
theorem val_cov (gs : List Roa) (a l o : Nat) : validity gs a l o = if (cov gs a l).isEmpty = true then 0 else if (aut (cov gs a l) l).contains o = true then 1 else 2 := by
  rw [validity_eq, aut_auth, cov_any]
  cases e : (cov gs a l).isEmpty with
  | true =>
    have e2 : gs.any (auth a l o) = false := by
      rw [← aut_auth, List.isEmpty_iff.mp e]
      rfl
    rw [e2]
    rfl
  | false => rfl
def accO (gs : List Roa) (b : Bool) (a l : Nat) : List Nat := if ((cov gs a l).isEmpty && !b) = true then List.range 8 else aut (cov gs a l) l
theorem accO_iff (gs : List Roa) (b : Bool) (a l o : Nat) (ho : o < 8) : (accO gs b a l).contains o = (validity gs a l o == 1 || (validity gs a l o == 0 && !b)) := by
  rw [val_cov]
  unfold accO
  cases e : (cov gs a l).isEmpty with
  | true =>
    cases b with
    | false =>
      show (List.range 8).contains o = true
      rw [List.contains_iff_mem, List.mem_range]
      exact ho
    | true =>
      show (aut (cov gs a l) l).contains o = false
      rw [List.isEmpty_iff.mp e]
      rfl
  | false =>
    rw [Bool.false_and, if_neg Bool.false_ne_true, if_neg Bool.false_ne_true]
    cases c : (aut (cov gs a l) l).contains o <;> rfl
theorem accO_lt {gs : List Roa} {b : Bool} {a l : Nat} (h : ∀ g ∈ gs, RoaOk g) : ∀ o ∈ accO gs b a l, o < 8 := by
  intro o ho
  unfold accO at ho
  split at ho
  · exact List.mem_range.mp ho
  · obtain ⟨g, hg, rfl⟩ := List.mem_map.mp ho
    exact (h g (List.mem_filter.mp (List.mem_filter.mp hg).1).1).org
theorem cov_len (gs : List Roa) (a l : Nat) : (cov gs a l).length ≤ gs.length := List.length_filter_le _ _
theorem aut_len (cs : List Roa) (l : Nat) : (aut cs l).length ≤ cs.length := by
  unfold aut
  rw [List.length_map]
  exact List.length_filter_le _ _
theorem accO_len {gs : List Roa} (b : Bool) (a l : Nat) (h : gs.length ≤ 28) : (accO gs b a l).length ≤ 28 := by
  unfold accO
  split
  · decide
  · exact Nat.le_trans (aut_len _ _) (Nat.le_trans (cov_len _ _ _) h)
/-! ### who can hijack -/
def posAt (gs : List Roa) (b : Bool) (x l : Nat) : List (Nat × Nat × Nat) := (accO gs b (prefixOf x l) l).map fun o => (prefixOf x l, l, o)
def posN (gs : List Roa) (b : Bool) (x sh n : Nat) : List (Nat × Nat × Nat) := (List.range n).flatMap fun i => posAt gs b x (sh + i)
theorem posN_more (gs : List Roa) (b : Bool) (x sh n : Nat) : posN gs b x sh (n + 1) = posN gs b x sh n ++ posAt gs b x (sh + n) := by
  unfold posN
  rw [List.range_succ, List.flatMap_append]
  simp
theorem posAt_len {gs : List Roa} (b : Bool) (x l : Nat) (h : gs.length ≤ 28) : (posAt gs b x l).length ≤ 28 := by
  unfold posAt
  rw [List.length_map]
  exact accO_len _ _ _ h
theorem posN_len {gs : List Roa} (b : Bool) (x sh : Nat) (h : gs.length ≤ 28) : ∀ n, (posN gs b x sh n).length ≤ 28 * n
  | 0 => Nat.le_refl _
  | n + 1 => by
    have h1 := posN_len b x sh h n
    have h2 := posAt_len b x (sh + n) h
    rw [posN_more, List.length_append]
    omega
def lures (m : Nat) (sel : Option Announcement) (p : Nat × Nat × Nat) : Bool := beats ⟨p.1, p.2.1, m, p.2.2⟩ sel
def short : Option Announcement → Nat
  | none => 0
  | some y => y.length
def ancOf (sel : Option Announcement) : Option Nat := sel.map fun s => s.announcer
def hijM (gs : List Roa) (b : Bool) (x : Nat) (sel : Option Announcement) : List Nat :=
  (List.range 8).filter fun m => (some m != ancOf sel) && (posN gs b x (short sel) (7 - short sel)).any (lures m sel)
theorem beats_short {a l m o : Nat} {sel : Option Announcement} (h : beats ⟨a, l, m, o⟩ sel = true) : short sel ≤ l := by
  cases sel with
  | none => exact Nat.zero_le _
  | some y =>
    have h : isPreferred ⟨a, l, m, o⟩ y = true := h
    unfold isPreferred at h
    rw [Bool.or_eq_true, decide_eq_true_iff, Bool.and_eq_true, beq_iff_eq] at h
    show y.length ≤ l
    rcases h with h | h
    · exact Nat.le_of_lt h
    · exact Nat.le_of_eq h.1
theorem hij_eq (r : Registry) (hg : ∀ g ∈ r.roas, RoaOk g) {x : Nat} (hx : x < 64) : r.hijackers x = hijM r.roas r.strict x (selectAnnouncement r.accepted x) := by
  show (List.range 8).filter (r.canHijack x) = _
  unfold hijM
  refine List.filter_congr fun m hm => ?_
  rw [hijack_iff hx]
  have e1 : (r.destination x != some m) = (some m != ancOf (selectAnnouncement r.accepted x)) := by
    show (ancOf (selectAnnouncement r.accepted x) != some m) = _
    generalize ancOf (selectAnnouncement r.accepted x) = d
    cases d with
    | none => rfl
    | some n =>
      by_cases h : n = m
      · rw [h]
      · rw [bne_iff_ne.mpr fun q => h (Option.some.inj q), bne_iff_ne.mpr fun q => h (Option.some.inj q).symm]
  rw [e1]
  congr 1
  generalize hs : selectAnnouncement r.accepted x = sel
  rw [Bool.eq_iff_iff]
  simp only [List.any_eq_true, List.mem_range]
  constructor
  · rintro ⟨o, ho, l, hl, h⟩
    unfold luring at h
    rw [hs, Bool.and_eq_true] at h
    have hsh := beats_short h.2
    refine ⟨(prefixOf x l, l, o), ?_, h.2⟩
    unfold posN
    rw [List.mem_flatMap]
    refine ⟨l - short sel, List.mem_range.mpr (by omega), ?_⟩
    rw [show short sel + (l - short sel) = l by omega]
    unfold posAt
    refine List.mem_map.mpr ⟨o, ?_, rfl⟩
    rw [← List.contains_iff_mem, accO_iff _ _ _ _ _ ho]
    exact h.1
  · rintro ⟨p, hp, h⟩
    unfold posN at hp
    obtain ⟨i, hi, hp⟩ := List.mem_flatMap.mp hp
    obtain ⟨o, ho, rfl⟩ := List.mem_map.mp hp
    have ho8 := accO_lt hg o ho
    have hi := List.mem_range.mp hi
    refine ⟨o, ho8, short sel + i, by omega, ?_⟩
    unfold luring
    rw [hs, Bool.and_eq_true]
    refine ⟨?_, h⟩
    rw [← List.contains_iff_mem, accO_iff _ _ _ _ _ ho8] at ho
    exact ho
/-! ### all prefixes -/
def allAt (l : Nat) : List (Nat × Nat) := (List.range (2 ^ l)).map fun k => (k * size l, l)
def allN (n : Nat) : List (Nat × Nat) := (List.range n).flatMap allAt
theorem allN_more (n : Nat) : allN (n + 1) = allN n ++ allAt n := by
  unfold allN
  rw [List.range_succ, List.flatMap_append]
  simp
theorem allN_len : ∀ n, n ≤ 7 → (allN n).length < 128 := by decide
def validP (gs : List Roa) (m : Nat) : List (Nat × Nat) := (allN 7).filter fun p => validity gs p.1 p.2 m == 1
theorem validP_len (gs : List Roa) (m : Nat) : (validP gs m).length = ((List.range 7).map fun l => ((List.range (2 ^ l)).filter fun k => validity gs (k * 2 ^ (6 - l)) l m == 1).length).sum := by
  unfold validP allN
  rw [List.filter_flatMap, List.length_flatMap]
  congr 1
  refine List.map_congr_left fun l _ => ?_
  unfold allAt
  rw [List.filter_map, List.length_map]
  rfl
/-! ### counts -/
theorem split_len {α : Type} (f : α → Bool) : ∀ l : List α, (l.filter f).length + (l.filter fun x => !f x).length = l.length
  | [] => rfl
  | x :: l => by
    have ih := split_len f l
    rw [List.filter_cons, List.filter_cons]
    cases f x <;> simp <;> omega
end My
namespace My
open PySem PySem.Spec PyProof.Rows L2

/-! ### a def by its name -/
structure Ok (P : Program) (w : World) (K : PySem.W.Frag) (mg : Str → Option Value) (base : Heap) (k : Nat) (x : Str) (ps : List Str) (sp : Sp) : Prop where
  ex : ∃ a fd, FnOk P w K mg base CX0 k a fd ps sp ∧ mg x = some (.ref a) ∧ PySem.W.keepIn K (.ref a) = true ∧ Binds K fd ps []
structure Def (K : PySem.W.Frag) (mg : Str → Option Value) (x qual : Str) (st : Stmt) (ps : List Str) : Prop where
  ex : ∃ a fd, Fun K x qual st a fd ∧ mg x = some (.ref a) ∧ Binds K fd ps []
theorem Ok.mono {P : Program} {w : World} {K : PySem.W.Frag} {mg : Str → Option Value} {base : Heap} {j k : Nat} {x : Str} {ps : List Str} {sp : Sp} (O : Ok P w K mg base j x ps sp) (h : j ≤ k) : Ok P w K mg base k x ps sp := by
  obtain ⟨a, fd, F, r⟩ := O.ex
  exact ⟨a, fd, F.mono h, r⟩
def tCalS (sp : Sp) (t : TA) : TE := fun σ H Q => t σ H fun vs H1 => sp vs H1 Q E0
section
variable {X : Cx} {j k : Nat} {x : Str} {ps : List Str} {sp : Sp} {p pos : Pos} {e : Expr} {es : List Expr} {t : TA}
theorem Ok.call (O : Ok X.prog X.w X.K X.mg X.base k x ps sp) (hr : Room j X.A) (hg : Gl X x) (ha : PA X (e :: es) t) (hj : k ≤ j := by decide)
    (hdb : (x == ("__debug__" : Str)) = false := by decide) (he : starEach (e :: es) X.env = (false, eval e X.env) :: starEach es X.env := by rfl) (hpl : (backTo pos (starEach es X.env)).any (·.1) = false := by rfl) :
    PE X (.Call (.Name x p) (e :: es) [] pos) (tCalS sp t) := by
  obtain ⟨a, fd, F, hm, hk, hb⟩ := O.ex
  have q := pe_call (X := X) (p := p) (E := E0) F (hr.mono hj) hg hm hk hb .nil pass0 ha hdb he hpl
  have e0 : tCall sp [] E0 t = tCalS sp t := by
    funext σ H Q
    show t σ H (fun vs H1 => sp (vs ++ []) H1 Q E0) = t σ H (fun vs H1 => sp vs H1 Q E0)
    simp only [List.append_nil]
  rw [e0] at q
  exact q
theorem pe_con {n : Int} (h : ∃ u, X.mg x = some (.int n u)) (hg : Gl X x) (hd : (x == ("__debug__" : Str)) = false := by decide) : PE X (.Name x pos) (tC (.int n)) := by
  obtain ⟨u, h⟩ := h
  exact pe_glob hg h ⟨_, rfl⟩ hd
theorem pe_conR {a : Addr} (h : X.mg x = some (.ref a)) (hg : Gl X x) (hd : (x == ("__debug__" : Str)) = false := by decide) : PE X (.Name x pos) (tC (.ref a)) := pe_glob hg h rfl hd
end
section
variable {P : Program} {w : World} {K : PySem.W.Frag} {mg : Str → Option Value} {base : Heap}
theorem Def.ok {x qual : Str} {st : Stmt} {N ps : List Str} {k : Nat} {sp : Sp} (D : Def K mg x qual st ps) (S : FnScope N ps (defScope st)) (len : ∀ vs H Q E, sp vs H Q E → vs.length = ps.length)
    (hbody : ∀ (f : Addr) (cdv : Value) (A : Around) (outer : List Env) (s : Shared) (H : Hp) (vs : List V) (Q : VK) (E : XK), Room k (A.deeper (envOfC qual (defScope st) s.heap.objs.size f cdv)) → sp vs H Q E →
      ∃ t, PSs (cxOf CX0 P w K mg base N qual (defScope st) f cdv A outer s H E).nox (defBody st) t ∧ t { nx := fun _ H' => Q .non H', rt := Q } (start N vs) H) : Ok P w K mg base (k + 1) x ps sp := by
  obtain ⟨a, fd, F, hm, hb⟩ := D.ex
  exact ⟨a, fd, F.ok S len (hbody a), hm, F.kp, hb⟩
end

/-! ### written dicts with int keys -/
def intKey (e : DictEntry) : Bool := match e.key with
  | .int i _ => decide (e.hash = hashInt i)
  | _ => false
def KIx (K : PySem.W.Frag) (a : Addr) (i : Int) (v : V) : Prop :=
  ∃ es n u, K.lookup a = some ⟨.type "dict", none, .dict es n, #[]⟩ ∧ es.toList.all intKey = true ∧ findBy Value.isInt es i = some u ∧ RelV v u
def rIxI (K : PySem.W.Frag) : R2 := fun x y H Q => ∃ p i v, x = .ref p ∧ y = .int i ∧ KIx K p i v ∧ Q v H
section
variable {X : Cx}
theorem ix_kint : IxR X (rIxI X.K) := by
  intro value slice pins s σ H x y v u Q I rx ry h hs
  obtain ⟨p, i, r, rfl, rfl, ⟨es, n, u0, hl, hk, e, ru⟩, q⟩ := h
  obtain rfl : v = Value.ref p := rx
  obtain ⟨t, rfl⟩ := ry
  have ks : KeysOf (intKind X.prog X.w) es := fun e he => by
    have q := List.all_eq_true.mp hk e (Array.mem_toList_iff.mpr he)
    unfold intKey at q
    split at q
    · rename_i i t e1
      exact ⟨i, by rw [e1]; exact intKind_is X.prog X.w i t, of_decide_eq_true q⟩
    · cases q
  have hm : s.heap.MapOf (intKind X.prog X.w) p (fun k => findBy Value.isInt es k) :=
    ⟨_, es, n, I.kIn _ _ hl, ⟨rfl, rfl, rfl⟩, rfl, ks, fun _ => rfl⟩
  exact tail_any hm.typeIs slot_dict_getitem.lookup (wpAny_getItem_of (intKind_is X.prog X.w i t) hm e ⟨r, H, I.tok _, ru, q⟩) hs
end

/-! ### tuples of numbers in a list -/
/-- at t a tuple of the numbers ns -/
def TupAt (K : PySem.W.Frag) (H : Hp) (t : Addr) (ns : List Nat) : Prop := SqT K H t (ns.map fun (n : Nat) => V.int (n : Int))
def rowR (g : Su202.Roa) : List Nat := [g.address, g.length, g.maxLength, g.origin]
def rowA (s : Su202.Announcement) : List Nat := [s.address, s.length, s.announcer, s.origin]
/-- at p a list of the tuples of gs, row by row -/
structure RowsAt {α : Type} (row : α → List Nat) (K : PySem.W.Frag) (H : Hp) (p : Addr) (ts : List Addr) (gs : List α) : Prop where
  seq : H p = some (.lst (ts.map V.ref))
  len : ts.length = gs.length
  at_ : ∀ (i : Nat) (t : Addr) (g : α), ts[i]? = some t → gs[i]? = some g → TupAt K H t (row g)
theorem Same.seqT {K : PySem.W.Frag} {H H' : Hp} {a : Addr} {xs : List V} (e : Same H H') (h : SqT K H a xs) : SqT K H' a xs := h.ext e
theorem TupAt.same {K : PySem.W.Frag} {H H' : Hp} {t : Addr} {ns : List Nat} (h : TupAt K H t ns) (e : Same H H') : TupAt K H' t ns := SqT.ext h e
theorem RowsAt.same {α : Type} {row : α → List Nat} {K : PySem.W.Frag} {H H' : Hp} {p : Addr} {ts : List Addr} {gs : List α} (h : RowsAt row K H p ts gs) (e : Same H H') : RowsAt row K H' p ts gs :=
  ⟨e _ _ h.seq, h.len, fun i t g a b => (h.at_ i t g a b).same e⟩
theorem RowsAt.sq {α : Type} {row : α → List Nat} {K : PySem.W.Frag} {H : Hp} {p : Addr} {ts : List Addr} {gs : List α} (h : RowsAt row K H p ts gs) : SqL K H p (ts.map V.ref) := .of h.seq
theorem RowsAt.get {α : Type} {row : α → List Nat} {K : PySem.W.Frag} {H : Hp} {p : Addr} {ts : List Addr} {gs : List α} (h : RowsAt row K H p ts gs) {i : Nat} {v : V} (hv : (ts.map V.ref)[i]? = some v) :
    ∃ t g, v = .ref t ∧ ts[i]? = some t ∧ gs[i]? = some g ∧ TupAt K H t (row g) := by
  rw [List.getElem?_map] at hv
  cases e : ts[i]? with
  | none =>
    rw [e] at hv
    cases hv
  | some t =>
    rw [e] at hv
    have hv := Option.some.inj hv
    subst hv
    have hi := (List.getElem?_eq_some_iff.mp e).1
    rw [h.len] at hi
    have eg : gs[i]? = some gs[i] := List.getElem?_eq_getElem hi
    exact ⟨t, gs[i], rfl, rfl, eg, h.at_ i t _ e eg⟩
theorem aR0 {g : Su202.Roa} : atI ((rowR g).map fun (n : Nat) => V.int (n : Int)) 0 = some (.int ((g.address : Nat) : Int)) := atI_nat (j := 0) rfl
theorem aR1 {g : Su202.Roa} : atI ((rowR g).map fun (n : Nat) => V.int (n : Int)) 1 = some (.int ((g.length : Nat) : Int)) := atI_nat (j := 1) rfl
theorem aR2 {g : Su202.Roa} : atI ((rowR g).map fun (n : Nat) => V.int (n : Int)) 2 = some (.int ((g.maxLength : Nat) : Int)) := atI_nat (j := 2) rfl
theorem aR3 {g : Su202.Roa} : atI ((rowR g).map fun (n : Nat) => V.int (n : Int)) 3 = some (.int ((g.origin : Nat) : Int)) := atI_nat (j := 3) rfl
theorem aA0 {s : Su202.Announcement} : atI ((rowA s).map fun (n : Nat) => V.int (n : Int)) 0 = some (.int ((s.address : Nat) : Int)) := atI_nat (j := 0) rfl
theorem aA1 {s : Su202.Announcement} : atI ((rowA s).map fun (n : Nat) => V.int (n : Int)) 1 = some (.int ((s.length : Nat) : Int)) := atI_nat (j := 1) rfl
theorem aA2 {s : Su202.Announcement} : atI ((rowA s).map fun (n : Nat) => V.int (n : Int)) 2 = some (.int ((s.announcer : Nat) : Int)) := atI_nat (j := 2) rfl
theorem aA3 {s : Su202.Announcement} : atI ((rowA s).map fun (n : Nat) => V.int (n : Int)) 3 = some (.int ((s.origin : Nat) : Int)) := atI_nat (j := 3) rfl
theorem dec_lt {a b : Nat} : decide ((a : Int) < (b : Int)) = decide (a < b) := decide_eq_decide.mpr Int.ofNat_lt
theorem dec_le {a b : Nat} : decide ((a : Int) ≤ (b : Int)) = decide (a ≤ b) := decide_eq_decide.mpr Int.ofNat_le
theorem dec_eq {a b : Nat} : decide (V.int (a : Int) = V.int (b : Int)) = decide (a = b) := decide_eq_decide.mpr ⟨fun h => by injection h with h; exact Int.ofNat.inj h, fun h => by rw [h]⟩
end My
namespace My
open PySem PySem.Spec PyProof.Rows L2
/-! the rules with the written part told: for a comprehension's block, whose own letters a reading may not hold -/
section
variable {X : Cx} {K : PySem.W.Frag}
theorem ix_tupE (h : X.K = K) : IxR X (rIxT K) := h ▸ ix_tup
theorem ix_listE (h : X.K = K) : IxR X (rIxL K) := h ▸ ix_list
theorem ix_kintE (h : X.K = K) : IxR X (rIxI K) := h ▸ ix_kint
theorem op_eqDE (h : X.K = K) (hu : X.A.units + 64 < cLine) : OpR X (compareOp .Eq) (rEqD K) := h ▸ op_eqD hu
theorem op_neDE (h : X.K = K) (hu : X.A.units + 64 < cLine) : OpR X (compareOp .NotEq) (rNeD K) := h ▸ op_neD hu
theorem op_inDE (h : X.K = K) (hu : X.A.units + 65 < cLine) : OpR X (compareOp .In) (rInD K) := h ▸ op_inD hu
theorem op_notInDE (h : X.K = K) (hu : X.A.units + 65 < cLine) : OpR X (compareOp .NotIn) (rNotInD K) := h ▸ op_notInD hu
end
/-- the tuples at ts are those of gs -/
structure TupsAt {α : Type} (row : α → List Nat) (K : PySem.W.Frag) (H : Hp) (ts : List Addr) (gs : List α) : Prop where
  len : ts.length = gs.length
  at_ : ∀ (i : Nat) (t : Addr) (g : α), ts[i]? = some t → gs[i]? = some g → TupAt K H t (row g)
section
variable {α : Type} {row : α → List Nat} {K : PySem.W.Frag} {H H' : Hp} {p : Addr} {ts : List Addr} {gs : List α}
theorem RowsAt.tups (h : RowsAt row K H p ts gs) : TupsAt row K H ts gs := ⟨h.len, h.at_⟩
theorem TupsAt.rows (h : TupsAt row K H ts gs) (hs : H p = some (.lst (ts.map V.ref))) : RowsAt row K H p ts gs := ⟨hs, h.len, h.at_⟩
theorem TupsAt.same (h : TupsAt row K H ts gs) (e : Same H H') : TupsAt row K H' ts gs := ⟨h.len, fun i t g a b => (h.at_ i t g a b).same e⟩
theorem TupsAt.nil : TupsAt row K H [] ([] : List α) := ⟨rfl, fun i t g a => by simp at a⟩
theorem TupsAt.append {us : List Addr} {hs : List α} (h : TupsAt row K H ts gs) (q : TupsAt row K H us hs) : TupsAt row K H (ts ++ us) (gs ++ hs) := by
  refine ⟨by rw [List.length_append, List.length_append, h.len, q.len], fun i t g a b => ?_⟩
  by_cases c : i < ts.length
  · rw [List.getElem?_append_left c] at a
    rw [List.getElem?_append_left (by rw [← h.len]; exact c)] at b
    exact h.at_ i t g a b
  · rw [List.getElem?_append_right (by omega)] at a
    rw [List.getElem?_append_right (by rw [← h.len]; omega), ← h.len] at b
    exact q.at_ _ t g a b
theorem TupsAt.one {t : Addr} {g : α} (h : TupAt K H t (row g)) : TupsAt row K H [t] [g] := by
  refine ⟨rfl, fun i u x a b => ?_⟩
  cases i with
  | zero =>
    cases Option.some.inj a
    cases Option.some.inj b
    exact h
  | succ i => simp at a
theorem TupsAt.snoc {t : Addr} {g : α} (h : TupsAt row K H ts gs) (q : TupAt K H t (row g)) : TupsAt row K H (ts ++ [t]) (gs ++ [g]) := h.append (.one q)
/-- a tuple stands where a list is changed -/
theorem TupAt.updL {ns : List Nat} {t D : Addr} {xs : List V} {o : HO} (h : TupAt K H t ns) (hD : H D = some (.lst xs)) : TupAt K (upd H D o) t ns := by
  rcases h with (h | ⟨u, h⟩) | h
  · exact .inl (.inl ((upd_ne (ne_of h hD (by intro q; cases q))).trans h))
  · exact .inl (.inr ⟨u, (upd_ne (ne_of h hD (by intro q; cases q))).trans h⟩)
  · exact .inr h
theorem TupsAt.updL {D : Addr} {xs : List V} {o : HO} (h : TupsAt row K H ts gs) (hD : H D = some (.lst xs)) : TupsAt row K (upd H D o) ts gs := ⟨h.len, fun i t g a b => (h.at_ i t g a b).updL hD⟩
/-- a new object leaves what stood -/
theorem Same.new {p : Addr} {o : HO} (h : H p = none) : Same H (upd H p o) := fun b u e => (upd_ne (ne_of_none e h)).trans e
/-- a change at what was new -/
theorem Same.updN {D : Addr} {o : HO} (e : Same H H') (h : H D = none) : Same H (upd H' D o) := fun b u q => (upd_ne (ne_of_none q h)).trans (e b u q)
theorem map_snoc (ts : List Addr) (t : Addr) : ts.map V.ref ++ [V.ref t] = (ts ++ [t]).map V.ref := by rw [List.map_append]; rfl
theorem filter_more {l : List α} {i : Nat} {x : α} (f : α → Bool) (h : l[i]? = some x) : (l.take (i + 1)).filter f = (l.take i).filter f ++ (if f x = true then [x] else []) := by
  rw [take_more h, List.filter_append]
  congr 1
  rw [List.filter_cons]
  rfl
end
theorem dec_ne {a b : Nat} : (!decide (V.int (a : Int) = V.int (b : Int))) = (a != b) := by
  rw [dec_eq]
  by_cases h : a = b
  · rw [decide_eq_true h, h, bne_self_eq_false]
    rfl
  · rw [decide_eq_false h, bne_iff_ne.mpr h]
    rfl
theorem dec_beq {a b : Nat} : decide (V.int (a : Int) = V.int (b : Int)) = (a == b) := by
  rw [dec_eq]
  by_cases h : a = b
  · rw [decide_eq_true h, h, beq_self_eq_true]
  · rw [decide_eq_false h, beq_eq_false_iff_ne.mpr h]
theorem take_len_le {α : Type} (l : List α) (i : Nat) : (l.take i).length ≤ l.length := by
  rw [List.length_take]
  omega
theorem filter_len {α : Type} (f : α → Bool) (l : List α) (i : Nat) : ((l.take i).filter f).length ≤ l.length :=
  Nat.le_trans (List.length_filter_le _ _) (by rw [List.length_take]; omega)
end My
namespace My
open PySem PySem.Spec PyProof.Rows L2
theorem hu64 {A : Around} {k : Nat} (hr : Room k A) : A.units + 64 < cLine := by
  have := hr.un
  omega
theorem not_t {b : Bool} (h : (!b) = true) : b = false := by
  cases b with
  | true => cases h
  | false => rfl
theorem not_f {b : Bool} (h : (!b) = false) : b = true := by
  cases b with
  | true => rfl
  | false => cases h
/-! ### methods by their names -/
structure MOk (P : Program) (w : World) (K : PySem.W.Frag) (mg : Str → Option Value) (base : Heap) (C : Addr) (k : Nat) (x : Str) (ps : List Str) (sp : Sp) : Prop where
  cl : Cls K C
  ex : ∃ a fd, FnOk P w K mg base CX0 k a fd ps sp ∧ Meth K C x a ∧ Binds K fd ps []
structure MDef (K : PySem.W.Frag) (C : Addr) (x qual : Str) (st : Stmt) (ps : List Str) : Prop where
  cl : Cls K C
  ex : ∃ a fd, Fun K x qual st a fd ∧ Meth K C x a ∧ Binds K fd ps []
structure IOk (P : Program) (w : World) (K : PySem.W.Frag) (mg : Str → Option Value) (base : Heap) (C : Addr) (k : Nat) (cls : Str) (ps : List Str) (sp : Sp) : Prop where
  ex : ∃ a fd, FnOk P w K mg base CX0 k a fd ps sp ∧ Mk K C a ∧ mg cls = some (.ref C) ∧ Binds K fd ps []
structure IDef (K : PySem.W.Frag) (mg : Str → Option Value) (C : Addr) (cls qual : Str) (st : Stmt) (ps : List Str) : Prop where
  ex : ∃ a fd, Fun K "__init__" qual st a fd ∧ Mk K C a ∧ mg cls = some (.ref C) ∧ Binds K fd ps []
def tMethC (C : Addr) (m : Str) (sp : Sp) (ta : TE) (t : TA) : TE := fun σ H Q => ta σ H fun x H1 => ∃ a dx fs, x = .ref a ∧ H1 a = some (.ins C dx fs) ∧ fs.lookup m = none ∧ t σ H1 fun vs H2 => sp (x :: vs) H2 Q E0
def tMakeC (C : Addr) (sp : Sp) : TE := fun σ H Q => ∀ x dx, H x = none → H dx = none → dx ≠ x → sp [.ref x] (upd (upd H dx (.own x)) x (.ins C dx [])) (fun v H2 => v = .non ∧ Q (.ref x) H2) E0
section
variable {X : Cx} {j k : Nat} {x m : Str} {C : Addr} {ps : List Str} {sp : Sp} {p pos apos : Pos} {o e : Expr} {es : List Expr} {ta : TE} {t : TA}
theorem MOk.call {pl : Sem Bool} (O : MOk X.prog X.w X.K X.mg X.base C k m ps sp) (hr : Room j X.A) (he : PE X o ta) (ha : PA X (e :: es) t) (hj : k ≤ j := by decide)
    (hst : starEach (e :: es) X.env = (false, eval e X.env) :: starEach es X.env := by rfl) (hpl : (backTo pos (starEach es X.env)).any (·.1) = false := by rfl)
    (ht : eval (.Call (.Attribute o m apos) (e :: es) [] pos) X.env = (do
      let ov ← eval o X.env
      standAt apos.atName
      let (f, first) ← holding [ov] (getMethod ov m pl)
      callWith pos f first (backTo pos (starEach (e :: es) X.env)) (backToKw pos (keywordEach [] X.env))) := by rfl) :
    PE X (.Call (.Attribute o m apos) (e :: es) [] pos) (tMethC C m sp ta t) := by
  obtain ⟨a, fd, F, hm, hb⟩ := O.ex
  have q := pe_meth (X := X) (E := E0) he O.cl hm F (hr.mono hj) hb .nil pass0 ha hst hpl ht
  have e0 : tMeth C m sp [] E0 ta t = tMethC C m sp ta t := by
    funext σ H Q
    show (ta σ H fun x H1 => ∃ a dx fs, x = .ref a ∧ H1 a = some (.ins C dx fs) ∧ fs.lookup m = none ∧ t σ H1 fun vs H2 => sp (x :: (vs ++ [])) H2 Q E0) = _
    simp only [List.append_nil]
    rfl
  rw [e0] at q
  exact q
theorem MOk.call0 {pl : Sem Bool} (O : MOk X.prog X.w X.K X.mg X.base C k m ps sp) (hr : Room j X.A) (he : PE X o ta) (hj : k ≤ j := by decide)
    (ht : eval (.Call (.Attribute o m apos) [] [] pos) X.env = (do
      let ov ← eval o X.env
      standAt apos.atName
      let (f, first) ← holding [ov] (getMethod ov m pl)
      callWith pos f first (backTo pos (starEach [] X.env)) (backToKw pos (keywordEach [] X.env))) := by rfl) :
    PE X (.Call (.Attribute o m apos) [] [] pos) (tMethC C m sp ta tNil) := by
  obtain ⟨a, fd, F, hm, hb⟩ := O.ex
  exact pe_meth0 (X := X) (E := E0) he O.cl hm F (hr.mono hj) hb .nil pass0 ht
theorem IOk.make (O : IOk X.prog X.w X.K X.mg X.base C k x ps sp) (hr : Room j X.A) (hg : Gl X x) (hj : k + 1 ≤ j := by decide) (hdb : (x == ("__debug__" : Str)) = false := by decide) :
    PE X (.Call (.Name x p) [] [] pos) (tMakeC C sp) := by
  obtain ⟨a, fd, F, M, hm, hb⟩ := O.ex
  exact pe_make0 (X := X) (E := E0) M F (hr.mono hj) hg hm hb .nil pass0 hdb
end
section
variable {P : Program} {w : World} {K : PySem.W.Frag} {mg : Str → Option Value} {base : Heap} {C : Addr}
theorem MDef.ok {x qual : Str} {st : Stmt} {N ps : List Str} {k : Nat} {sp : Sp} (D : MDef K C x qual st ps) (S : FnScope N ps (defScope st)) (len : ∀ vs H Q E, sp vs H Q E → vs.length = ps.length)
    (hbody : ∀ (f : Addr) (cdv : Value) (A : Around) (outer : List Env) (s : Shared) (H : Hp) (vs : List V) (Q : VK) (E : XK), Room k (A.deeper (envOfC qual (defScope st) s.heap.objs.size f cdv)) → sp vs H Q E →
      ∃ t, PSs (cxOf CX0 P w K mg base N qual (defScope st) f cdv A outer s H E).nox (defBody st) t ∧ t { nx := fun _ H' => Q .non H', rt := Q } (start N vs) H) : MOk P w K mg base C (k + 1) x ps sp := by
  obtain ⟨a, fd, F, hm, hb⟩ := D.ex
  exact ⟨D.cl, a, fd, F.ok S len (hbody a), hm, hb⟩
theorem IDef.ok {cls qual : Str} {st : Stmt} {N ps : List Str} {k : Nat} {sp : Sp} (D : IDef K mg C cls qual st ps) (S : FnScope N ps (defScope st)) (len : ∀ vs H Q E, sp vs H Q E → vs.length = ps.length)
    (hbody : ∀ (f : Addr) (cdv : Value) (A : Around) (outer : List Env) (s : Shared) (H : Hp) (vs : List V) (Q : VK) (E : XK), Room k (A.deeper (envOfC qual (defScope st) s.heap.objs.size f cdv)) → sp vs H Q E →
      ∃ t, PSs (cxOf CX0 P w K mg base N qual (defScope st) f cdv A outer s H E).nox (defBody st) t ∧ t { nx := fun _ H' => Q .non H', rt := Q } (start N vs) H) : IOk P w K mg base C (k + 1) cls ps sp := by
  obtain ⟨a, fd, F, hm, hg, hb⟩ := D.ex
  exact ⟨a, fd, F.ok S len (hbody a), hm, hg, hb⟩
end
/-! ### the registry's fields -/
theorem lk_here {k : Str} {v : V} {r : List (Str × V)} : List.lookup k ((k, v) :: r) = some v := by
  have e : (k == k) = true := beq_self_eq_true k
  simp only [List.lookup, e]
theorem lk_past {k g : Str} {v : V} {r : List (Str × V)} (h : (k == g) = false) : List.lookup k ((g, v) :: r) = List.lookup k r := by
  simp only [List.lookup, h]
theorem put_here {f : Str} {v x : V} {r : List (Str × V)} : putF f v ((f, x) :: r) = (f, v) :: r := if_pos rfl
theorem put_past {f g : Str} {v x : V} {r : List (Str × V)} (h : ¬ g = f) : putF f v ((g, x) :: r) = (g, x) :: putF f v r := if_neg h
def rF (pr pa : Addr) (s : Int) : List (Str × V) := [("roas", .ref pr), ("announcements", .ref pa), ("strict", .int s)]
theorem rF_roas {pr pa : Addr} {s : Int} : (rF pr pa s).lookup ("roas" : Str) = some (.ref pr) := lk_here
theorem rF_anns {pr pa : Addr} {s : Int} : (rF pr pa s).lookup ("announcements" : Str) = some (.ref pa) := (lk_past (by decide +kernel)).trans lk_here
theorem rF_strict {pr pa : Addr} {s : Int} : (rF pr pa s).lookup ("strict" : Str) = some (.int s) := (lk_past (by decide +kernel)).trans ((lk_past (by decide +kernel)).trans lk_here)
theorem rF_no {pr pa : Addr} {s : Int} {m : Str} (h1 : (m == ("roas" : Str)) = false) (h2 : (m == ("announcements" : Str)) = false) (h3 : (m == ("strict" : Str)) = false) : (rF pr pa s).lookup m = none :=
  (lk_past h1).trans ((lk_past h2).trans ((lk_past h3).trans rfl))
theorem rF_putR {pr pa q : Addr} {s : Int} : putF "roas" (.ref q) (rF pr pa s) = rF q pa s := put_here
theorem rF_putA {pr pa q : Addr} {s : Int} : putF "announcements" (.ref q) (rF pr pa s) = rF pr q s := (put_past (by decide +kernel)).trans (congrArg _ put_here)
theorem rF_putS {pr pa : Addr} {s u : Int} : putF "strict" (.int u) (rF pr pa s) = rF pr pa u := (put_past (by decide +kernel)).trans (congrArg _ ((put_past (by decide +kernel)).trans (congrArg _ put_here)))
theorem rF_new {pr pa : Addr} {s : Int} : putF "strict" (.int s) (putF "announcements" (.ref pa) (putF "roas" (.ref pr) [])) = rF pr pa s := by
  have e1 : putF "announcements" (.ref pa) (putF "roas" (.ref pr) []) = ([("roas", .ref pr), ("announcements", .ref pa)] : List (Str × V)) := put_past (by decide +kernel)
  rw [e1]
  exact (put_past (by decide +kernel)).trans (congrArg _ (put_past (by decide +kernel)))
/-- what the class is for its fields -/
structure RCls (K : PySem.W.Frag) (C : Addr) : Prop where
  cl : Cls K C
  nR : NoAttr K C "roas"
  nA : NoAttr K C "announcements"
  nS : NoAttr K C "strict"
/-- all that stood, but at p -/
def Keep (p : Addr) (H H' : Hp) : Prop := ∀ b o, b ≠ p → H b = some o → H' b = some o
theorem Keep.of {p : Addr} {H H' : Hp} (e : Same H H') : Keep p H H' := fun b o _ h => e b o h
theorem Keep.trans {p : Addr} {H H1 H2 : Hp} (a : Keep p H H1) (b : Keep p H1 H2) : Keep p H H2 := fun c o n h => b c o n (a c o n h)
theorem Keep.upd {p : Addr} {H : Hp} {o : HO} : Keep p H (upd H p o) := fun b u n h => (upd_ne n).trans h
/-! ### a local name that holds some def -/
def tCallF (P : Program) (w : World) (K : PySem.W.Frag) (mg : Str → Option Value) (base : Heap) (k i : Nat) (t : TA) : TE := fun σ H Q => ∃ f, σ[i]? = some (some (.ref f)) ∧ PySem.W.keepIn K (.ref f) = true ∧
  t σ H fun vs H1 => ∃ fd ps sp, FnOk P w K mg base CX0 k f fd ps sp ∧ Binds K fd ps [] ∧ sp vs H1 Q E0
section
variable {X : Cx} {j k i : Nat} {x : Str} {p pos : Pos} {e : Expr} {es : List Expr} {t : TA}
theorem pe_callF (hr : Room j X.A) (hN : X.N[i]? = some x) (hv : Vis X.env.scope x) (ha : PA X (e :: es) t) (hj : k ≤ j := by decide)
    (hdb : (x == ("__debug__" : Str)) = false := by decide) (hcd : (x == ("__classdict__" : Str)) = false := by decide)
    (he : starEach (e :: es) X.env = (false, eval e X.env) :: starEach es X.env := by rfl) (hpl : (backTo pos (starEach es X.env)).any (·.1) = false := by rfl) :
    PE X (.Call (.Name x p) (e :: es) [] pos) (tCallF X.prog X.w X.K X.mg X.base k i t) := by
  refine ⟨fun pins s σ H Q I h => ?_⟩
  obtain ⟨f, hs, hk, ht⟩ := h
  refine wpAny_Call_Name_kw (thn ((pe_var (pos := p) hN hv hdb hcd).run pins s σ H (fun v H1 => v = .ref f ∧ H1 = H) I ⟨.ref f, hs, rfl, rfl⟩) fun u s1 ⟨v, H1, I1, r1, q1⟩ => ?_)
  obtain ⟨rfl, rfl⟩ := q1
  cases r1
  refine PySem.W.callWith_K (h₀ := X.base) I.ok.mod.kin hk (thn (ha.run pos pins s1 σ _ _ I1 ht) fun us s2 ⟨vs, H2, I2, r, q⟩ => ⟨I2.kIn, ?_⟩) he hpl
  obtain ⟨fd, ps, sp, F, hb, q⟩ := q
  have q' : sp (vs ++ []) H2 Q E0 := by
    rw [List.append_nil]
    exact q
  exact run_fn (dvs := []) (ds := []) F (hr.mono hj) hb .nil pass0 I2 r q'
end
theorem absV_ok : ∀ {u : Value} {x : V}, absV u = some x → RelV x u := by
  intro u x h
  cases u <;> first
    | (cases h; first | rfl | exact ⟨_, rfl⟩)
    | (exact nomatch h)
theorem vals_of : ∀ (xs : List V) (us : List Value), us.map absV = xs.map some → Vals xs us
  | [], [], _ => .nil
  | [], _ :: _, h => nomatch h
  | _ :: _, [], h => nomatch h
  | x :: xs, u :: us, h => by
    obtain ⟨h1, h2⟩ := List.cons.inj h
    exact .cons (absV_ok h1) (vals_of xs us h2)
/-- a written tuple -/
theorem sqT_of {K : PySem.W.Frag} {a : Addr} {d : Option Addr} {its : Array Value} {n : Nat} {sl : Array (Option Value)} {xs : List V} (l : K.lookup a = some ⟨.type "tuple", d, .seq its n, sl⟩) (v : its.toList.map absV = xs.map some) (hz : xs.length ≤ sizeLine) (H : Hp) : SqT K H a xs := by
  refine .inr ⟨_, its, n, l, rfl, rfl, ?_, vals_of _ _ v⟩
  have := congrArg List.length v
  rw [List.length_map, List.length_map, Array.length_toList] at this
  omega
/-- the table of the calls -/
structure Ops (K : PySem.W.Frag) (mg : Str → Option Value) (OP : Addr) (tbl : List (Int × Nat × Str)) : Prop where
  OPERATIONS : mg "OPERATIONS" = some (.ref OP)
  at_ : ∀ i n x, (i, n, x) ∈ tbl → ∃ t f, KIx K OP i (.ref t) ∧ (∀ H, SqT K H t [.int (n : Nat), .ref f]) ∧ mg x = some (.ref f)
theorem kix_of {K : PySem.W.Frag} {OP t : Addr} {es : Array DictEntry} {n : Nat} {i : Int} (l : K.lookup OP = some ⟨.type "dict", none, .dict es n, #[]⟩) (k : es.toList.all intKey = true) (b : findBy Value.isInt es i = some (.ref t)) : KIx K OP i (.ref t) := ⟨es, n, _, l, k, b, rfl⟩
end My
namespace My
open PySem PySem.Spec PyProof.Rows L2
/-! ### xs.extend(t), xs.count(y), x in ns, C(a, ..) -/
section
variable {X : Cx} {K : PySem.W.Frag}
theorem pe_fldE {e : Expr} {ta : TE} {f : Str} {pos : Pos} (h : X.K = K) (he : PE X e ta) (hb : attributeBase e f X.env (eval e X.env) = eval e X.env) : PE X (.Attribute e f pos) (tFld K ta f) := h ▸ pe_fld he hb
def tCal0 (sp : Sp) : TE := fun σ H Q => sp [] H Q E0
theorem Ok.call0 {j k : Nat} {x : Str} {ps : List Str} {sp : Sp} {p pos : Pos} (O : Ok X.prog X.w X.K X.mg X.base k x ps sp) (hr : Room j X.A) (hg : Gl X x) (hj : k ≤ j := by decide)
    (hdb : (x == ("__debug__" : Str)) = false := by decide) : PE X (.Call (.Name x p) [] [] pos) (tCal0 sp) := by
  obtain ⟨a, fd, F, hm, hk, hb⟩ := O.ex
  exact pe_call0 (X := X) (p := p) (E := E0) F (hr.mono hj) hg hm hk hb .nil pass0 hdb
def rExtendT (K : PySem.W.Frag) : V → List V → Hp → VK → Prop := fun x vs H Q => ∃ l b xs zs, x = .ref l ∧ vs = [.ref b] ∧ H l = some (.lst xs) ∧ SqT K H b zs ∧ xs.length + zs.length ≤ sizeLine ∧ Q .non (upd H l (.lst (xs ++ zs)))
section
open PySem
theorem ext_tup {l b : Addr} {xs ys : Array Value} {n m : Nat} {dd : Option Addr} {sl : Array (Option Value)} (big : ¬(!xs.isEmpty && Builtin.List.listTooLong (xs.size + ys.size)) = true) (z1 : xs.size ≤ sizeLine) (z2 : xs.size + ys.size ≤ sizeLine + 1) :
    Meets (Builtin.«list.extend» ⟨[.ref l, .ref b], []⟩)
      (fun _ R s => s.heap.get? l = some { cls := .type "list", data := .seq xs n } ∧ s.heap.get? b = some ⟨.type "tuple", dd, .seq ys m, sl⟩ ∧ R (.ok (.ret .none)) { s with heap := s.heap.update l (Obj.mapSeq (· ++ ys)) }) := by
  refine Meets.of_wp fun prog w A R s h => ?_
  obtain ⟨hp, g, d, tk, os⟩ := s
  obtain ⟨hl, hb, h⟩ := h
  have t1 := AutoSeq1.idx_int
  have t2 := AutoSeq1.sub_tuple_tuple
  have t3 := AutoSeq1.sub_list_list
  have t4 := AutoSeq1.sub_tuple_list
  have t5 := AutoSeq1.sub_list_tuple
  have z3 : (xs ++ ys).size ≤ sizeLine + 1 := by
    rw [Array.size_append]
    exact z2
  wp_walk using (wpAny_updateSeq hl rfl (hz := z1) (_hz' := z3)), wpAny_loadPart' hl, wpAny_loadPart' hb
  exact ⟨_, rfl, h⟩
end
theorem mt_extendT (h : X.K = K) : MtR X "list.extend" (rExtendT K) := by
  subst h
  intro pins s σ H x vs v us Q I rx rv h
  obtain ⟨l, b, xs, zs, rfl, rfl, hH, hB, hz, q⟩ := h
  cases rx
  obtain ⟨u, rfl, ru⟩ := rv.one
  cases ru
  obtain ⟨z, its, n, r, hl, e⟩ := I.lstM hH
  obtain ⟨its2, r2, ⟨⟨cls, dd, data, sl⟩, ho, hc, m, hd⟩, hz2⟩ := I.tuple hB
  simp only at hc hd
  subst hc hd
  have l2 := r2.length
  have big : ¬ (!its.toArray.isEmpty && Builtin.List.listTooLong (its.toArray.size + its2.toArray.size)) = true := by
    rw [notLongL (show its.toArray.size + its2.toArray.size ≤ sizeLine by rw [List.size_toArray, List.size_toArray]; omega), Bool.and_false]
    exact Bool.false_ne_true
  refine call_meets PySem.F.slot_list_extend ⟨_, e, rfl⟩ PySem.F.entry_list_extend (PySem.F.args_list_extend_2 _ _)
    (ext_tup (m := m) (dd := dd) (sl := sl) big (by rw [List.size_toArray]; omega) (by rw [List.size_toArray, List.size_toArray]; omega)) ⟨e, ho, ?_⟩
  refine ⟨.non, _, I.lset (its' := its ++ its2) hH e (by simp) (r.append r2) ?_, rfl, q⟩
  rw [List.length_append]
  omega
def cntV (y : V) (xs : List V) : Nat := xs.countP fun x => eqV x y
theorem cnt_eqU {x : V} : ∀ {xs : List V} {us : List Value}, Vals xs us → xs.all flatV = true → us.countP (eqU x) = cntV x xs
  | _, _, .nil, _ => rfl
  | y :: xs, u :: us, .cons r t, f => by
    rw [List.all_cons, Bool.and_eq_true] at f
    have ih := cnt_eqU (x := x) t f.2
    unfold cntV at ih ⊢
    rw [List.countP_cons, List.countP_cons, eqU_of r f.1, ih]
def rCntV (K : PySem.W.Frag) : V → List V → Hp → VK → Prop := fun x vs H Q => ∃ (p : Addr) (xs : List V) (y : V), x = .ref p ∧ vs = [y] ∧ SqL K H p xs ∧ flatV y = true ∧ xs.all flatV = true ∧ Q (.int (cntV y xs : Nat)) H
theorem mt_countV (h : X.K = K) : MtR X "list.count" (rCntV K) := by
  subst h
  intro pins s σ H x xs v us Q I rx rxs h
  obtain ⟨p, ys, y, rfl, rfl, hs, fy, fys, q⟩ := h
  cases rx
  cases rxs with
  | cons ry rt =>
    rename_i uy ut
    cases rt
    obtain ⟨its, rv, ⟨⟨cls, dd, data, sl⟩, n, ho, hc, hdn, hd⟩, hlen⟩ := I.list hs
    simp only at hc hd
    subst hc hd
    refine call_meets PySem.F.slot_list_count ⟨_, ho, rfl⟩ PySem.F.entry_list_count (PySem.F.args_list_count_2 _ _)
      (SeqAt.list_countAt p its.toArray n dd sl uy (eqU y)) ⟨ho, fun u' hu' => mem_eqAt ry fy rv fys u' (by simpa using hu'), ?_⟩
    have ec : its.toArray.toList.countP (eqU y) = cntV y ys := cnt_eqU rv fys
    refine ⟨.int (cntV y ys : Nat), H, I.tok _, ⟨s.toks, ?_⟩, q⟩
    show Value.int ((its.toArray.toList.countP (eqU y) : Nat) : Int) s.toks = Value.int ((cntV y ys : Nat) : Int) s.toks
    rw [ec]
theorem op_inSE (h : X.K = K) : OpR X (compareOp .In) (rIn K false) := h ▸ op_in_seq
theorem flat_ints : ∀ ns : List Nat, (ns.map fun (n : Nat) => V.int (n : Int)).all flatV = true
  | [] => rfl
  | n :: ns => by
    rw [List.map_cons, List.all_cons, flat_ints ns]
    rfl
theorem inV_ints (o : Nat) : ∀ ns : List Nat, inV (.int (o : Int)) (ns.map fun (n : Nat) => V.int (n : Int)) = ns.contains o
  | [] => rfl
  | n :: ns => by
    have ih := inV_ints o ns
    unfold inV at ih ⊢
    rw [List.map_cons, List.any_cons, ih, List.contains_cons]
    congr 1
    show ((n : Int) == (o : Int)) = (o == n)
    by_cases h : o = n
    · rw [h, beq_self_eq_true, beq_self_eq_true]
    · rw [beq_eq_false_iff_ne.mpr h]
      exact beq_eq_false_iff_ne.mpr fun z => h (Int.ofNat.inj z).symm
def nV (ns : List Nat) : List V := ns.map fun (n : Nat) => V.int (n : Int)
def rInI (K : PySem.W.Frag) : R2 := fun x y H Q => ∃ (p : Addr) (ns : List Nat) (o : Nat), x = .int (o : Int) ∧ y = .ref p ∧ SqL K H p (nV ns) ∧ Q (.bl (ns.contains o)) H
theorem op_inI (h : X.K = K) : OpR X (compareOp .In) (rInI K) := by
  subst h
  intro pins s σ H x y v u Q I rx ry hh
  obtain ⟨p, ns, o, rfl, rfl, hs, q⟩ := hh
  refine op_in_seq pins s σ H _ _ v u Q I rx ry ⟨p, _, rfl, .inl hs, rfl, flat_ints ns, ?_⟩
  rw [if_neg Bool.false_ne_true]
  have e : inV (.int (o : Int)) (nV ns) = ns.contains o := inV_ints o ns
  rw [e]
  exact q
def tMakeA (C : Addr) (sp : Sp) (t : TA) : TE := fun σ H Q => t σ H fun vs H1 => ∀ x dx, H1 x = none → H1 dx = none → dx ≠ x → sp (.ref x :: vs) (upd (upd H1 dx (.own x)) x (.ins C dx [])) (fun v H2 => v = .non ∧ Q (.ref x) H2) E0
theorem IOk.makeA {j k : Nat} {x : Str} {C : Addr} {ps : List Str} {sp : Sp} {p pos : Pos} {e : Expr} {es : List Expr} {t : TA} (O : IOk X.prog X.w X.K X.mg X.base C k x ps sp) (hr : Room j X.A) (hg : Gl X x) (ha : PA X (e :: es) t) (hj : k + 1 ≤ j := by decide)
    (hdb : (x == ("__debug__" : Str)) = false := by decide) (he : starEach (e :: es) X.env = (false, eval e X.env) :: starEach es X.env := by rfl) (hpl : (backTo pos (starEach es X.env)).any (·.1) = false := by rfl) :
    PE X (.Call (.Name x p) (e :: es) [] pos) (tMakeA C sp t) := by
  obtain ⟨a, fd, F, M, hm, hb⟩ := O.ex
  have q := pe_make (X := X) (p := p) (E := E0) M F (hr.mono hj) hg hm hb .nil pass0 ha hdb he hpl
  have e0 : tMake C sp [] E0 t = tMakeA C sp t := by
    funext σ H Q
    show (t σ H fun vs H1 => ∀ x dx, H1 x = none → H1 dx = none → dx ≠ x → sp (.ref x :: (vs ++ [])) (upd (upd H1 dx (.own x)) x (.ins C dx [])) (fun v H2 => v = .non ∧ Q (.ref x) H2) E0) = _
    simp only [List.append_nil]
    rfl
  rw [e0] at q
  exact q
end
end My
namespace My
open PySem PySem.Spec PyProof.Rows L2
/-- the i-th statement of the program -/
def top (i : Nat) : Stmt := PySem.Challenge.pw_originways_s01_answers.main.body.getD i (.Pass ⟨0, 0, 0, 0⟩)
abbrev s_all_fields : Stmt := top 6
abbrev N_all_fields : List Str := ["rows", "found", "row"]
abbrev P_all_fields : List Str := ["rows"]
theorem sc_all_fields : FnScope N_all_fields P_all_fields (defScope s_all_fields) := ⟨rfl, rfl, rfl, by decide +kernel, rfl, by decide +kernel, by decide +kernel⟩
abbrev s_is_member : Stmt := top 13
abbrev N_is_member : List Str := ["number"]
abbrev P_is_member : List Str := ["number"]
theorem sc_is_member : FnScope N_is_member P_is_member (defScope s_is_member) := ⟨rfl, rfl, rfl, by decide +kernel, rfl, by decide +kernel, by decide +kernel⟩
abbrev s_is_address : Stmt := top 16
abbrev N_is_address : List Str := ["number"]
abbrev P_is_address : List Str := ["number"]
theorem sc_is_address : FnScope N_is_address P_is_address (defScope s_is_address) := ⟨rfl, rfl, rfl, by decide +kernel, rfl, by decide +kernel, by decide +kernel⟩
abbrev s_is_prefix : Stmt := top 17
abbrev N_is_prefix : List Str := ["address", "length"]
abbrev P_is_prefix : List Str := ["address", "length"]
theorem sc_is_prefix : FnScope N_is_prefix P_is_prefix (defScope s_is_prefix) := ⟨rfl, rfl, rfl, by decide +kernel, rfl, by decide +kernel, by decide +kernel⟩
abbrev s_prefix_start : Stmt := top 18
abbrev N_prefix_start : List Str := ["address", "length"]
abbrev P_prefix_start : List Str := ["address", "length"]
theorem sc_prefix_start : FnScope N_prefix_start P_prefix_start (defScope s_prefix_start) := ⟨rfl, rfl, rfl, by decide +kernel, rfl, by decide +kernel, by decide +kernel⟩
abbrev s_all_prefixes : Stmt := top 19
abbrev N_all_prefixes : List Str := ["found", "length", "address"]
abbrev P_all_prefixes : List Str := []
theorem sc_all_prefixes : FnScope N_all_prefixes P_all_prefixes (defScope s_all_prefixes) := ⟨rfl, rfl, rfl, by decide +kernel, rfl, by decide +kernel, by decide +kernel⟩
abbrev s_contains_address : Stmt := top 20
abbrev N_contains_address : List Str := ["prefix_address", "prefix_length", "address"]
abbrev P_contains_address : List Str := ["prefix_address", "prefix_length", "address"]
theorem sc_contains_address : FnScope N_contains_address P_contains_address (defScope s_contains_address) := ⟨rfl, rfl, rfl, by decide +kernel, rfl, by decide +kernel, by decide +kernel⟩
abbrev s_contains_prefix : Stmt := top 21
abbrev N_contains_prefix : List Str := ["outer_address", "outer_length", "address", "length"]
abbrev P_contains_prefix : List Str := ["outer_address", "outer_length", "address", "length"]
theorem sc_contains_prefix : FnScope N_contains_prefix P_contains_prefix (defScope s_contains_prefix) := ⟨rfl, rfl, rfl, by decide +kernel, rfl, by decide +kernel, by decide +kernel⟩
abbrev s_is_roa : Stmt := top 26
abbrev N_is_roa : List Str := ["address", "length", "max_length"]
abbrev P_is_roa : List Str := ["address", "length", "max_length"]
theorem sc_is_roa : FnScope N_is_roa P_is_roa (defScope s_is_roa) := ⟨rfl, rfl, rfl, by decide +kernel, rfl, by decide +kernel, by decide +kernel⟩
abbrev s_covering_roas : Stmt := top 27
abbrev N_covering_roas : List Str := ["roas", "address", "length", "roa"]
abbrev P_covering_roas : List Str := ["roas", "address", "length"]
theorem sc_covering_roas : FnScope N_covering_roas P_covering_roas (defScope s_covering_roas) := ⟨rfl, rfl, rfl, by decide +kernel, rfl, by decide +kernel, by decide +kernel⟩
abbrev s_authorized_origins : Stmt := top 28
abbrev N_authorized_origins : List Str := ["covering", "length", "roa"]
abbrev P_authorized_origins : List Str := ["covering", "length"]
theorem sc_authorized_origins : FnScope N_authorized_origins P_authorized_origins (defScope s_authorized_origins) := ⟨rfl, rfl, rfl, by decide +kernel, rfl, by decide +kernel, by decide +kernel⟩
abbrev s_validity_code : Stmt := top 29
abbrev N_validity_code : List Str := ["roas", "address", "length", "origin", "covering"]
abbrev P_validity_code : List Str := ["roas", "address", "length", "origin"]
theorem sc_validity_code : FnScope N_validity_code P_validity_code (defScope s_validity_code) := ⟨rfl, rfl, rfl, by decide +kernel, rfl, by decide +kernel, by decide +kernel⟩
abbrev s_valid_prefixes : Stmt := top 30
abbrev N_valid_prefixes : List Str := ["roas", "origin", "found", "prefix"]
abbrev P_valid_prefixes : List Str := ["roas", "origin"]
theorem sc_valid_prefixes : FnScope N_valid_prefixes P_valid_prefixes (defScope s_valid_prefixes) := ⟨rfl, rfl, rfl, by decide +kernel, rfl, by decide +kernel, by decide +kernel⟩
abbrev s_tightened_roas : Stmt := top 31
abbrev N_tightened_roas : List Str := ["roas", "announcements", "member", "tightened", "roa", "announcement", "address", "length"]
abbrev P_tightened_roas : List Str := ["roas", "announcements", "member"]
theorem sc_tightened_roas : FnScope N_tightened_roas P_tightened_roas (defScope s_tightened_roas) := ⟨rfl, rfl, rfl, by decide +kernel, rfl, by decide +kernel, by decide +kernel⟩
abbrev s_accepted_origins : Stmt := top 33
abbrev N_accepted_origins : List Str := ["roas", "strict", "address", "length", "covering"]
abbrev P_accepted_origins : List Str := ["roas", "strict", "address", "length"]
theorem sc_accepted_origins : FnScope N_accepted_origins P_accepted_origins (defScope s_accepted_origins) := ⟨rfl, rfl, rfl, by decide +kernel, rfl, by decide +kernel, by decide +kernel⟩
abbrev s_is_accepted : Stmt := top 34
abbrev N_is_accepted : List Str := ["announcement", "roas", "strict", "origins"]
abbrev P_is_accepted : List Str := ["announcement", "roas", "strict"]
theorem sc_is_accepted : FnScope N_is_accepted P_is_accepted (defScope s_is_accepted) := ⟨rfl, rfl, rfl, by decide +kernel, rfl, by decide +kernel, by decide +kernel⟩
abbrev s_is_own : Stmt := top 35
abbrev N_is_own : List Str := ["announcement"]
abbrev P_is_own : List Str := ["announcement"]
theorem sc_is_own : FnScope N_is_own P_is_own (defScope s_is_own) := ⟨rfl, rfl, rfl, by decide +kernel, rfl, by decide +kernel, by decide +kernel⟩
abbrev s_is_preferred : Stmt := top 36
abbrev N_is_preferred : List Str := ["one", "other"]
abbrev P_is_preferred : List Str := ["one", "other"]
theorem sc_is_preferred : FnScope N_is_preferred P_is_preferred (defScope s_is_preferred) := ⟨rfl, rfl, rfl, by decide +kernel, rfl, by decide +kernel, by decide +kernel⟩
abbrev s_replaces : Stmt := top 37
abbrev N_replaces : List Str := ["one", "selected"]
abbrev P_replaces : List Str := ["one", "selected"]
theorem sc_replaces : FnScope N_replaces P_replaces (defScope s_replaces) := ⟨rfl, rfl, rfl, by decide +kernel, rfl, by decide +kernel, by decide +kernel⟩
abbrev s_selected_announcement : Stmt := top 38
abbrev N_selected_announcement : List Str := ["accepted", "address", "selected", "one"]
abbrev P_selected_announcement : List Str := ["accepted", "address"]
theorem sc_selected_announcement : FnScope N_selected_announcement P_selected_announcement (defScope s_selected_announcement) := ⟨rfl, rfl, rfl, by decide +kernel, rfl, by decide +kernel, by decide +kernel⟩
abbrev s_announcer_of : Stmt := top 39
abbrev N_announcer_of : List Str := ["selected"]
abbrev P_announcer_of : List Str := ["selected"]
theorem sc_announcer_of : FnScope N_announcer_of P_announcer_of (defScope s_announcer_of) := ⟨rfl, rfl, rfl, by decide +kernel, rfl, by decide +kernel, by decide +kernel⟩
abbrev s_destinations_by : Stmt := top 40
abbrev N_destinations_by : List Str := ["accepted", "address"]
abbrev P_destinations_by : List Str := ["accepted"]
theorem sc_destinations_by : FnScope N_destinations_by P_destinations_by (defScope s_destinations_by) := ⟨rfl, rfl, rfl, by decide +kernel, rfl, by decide +kernel, by decide +kernel⟩
abbrev s_moved_addresses : Stmt := top 41
abbrev N_moved_addresses : List Str := ["before", "after", "address"]
abbrev P_moved_addresses : List Str := ["before", "after"]
theorem sc_moved_addresses : FnScope N_moved_addresses P_moved_addresses (defScope s_moved_addresses) := ⟨rfl, rfl, rfl, by decide +kernel, rfl, by decide +kernel, by decide +kernel⟩
abbrev s_possible_announcements : Stmt := top 43
abbrev N_possible_announcements : List Str := ["registry", "address", "shortest", "found", "length", "start", "origin"]
abbrev P_possible_announcements : List Str := ["registry", "address", "shortest"]
theorem sc_possible_announcements : FnScope N_possible_announcements P_possible_announcements (defScope s_possible_announcements) := ⟨rfl, rfl, rfl, by decide +kernel, rfl, by decide +kernel, by decide +kernel⟩
abbrev s_can_attract : Stmt := top 44
abbrev N_can_attract : List Str := ["member", "possible", "selected", "one", "made"]
abbrev P_can_attract : List Str := ["member", "possible", "selected"]
theorem sc_can_attract : FnScope N_can_attract P_can_attract (defScope s_can_attract) := ⟨rfl, rfl, rfl, by decide +kernel, rfl, by decide +kernel, by decide +kernel⟩
abbrev s_hijacking_members : Stmt := top 45
abbrev N_hijacking_members : List Str := ["registry", "address", "selected", "shortest", "possible", "found", "member"]
abbrev P_hijacking_members : List Str := ["registry", "address", "selected"]
theorem sc_hijacking_members : FnScope N_hijacking_members P_hijacking_members (defScope s_hijacking_members) := ⟨rfl, rfl, rfl, by decide +kernel, rfl, by decide +kernel, by decide +kernel⟩
abbrev s_vulnerable_of : Stmt := top 46
abbrev N_vulnerable_of : List Str := ["registry", "member", "accepted", "found", "address", "selected"]
abbrev P_vulnerable_of : List Str := ["registry", "member"]
theorem sc_vulnerable_of : FnScope N_vulnerable_of P_vulnerable_of (defScope s_vulnerable_of) := ⟨rfl, rfl, rfl, by decide +kernel, rfl, by decide +kernel, by decide +kernel⟩
abbrev s_add_roa : Stmt := top 55
abbrev N_add_roa : List Str := ["registry", "address", "length", "max_length", "origin", "roa", "index", "moved"]
abbrev P_add_roa : List Str := ["registry", "address", "length", "max_length", "origin"]
theorem sc_add_roa : FnScope N_add_roa P_add_roa (defScope s_add_roa) := ⟨rfl, rfl, rfl, by decide +kernel, rfl, by decide +kernel, by decide +kernel⟩
abbrev s_remove_roa : Stmt := top 56
abbrev N_remove_roa : List Str := ["registry", "index", "remaining", "moved"]
abbrev P_remove_roa : List Str := ["registry", "index"]
theorem sc_remove_roa : FnScope N_remove_roa P_remove_roa (defScope s_remove_roa) := ⟨rfl, rfl, rfl, by decide +kernel, rfl, by decide +kernel, by decide +kernel⟩
abbrev s_announce : Stmt := top 57
abbrev N_announce : List Str := ["registry", "address", "length", "announcer", "origin", "announcement", "code", "moved"]
abbrev P_announce : List Str := ["registry", "address", "length", "announcer", "origin"]
theorem sc_announce : FnScope N_announce P_announce (defScope s_announce) := ⟨rfl, rfl, rfl, by decide +kernel, rfl, by decide +kernel, by decide +kernel⟩
abbrev s_withdraw : Stmt := top 58
abbrev N_withdraw : List Str := ["registry", "address", "length", "announcer", "origin", "announcement", "remaining", "one", "moved"]
abbrev P_withdraw : List Str := ["registry", "address", "length", "announcer", "origin"]
theorem sc_withdraw : FnScope N_withdraw P_withdraw (defScope s_withdraw) := ⟨rfl, rfl, rfl, by decide +kernel, rfl, by decide +kernel, by decide +kernel⟩
abbrev s_set_strict : Stmt := top 59
abbrev N_set_strict : List Str := ["registry", "strict", "previous", "moved"]
abbrev P_set_strict : List Str := ["registry", "strict"]
theorem sc_set_strict : FnScope N_set_strict P_set_strict (defScope s_set_strict) := ⟨rfl, rfl, rfl, by decide +kernel, rfl, by decide +kernel, by decide +kernel⟩
abbrev s_tighten_roas : Stmt := top 60
abbrev N_tighten_roas : List Str := ["registry", "member", "tightened", "moved"]
abbrev P_tighten_roas : List Str := ["registry", "member"]
theorem sc_tighten_roas : FnScope N_tighten_roas P_tighten_roas (defScope s_tighten_roas) := ⟨rfl, rfl, rfl, by decide +kernel, rfl, by decide +kernel, by decide +kernel⟩
abbrev s_validity : Stmt := top 61
abbrev N_validity : List Str := ["registry", "address", "length", "origin"]
abbrev P_validity : List Str := ["registry", "address", "length", "origin"]
theorem sc_validity : FnScope N_validity P_validity (defScope s_validity) := ⟨rfl, rfl, rfl, by decide +kernel, rfl, by decide +kernel, by decide +kernel⟩
abbrev s_destination : Stmt := top 62
abbrev N_destination : List Str := ["registry", "address", "selected"]
abbrev P_destination : List Str := ["registry", "address"]
theorem sc_destination : FnScope N_destination P_destination (defScope s_destination) := ⟨rfl, rfl, rfl, by decide +kernel, rfl, by decide +kernel, by decide +kernel⟩
abbrev s_address_count : Stmt := top 63
abbrev N_address_count : List Str := ["registry", "member", "found"]
abbrev P_address_count : List Str := ["registry", "member"]
theorem sc_address_count : FnScope N_address_count P_address_count (defScope s_address_count) := ⟨rfl, rfl, rfl, by decide +kernel, rfl, by decide +kernel, by decide +kernel⟩
abbrev s_hijackers : Stmt := top 64
abbrev N_hijackers : List Str := ["registry", "address", "selected", "members"]
abbrev P_hijackers : List Str := ["registry", "address"]
theorem sc_hijackers : FnScope N_hijackers P_hijackers (defScope s_hijackers) := ⟨rfl, rfl, rfl, by decide +kernel, rfl, by decide +kernel, by decide +kernel⟩
abbrev s_vulnerable_addresses : Stmt := top 65
abbrev N_vulnerable_addresses : List Str := ["registry", "member", "vulnerable"]
abbrev P_vulnerable_addresses : List Str := ["registry", "member"]
theorem sc_vulnerable_addresses : FnScope N_vulnerable_addresses P_vulnerable_addresses (defScope s_vulnerable_addresses) := ⟨rfl, rfl, rfl, by decide +kernel, rfl, by decide +kernel, by decide +kernel⟩
abbrev s_preview_tighten : Stmt := top 66
abbrev N_preview_tighten : List Str := ["registry", "member", "tightened", "after"]
abbrev P_preview_tighten : List Str := ["registry", "member"]
theorem sc_preview_tighten : FnScope N_preview_tighten P_preview_tighten (defScope s_preview_tighten) := ⟨rfl, rfl, rfl, by decide +kernel, rfl, by decide +kernel, by decide +kernel⟩
abbrev s_preview_announce : Stmt := top 67
abbrev N_preview_announce : List Str := ["registry", "address", "length", "announcer", "origin", "announcement", "moved"]
abbrev P_preview_announce : List Str := ["registry", "address", "length", "announcer", "origin"]
theorem sc_preview_announce : FnScope N_preview_announce P_preview_announce (defScope s_preview_announce) := ⟨rfl, rfl, rfl, by decide +kernel, rfl, by decide +kernel, by decide +kernel⟩
abbrev s_dropped_announcements : Stmt := top 68
abbrev N_dropped_announcements : List Str := ["registry", "dropped"]
abbrev P_dropped_announcements : List Str := ["registry"]
theorem sc_dropped_announcements : FnScope N_dropped_announcements P_dropped_announcements (defScope s_dropped_announcements) := ⟨rfl, rfl, rfl, by decide +kernel, rfl, by decide +kernel, by decide +kernel⟩
abbrev s_valid_prefix_count : Stmt := top 69
abbrev N_valid_prefix_count : List Str := ["registry", "member"]
abbrev P_valid_prefix_count : List Str := ["registry", "member"]
theorem sc_valid_prefix_count : FnScope N_valid_prefix_count P_valid_prefix_count (defScope s_valid_prefix_count) := ⟨rfl, rfl, rfl, by decide +kernel, rfl, by decide +kernel, by decide +kernel⟩
abbrev s_list_roas : Stmt := top 70
abbrev N_list_roas : List Str := ["registry"]
abbrev P_list_roas : List Str := ["registry"]
theorem sc_list_roas : FnScope N_list_roas P_list_roas (defScope s_list_roas) := ⟨rfl, rfl, rfl, by decide +kernel, rfl, by decide +kernel, by decide +kernel⟩
abbrev s_list_announcements : Stmt := top 71
abbrev N_list_announcements : List Str := ["registry"]
abbrev P_list_announcements : List Str := ["registry"]
theorem sc_list_announcements : FnScope N_list_announcements P_list_announcements (defScope s_list_announcements) := ⟨rfl, rfl, rfl, by decide +kernel, rfl, by decide +kernel, by decide +kernel⟩
abbrev s_given_count : Stmt := top 73
abbrev N_given_count : List Str := ["number"]
abbrev P_given_count : List Str := ["number"]
theorem sc_given_count : FnScope N_given_count P_given_count (defScope s_given_count) := ⟨rfl, rfl, rfl, by decide +kernel, rfl, by decide +kernel, by decide +kernel⟩
abbrev s_perform : Stmt := top 74
abbrev N_perform : List Str := ["registry", "number", "given", "operation"]
abbrev P_perform : List Str := ["registry", "number", "given"]
theorem sc_perform : FnScope N_perform P_perform (defScope s_perform) := ⟨rfl, rfl, rfl, by decide +kernel, rfl, by decide +kernel, by decide +kernel⟩
abbrev s_R_init : Stmt := inClass (top 76) 0
abbrev N_R_init : List Str := ["self", "roas", "announcements", "strict"]
abbrev P_R_init : List Str := ["self", "roas", "announcements", "strict"]
theorem sc_R_init : FnScope N_R_init P_R_init (defScope s_R_init) := ⟨rfl, rfl, rfl, by decide +kernel, rfl, by decide +kernel, by decide +kernel⟩
abbrev s_R_accepted : Stmt := inClass (top 76) 1
abbrev N_R_accepted : List Str := ["self", "one"]
abbrev P_R_accepted : List Str := ["self"]
theorem sc_R_accepted : FnScope N_R_accepted P_R_accepted (defScope s_R_accepted) := ⟨rfl, rfl, rfl, by decide +kernel, rfl, by decide +kernel, by decide +kernel⟩
abbrev s_R_dropped : Stmt := inClass (top 76) 2
abbrev N_R_dropped : List Str := ["self", "one"]
abbrev P_R_dropped : List Str := ["self"]
theorem sc_R_dropped : FnScope N_R_dropped P_R_dropped (defScope s_R_dropped) := ⟨rfl, rfl, rfl, by decide +kernel, rfl, by decide +kernel, by decide +kernel⟩
abbrev s_R_destinations : Stmt := inClass (top 76) 3
abbrev N_R_destinations : List Str := ["self"]
abbrev P_R_destinations : List Str := ["self"]
theorem sc_R_destinations : FnScope N_R_destinations P_R_destinations (defScope s_R_destinations) := ⟨rfl, rfl, rfl, by decide +kernel, rfl, by decide +kernel, by decide +kernel⟩
abbrev s_R_with_roas : Stmt := inClass (top 76) 4
abbrev N_R_with_roas : List Str := ["self", "roas"]
abbrev P_R_with_roas : List Str := ["self", "roas"]
theorem sc_R_with_roas : FnScope N_R_with_roas P_R_with_roas (defScope s_R_with_roas) := ⟨rfl, rfl, rfl, by decide +kernel, rfl, by decide +kernel, by decide +kernel⟩
abbrev s_R_with_announcements : Stmt := inClass (top 76) 5
abbrev N_R_with_announcements : List Str := ["self", "announcements"]
abbrev P_R_with_announcements : List Str := ["self", "announcements"]
theorem sc_R_with_announcements : FnScope N_R_with_announcements P_R_with_announcements (defScope s_R_with_announcements) := ⟨rfl, rfl, rfl, by decide +kernel, rfl, by decide +kernel, by decide +kernel⟩
abbrev s_R_with_strict : Stmt := inClass (top 76) 6
abbrev N_R_with_strict : List Str := ["self", "strict"]
abbrev P_R_with_strict : List Str := ["self", "strict"]
theorem sc_R_with_strict : FnScope N_R_with_strict P_R_with_strict (defScope s_R_with_strict) := ⟨rfl, rfl, rfl, by decide +kernel, rfl, by decide +kernel, by decide +kernel⟩
abbrev s_R_moved_by : Stmt := inClass (top 76) 7
abbrev N_R_moved_by : List Str := ["self", "after"]
abbrev P_R_moved_by : List Str := ["self", "after"]
theorem sc_R_moved_by : FnScope N_R_moved_by P_R_moved_by (defScope s_R_moved_by) := ⟨rfl, rfl, rfl, by decide +kernel, rfl, by decide +kernel, by decide +kernel⟩
abbrev s_R_change_to : Stmt := inClass (top 76) 8
abbrev N_R_change_to : List Str := ["self", "after", "moved"]
abbrev P_R_change_to : List Str := ["self", "after"]
theorem sc_R_change_to : FnScope N_R_change_to P_R_change_to (defScope s_R_change_to) := ⟨rfl, rfl, rfl, by decide +kernel, rfl, by decide +kernel, by decide +kernel⟩
abbrev s_answers : Stmt := top 79
abbrev N_answers : List Str := ["calls", "registry", "found", "place", "number", "answered", "given"]
abbrev P_answers : List Str := ["calls"]
theorem sc_answers : FnScope N_answers P_answers (defScope s_answers) := ⟨rfl, rfl, rfl, by decide +kernel, rfl, by decide +kernel, by decide +kernel⟩
end My
namespace My
open PySem PySem.Spec PyProof.Rows L2
def Con (mg : Str → Option Value) (x : Str) (n : Int) : Prop := ∃ u, mg x = some (.int n u)
structure Cons (K : PySem.W.Frag) (mg : Str → Option Value) (SZ : Addr) : Prop where
  ADDRESS : Con mg "ADDRESS" 0
  LENGTH : Con mg "LENGTH" 1
  MAX_LENGTH : Con mg "MAX_LENGTH" 2
  ANNOUNCER : Con mg "ANNOUNCER" 2
  ORIGIN : Con mg "ORIGIN" 3
  ADDRESS_COUNT : Con mg "ADDRESS_COUNT" 64
  LONGEST : Con mg "LONGEST" 6
  MEMBER_COUNT : Con mg "MEMBER_COUNT" 8
  ROA_LIMIT : Con mg "ROA_LIMIT" 12
  ANNOUNCEMENT_LIMIT : Con mg "ANNOUNCEMENT_LIMIT" 16
  NO_REGISTRY : Con mg "NO_REGISTRY" (-11)
  NOT_THERE : Con mg "NOT_THERE" (-2)
  NO_ANNOUNCEMENT : Con mg "NO_ANNOUNCEMENT" (-6)
  EXISTS : Con mg "EXISTS" (-17)
  BAD_ARGUMENT : Con mg "BAD_ARGUMENT" (-22)
  LIMIT_REACHED : Con mg "LIMIT_REACHED" (-28)
  NO_DESTINATION : Con mg "NO_DESTINATION" (-33)
  NOT_FOUND : Con mg "NOT_FOUND" 0
  VALID : Con mg "VALID" 1
  INVALID : Con mg "INVALID" 2
  RESET : Con mg "RESET" 0
  SIZES : mg "SIZES" = some (.ref SZ)
  sizes : ∀ H, SqT K H SZ [.int 64, .int 32, .int 16, .int 8, .int 4, .int 2, .int 1]
  len : mg "len" = none
  range : mg "range" = none
  list : mg "list" = none
theorem q_bl {Q : VK} {H : Hp} {a b : Bool} (h : Q (.bl b) H) (e : a = b) : Q (.bl a) H := e ▸ h
theorem q_int {Q : VK} {H : Hp} {i j : Int} (h : Q (.int j) H) (e : i = j) : Q (.int i) H := e ▸ h
theorem ifb {b : Bool} {A B : Prop} (h1 : b = true → A) (h2 : b = false → B) : if b = true then A else B := by
  cases b with
  | true => exact iteT (h1 rfl)
  | false => exact iteF (h2 rfl)
theorem sizes_get : ∀ {l : Nat}, l ≤ 6 → ([.int 64, .int 32, .int 16, .int 8, .int 4, .int 2, .int 1] : List V)[l]? = some (.int ((size l : Nat) : Int))
  | 0, _ => rfl
  | 1, _ => rfl
  | 2, _ => rfl
  | 3, _ => rfl
  | 4, _ => rfl
  | 5, _ => rfl
  | 6, _ => rfl
  | n + 7, h => absurd h (by omega)
theorem hu65 {A : Around} {k : Nat} (hr : Room k A) : A.units + 65 < cLine := by
  have := hr.un
  omega
section
variable {P : Program} {w : World} {K : PySem.W.Frag} {mg : Str → Option Value} {base : Heap} {SZ : Addr}
def spIsMember : Sp := fun vs H Q _ => ∃ n : Nat, vs = [.int n] ∧ Q (.bl (decide (n < 8))) H
theorem ok_is_member (D : Def K mg "is_member" "is_member" s_is_member P_is_member) (C : Cons K mg SZ) : Ok P w K mg base 1 "is_member" P_is_member spIsMember := by
  refine D.ok sc_is_member (fun vs H Q E h => ?_) (fun f cdv A outer s H vs Q E hr h => ?_)
  · obtain ⟨n, rfl, _⟩ := h
    rfl
  · obtain ⟨n, rfl, k⟩ := h
    refine ⟨_, (pss_one (ps_ret (pe_cmpR op_lt (pv 0) (pe_con C.MEMBER_COUNT rfl) (nomark _)))), ?_⟩
    refine ⟨_, rfl, _, _, rfl, rfl, ?_⟩
    exact q_bl k (decide_eq_decide.mpr (by omega))
def spIsAddress : Sp := fun vs H Q _ => ∃ n : Nat, vs = [.int n] ∧ Q (.bl (decide (n < 64))) H
theorem ok_is_address (D : Def K mg "is_address" "is_address" s_is_address P_is_address) (C : Cons K mg SZ) : Ok P w K mg base 1 "is_address" P_is_address spIsAddress := by
  refine D.ok sc_is_address (fun vs H Q E h => ?_) (fun f cdv A outer s H vs Q E hr h => ?_)
  · obtain ⟨n, rfl, _⟩ := h
    rfl
  · obtain ⟨n, rfl, k⟩ := h
    refine ⟨_, (pss_one (ps_ret (pe_cmpR op_lt (pv 0) (pe_con C.ADDRESS_COUNT rfl) (nomark _)))), ?_⟩
    refine ⟨_, rfl, _, _, rfl, rfl, ?_⟩
    exact q_bl k (decide_eq_decide.mpr (by omega))
def spIsPrefix : Sp := fun vs H Q _ => ∃ a l : Nat, vs = [.int a, .int l] ∧ Q (.bl (Su202.isPrefix a l)) H
theorem ok_is_prefix (D : Def K mg "is_prefix" "is_prefix" s_is_prefix P_is_prefix) (C : Cons K mg SZ) (O_is_address : Ok P w K mg base 1 "is_address" P_is_address spIsAddress) : Ok P w K mg base 2 "is_prefix" P_is_prefix spIsPrefix := by
  refine D.ok sc_is_prefix (fun vs H Q E h => ?_) (fun f cdv A outer s H vs Q E hr h => ?_)
  · obtain ⟨n, l, rfl, _⟩ := h
    rfl
  · obtain ⟨a, l, rfl, k⟩ := h
    refine ⟨_, (pss_cons (ps_if (PW.pt (pw_or (pt_not (pt_val (O_is_address.call hr rfl (pa_cons (pv 0) pa_nil)))) (pw_or1 (pt_cmpR op_gt (pv 1) (pe_con C.LONGEST rfl) (nomark _)))))
          (pss_one (ps_ret pe_bl))
          pss_nil)
        (pss_one (ps_ret (pe_cmpR op_eq (pe_op op_mod (pv 0) (pe_ix (ix_tupE (K := K) rfl) (pe_conR C.SIZES rfl) (pv 1) (fun _ _ => rfl))) pe_int (nomark _))))), ?_⟩
    refine ⟨_, rfl, a, rfl, _, rfl, ?_⟩
    refine ifb (fun c => ?_) (fun c => ?_)
    · have c' : ¬ a < 64 := by simpa using c
      refine iteT (q_bl k ?_)
      exact (isPrefix_false fun q => c' q.2.1).symm
    · have c' : a < 64 := by simpa using c
      refine ⟨_, rfl, _, _, rfl, rfl, _, rfl, ?_⟩
      refine ifb (fun c2 => ?_) (fun c2 => ?_)
      · have d : ¬ l ≤ 6 := by
          have := of_decide_eq_true c2
          omega
        exact q_bl k (isPrefix_false fun q => d q.1).symm
      · have d : l ≤ 6 := by
          have := of_decide_eq_false c2
          omega
        refine ⟨_, rfl, _, rfl, SZ, _, _, _, rfl, rfl, C.sizes H, atI_nat (sizes_get d), _, _, rfl, rfl, Int.ofNat_lt.mpr (size_pos l), rfl, ?_⟩
        refine q_bl k ?_
        cases e : Su202.isPrefix a l with
        | true =>
          have h := (isPrefix_iff.mp e).2.2
          refine decide_eq_true ?_
          show V.int ((a : Int) % ((size l : Nat) : Int)) = V.int 0
          rw [← Int.natCast_emod, h]
          rfl
        | false =>
          refine decide_eq_false fun h => ?_
          injection h with h
          rw [← Int.natCast_emod] at h
          have h2 : a % size l = 0 := Int.ofNat.inj h
          rw [isPrefix_iff.mpr ⟨d, c', h2⟩] at e
          cases e
/-- the prefix's address is a multiple of its size -/
def spContains : Sp := fun vs H Q _ => ∃ p l a : Nat, vs = [.int p, .int l, .int a] ∧ PrefixOk p l ∧ Q (.bl (Su202.prefixContains p l a)) H
theorem ok_contains_address (D : Def K mg "contains_address" "contains_address" s_contains_address P_contains_address) (C : Cons K mg SZ) : Ok P w K mg base 1 "contains_address" P_contains_address spContains := by
  refine D.ok sc_contains_address (fun vs H Q E h => ?_) (fun f cdv A outer s H vs Q E hr h => ?_)
  · obtain ⟨n, l, a, rfl, _⟩ := h
    rfl
  · obtain ⟨p, l, a, rfl, hp, k⟩ := h
    refine ⟨_, (pss_one (ps_ret (pe_chain op_le op_lt (pv 0) (pv 2) (pe_op op_add (pv 0) (pe_ix (ix_tupE (K := K) rfl) (pe_conR C.SIZES rfl) (pv 1) (fun _ _ => rfl)))))), ?_⟩
    rw [contains_eq hp.2.2] at k
    refine ⟨_, rfl, _, rfl, _, _, rfl, rfl, _, rfl, ?_⟩
    refine ifb (fun c => ?_) (fun c => ?_)
    · have c' := of_decide_eq_true c
      refine ⟨_, rfl, _, rfl, SZ, _, _, _, rfl, rfl, C.sizes H, atI_nat (sizes_get hp.1), _, _, rfl, rfl, _, _, rfl, rfl, ?_⟩
      exact q_bl k (decide_eq_decide.mpr (by omega))
    · have c' := of_decide_eq_false c
      exact q_bl k (decide_eq_false (by omega)).symm
def spContainsP : Sp := fun vs H Q _ => ∃ p l a m : Nat, vs = [.int p, .int l, .int a, .int m] ∧ PrefixOk p l ∧ Q (.bl (decide (l ≤ m) && Su202.prefixContains p l a)) H
theorem ok_contains_prefix (D : Def K mg "contains_prefix" "contains_prefix" s_contains_prefix P_contains_prefix) (O_contains_address : Ok P w K mg base 1 "contains_address" P_contains_address spContains) : Ok P w K mg base 2 "contains_prefix" P_contains_prefix spContainsP := by
  refine D.ok sc_contains_prefix (fun vs H Q E h => ?_) (fun f cdv A outer s H vs Q E hr h => ?_)
  · obtain ⟨n, l, a, m, rfl, _⟩ := h
    rfl
  · obtain ⟨p, l, a, m, rfl, hp, k⟩ := h
    refine ⟨_, (pss_one (ps_ret (pe_and (pe_cmpR op_le (pv 1) (pv 3) (nomark _)) (pe_one (O_contains_address.call hr rfl (pa_cons (pv 0) (pa_cons (pv 1) (pa_cons (pv 2) pa_nil)))))))), ?_⟩
    refine ⟨_, rfl, _, rfl, _, _, rfl, rfl, _, rfl, ?_⟩
    refine ifb (fun c => ?_) (fun c => ?_)
    · have c' : decide (l ≤ m) = true := decide_eq_true (Int.ofNat_le.mp (of_decide_eq_true c))
      rw [c', Bool.true_and] at k
      exact ⟨_, rfl, _, rfl, _, rfl, p, l, a, rfl, hp, k⟩
    · have c' : decide (l ≤ m) = false := decide_eq_false fun q => of_decide_eq_false c (Int.ofNat_le.mpr q)
      rw [c', Bool.false_and] at k
      exact k
def spIsRoa : Sp := fun vs H Q _ => ∃ a l m : Nat, vs = [.int a, .int l, .int m] ∧ Q (.bl (Su202.isPrefix a l && decide (l ≤ m ∧ m ≤ 6))) H
theorem ok_is_roa (D : Def K mg "is_roa" "is_roa" s_is_roa P_is_roa) (C : Cons K mg SZ) (O_is_prefix : Ok P w K mg base 2 "is_prefix" P_is_prefix spIsPrefix) : Ok P w K mg base 3 "is_roa" P_is_roa spIsRoa := by
  refine D.ok sc_is_roa (fun vs H Q E h => ?_) (fun f cdv A outer s H vs Q E hr h => ?_)
  · obtain ⟨a, l, m, rfl, _⟩ := h
    rfl
  · obtain ⟨a, l, m, rfl, k⟩ := h
    refine ⟨_, (pss_one (ps_ret (pe_and (O_is_prefix.call hr rfl (pa_cons (pv 0) (pa_cons (pv 1) pa_nil))) (pe_one (pe_chain op_le op_le (pv 1) (pv 2) (pe_con C.LONGEST rfl)))))), ?_⟩
    refine ⟨_, rfl, _, rfl, a, l, rfl, _, rfl, ?_⟩
    refine ifb (fun c => ?_) (fun c => ?_)
    · rw [c, Bool.true_and] at k
      refine ⟨_, rfl, _, rfl, _, _, rfl, rfl, _, rfl, ?_⟩
      refine ifb (fun c2 => ?_) (fun c2 => ?_)
      · have d := of_decide_eq_true c2
        refine ⟨_, _, rfl, rfl, ?_⟩
        exact q_bl k (decide_eq_decide.mpr (by omega))
      · have d := of_decide_eq_false c2
        exact q_bl k (decide_eq_false (by omega)).symm
    · rw [c, Bool.false_and] at k
      exact k
def spStart : Sp := fun vs H Q _ => ∃ x l : Nat, vs = [.int x, .int l] ∧ l ≤ 6 ∧ Q (.int ((Su202.prefixOf x l : Nat) : Int)) H
theorem ok_prefix_start (D : Def K mg "prefix_start" "prefix_start" s_prefix_start P_prefix_start) (C : Cons K mg SZ) : Ok P w K mg base 1 "prefix_start" P_prefix_start spStart := by
  refine D.ok sc_prefix_start (fun vs H Q E h => ?_) (fun f cdv A outer s H vs Q E hr h => ?_)
  · obtain ⟨x, l, rfl, _⟩ := h
    rfl
  · obtain ⟨x, l, rfl, d, k⟩ := h
    refine ⟨_, (pss_one (ps_ret (pe_op op_sub (pv 0) (pe_op op_mod (pv 0) (pe_ix (ix_tupE (K := K) rfl) (pe_conR C.SIZES rfl) (pv 1) (fun _ _ => rfl)))))), ?_⟩
    refine ⟨_, rfl, _, rfl, _, rfl, SZ, _, _, _, rfl, rfl, C.sizes H, atI_nat (sizes_get d), _, _, rfl, rfl, Int.ofNat_lt.mpr (size_pos l), _, _, rfl, rfl, ?_⟩
    refine q_int k ?_
    show (x : Int) - (x : Int) % ((size l : Nat) : Int) = ((x - x % size l : Nat) : Int)
    rw [Int.ofNat_sub (Nat.mod_le _ _), Int.natCast_emod]
def rowP (p : Nat × Nat) : List Nat := [p.1, p.2]
def spAllP (K : PySem.W.Frag) : Sp := fun vs H Q _ => vs = [] ∧ ∀ (H' : Hp) (r : Addr) (ts : List Addr), Same H H' → H r = none → RowsAt rowP K H' r ts (allN 7) → Q (.ref r) H'
theorem rg_size : ∀ {l : Nat}, l ≤ 6 → RgC 0 64 ((size l : Nat) : Int) (2 ^ l)
  | 0, _ => ⟨by decide, by decide, by decide, by decide⟩
  | 1, _ => ⟨by decide, by decide, by decide, by decide⟩
  | 2, _ => ⟨by decide, by decide, by decide, by decide⟩
  | 3, _ => ⟨by decide, by decide, by decide, by decide⟩
  | 4, _ => ⟨by decide, by decide, by decide, by decide⟩
  | 5, _ => ⟨by decide, by decide, by decide, by decide⟩
  | 6, _ => ⟨by decide, by decide, by decide, by decide⟩
  | n + 7, h => absurd h (by omega)
theorem allAt_len (l : Nat) : (allAt l).length = 2 ^ l := by
  unfold allAt
  rw [List.length_map, List.length_range]
theorem allAt_get {l k : Nat} (h : k < 2 ^ l) : (allAt l)[k]? = some (k * size l, l) := by
  unfold allAt
  rw [List.getElem?_map, List.getElem?_range h]
  rfl
theorem ok_all_prefixes (D : Def K mg "all_prefixes" "all_prefixes" s_all_prefixes P_all_prefixes) (C : Cons K mg SZ) : Ok P w K mg base 1 "all_prefixes" P_all_prefixes (spAllP K) := by
  refine D.ok sc_all_prefixes (fun vs H Q E h => ?_) (fun f cdv A outer s H vs Q E hr h => ?_)
  · obtain ⟨rfl, _⟩ := h
    rfl
  · obtain ⟨rfl, k⟩ := h
    have T := C
    refine ⟨_, (pss_cons (ps_set (i := 0) sc_all_prefixes.nd rfl (Or.inl rfl) (pe_lst pa_nil))
        (pss_cons (ps_for PassesOwn.never rfl (pi_range1 rfl T.range (pa_cons (pe_op op_add (pe_con C.LONGEST rfl) pe_int) pa_nil)) (pg_name (i := 1) sc_all_prefixes.nd rfl (Or.inl rfl))
          (pss_one (ps_for PassesOwn.never rfl (pi_range3 rfl T.range (pa_cons pe_int (pa_cons (pe_con C.ADDRESS_COUNT rfl) (pa_cons (pe_ix (ix_tupE (K := K) rfl) (pe_conR C.SIZES rfl) (pv 1) (fun _ _ => rfl)) pa_nil)))) (pg_name (i := 2) sc_all_prefixes.nd rfl (Or.inl rfl))
            (pss_one (ps_expr (pe_bm PySem.F.plainAttrs_list PySem.F.slot_list_append PySem.F.type_list_append mt_append (pv 0) (pa_cons (pe_tup (pa_cons (pv 2) (pa_cons (pv 1) pa_nil))) pa_nil)))))))
        (pss_one (ps_ret (pv 0))))), ?_⟩
    refine ⟨Nat.zero_le _, fun D hD => ?_⟩
    refine ⟨_, _, rfl, rfl, 7, rfl, by decide, by decide, for_range (lo := 0) (n := 7)
      (fun i σ H' => ∃ v1 v2 ts, σ = [some (.ref D), v1, v2] ∧ Same H H' ∧ H' D = some (.lst (ts.map V.ref)) ∧ TupsAt rowP K H' ts (allN i))
      ⟨none, none, [], rfl, Same.new hD, upd_same, .nil⟩ ?_ ?_⟩
    · rintro i σ H' hi ⟨v1, v2, ts, rfl, e, hL, hT⟩
      have e0 : (0 : Int) + (i : Int) = (i : Int) := Int.zero_add _
      rw [e0]
      have hi6 : i ≤ 6 := by omega
      refine ⟨_, rfl, SZ, _, _, _, rfl, rfl, C.sizes _, atI_nat (sizes_get hi6), 0, 64, _, _, rfl, rg_size hi6, for_rangeC (lo := 0) (c := ((size i : Nat) : Int)) (n := 2 ^ i)
        (fun j σ H2 => ∃ v2 ts, σ = [some (.ref D), some (.int (i : Nat)), v2] ∧ Same H H2 ∧ H2 D = some (.lst (ts.map V.ref)) ∧ TupsAt rowP K H2 ts (allN i ++ (allAt i).take j))
        ⟨v2, ts, rfl, e, hL, by simpa using hT⟩ ?_ ?_⟩
      · rintro j σ H2 hj ⟨v2, ts, rfl, e, hL, hT⟩
        have e1 : (0 : Int) + (j : Nat) * ((size i : Nat) : Int) = ((j * size i : Nat) : Int) := by
          rw [Int.zero_add, Int.natCast_mul]
        rw [e1]
        refine ⟨_, rfl, .inl ⟨rfl, _, SqL.of hL⟩, _, rfl, _, rfl, (by show 2 ≤ sizeLine; decide), fun T hT0 => ?_⟩
        have nDT : D ≠ T := ne_of_none hL hT0
        have hL2 : upd H2 T (.tup [.int ((j * size i : Nat) : Int), .int ((i : Nat) : Int)]) D = some (.lst (ts.map V.ref)) := (upd_ne nDT).trans hL
        have hTT : TupAt K (upd H2 T (.tup [.int ((j * size i : Nat) : Int), .int ((i : Nat) : Int)])) T (rowP (j * size i, i)) := SqT.of upd_same
        refine ⟨D, _, _, rfl, rfl, hL2, ?_, some (.int ((j * size i : Nat) : Int)), ts ++ [T], rfl, Same.updN (e.trans (Same.new hT0)) hD, ?_, ?_⟩
        · have h1 := hT.len
          have h2 := allN_len i (by omega)
          have h3 : 2 ^ i ≤ 2 ^ 6 := Nat.pow_le_pow_right (by decide) hi6
          rw [List.length_append, List.length_take, allAt_len] at h1
          rw [List.length_map]
          exact small1000 (by omega)
        · rw [upd_same, map_snoc]
        · rw [take_more (allAt_get hj), ← List.append_assoc]
          exact ((hT.same (Same.new hT0)).snoc hTT).updL hL2
      · rintro σ H2 ⟨v2, ts, rfl, e, hL, hT⟩
        rw [← allAt_len i, List.take_length, ← allN_more] at hT
        exact ⟨_, _, ts, rfl, e, hL, hT⟩
    · rintro σ H' ⟨v1, v2, ts, rfl, e, hL, hT⟩
      exact ⟨_, rfl, k H' D ts e hD (hT.rows hL)⟩
end
end My
namespace My
open PySem PySem.Spec PyProof.Rows L2
structure GsOk (gs : List Su202.Roa) : Prop where
  all : ∀ g ∈ gs, RoaOk g
  len : gs.length ≤ 28
theorem RowsAt.emp {α : Type} {row : α → List Nat} {K : PySem.W.Frag} {H : Hp} {p : Addr} {ts : List Addr} {gs : List α} (h : RowsAt row K H p ts gs) : (ts.map V.ref).isEmpty = gs.isEmpty := by
  have := h.len
  cases ts <;> cases gs
  · rfl
  · simp at this
  · simp at this
  · rfl
theorem RowsAt.updL {α : Type} {row : α → List Nat} {K : PySem.W.Frag} {H : Hp} {p D : Addr} {xs : List V} {o : HO} {ts : List Addr} {gs : List α} (h : RowsAt row K H p ts gs) (hD : H D = some (.lst xs)) (n : p ≠ D) : RowsAt row K (upd H D o) p ts gs :=
  (h.tups.updL hD).rows ((upd_ne n).trans h.seq)
theorem aut_more {gs : List Su202.Roa} {i : Nat} {g : Su202.Roa} (l : Nat) (h : gs[i]? = some g) : aut (gs.take (i + 1)) l = aut (gs.take i) l ++ (if decide (l ≤ g.maxLength) = true then [g.origin] else []) := by
  unfold aut
  rw [filter_more _ h, List.map_append]
  congr 1
  split <;> rfl
theorem nV_snoc (ns : List Nat) (n : Nat) : nV ns ++ [V.int (n : Int)] = nV (ns ++ [n]) := by
  unfold nV
  rw [List.map_append]
  rfl
theorem nV_len (ns : List Nat) : (nV ns).length = ns.length := List.length_map _
theorem aP0 {p : Nat × Nat} : atI ((rowP p).map fun (n : Nat) => V.int (n : Int)) 0 = some (.int ((p.1 : Nat) : Int)) := atI_nat (j := 0) rfl
theorem aP1 {p : Nat × Nat} : atI ((rowP p).map fun (n : Nat) => V.int (n : Int)) 1 = some (.int ((p.2 : Nat) : Int)) := atI_nat (j := 1) rfl
section
variable {P : Program} {w : World} {K : PySem.W.Frag} {mg : Str → Option Value} {base : Heap} {SZ : Addr}
def spCov (K : PySem.W.Frag) : Sp := fun vs H Q _ => ∃ (p : Addr) (ts : List Addr) (gs : List Su202.Roa) (a l : Nat), vs = [.ref p, .int a, .int l] ∧ RowsAt rowR K H p ts gs ∧ GsOk gs ∧
  ∀ (H' : Hp) (r : Addr) (us : List Addr), Same H H' → H r = none → RowsAt rowR K H' r us (cov gs a l) → Q (.ref r) H'
theorem ok_covering_roas (D : Def K mg "covering_roas" "covering_roas" s_covering_roas P_covering_roas) (C : Cons K mg SZ) (O_contains_prefix : Ok P w K mg base 2 "contains_prefix" P_contains_prefix spContainsP) :
    Ok P w K mg base 3 "covering_roas" P_covering_roas (spCov K) := by
  refine D.ok sc_covering_roas (fun vs H Q E h => ?_) (fun f cdv A outer s H vs Q E hr h => ?_)
  · obtain ⟨p, ts, gs, a, l, rfl, _⟩ := h
    rfl
  · obtain ⟨p, ts, gs, a, l, rfl, hR, ok, k⟩ := h
    refine ⟨_, (pss_one (ps_ret (pe_lc (own := [("roa", 3)]) (g := gName 3) rfl sc_covering_roas.nd (pi_list (pv 0)) (blkOk_by (own := [("roa", 3)]) (N := N_covering_roas) (sc := defScope s_covering_roas) (by decide +kernel)) (fun _ _ _ _ _ => pg_name (i := 3) sc_covering_roas.nd rfl (Or.inl rfl)) (fun _ _ _ _ _ => (pts_one (pt_val (O_contains_prefix.call hr rfl (pa_cons (pe_ix (ix_tupE (K := K) rfl) (pv 3) (pe_con C.ADDRESS rfl) (fun _ _ => rfl)) (pa_cons (pe_ix (ix_tupE (K := K) rfl) (pv 3) (pe_con C.LENGTH rfl) (fun _ _ => rfl)) (pa_cons (pv 1) (pa_cons (pv 2) pa_nil)))))))) (fun _ _ _ _ _ => (pv 3))))), ?_⟩
    refine ⟨_, rfl, p, rfl, ⟨_, hR.sq⟩, fun D hD => lc_list (K := K) (a := p) (xs := ts.map V.ref)
      (fun i H' => ∃ vs, Same H H' ∧ H' D = some (.lst (vs.map V.ref)) ∧ TupsAt rowR K H' vs (cov (gs.take i) a l))
      ⟨[], Same.new hD, upd_same, .nil⟩ (fun i H' _ ⟨vs, e, _⟩ => e.seq hR.sq) ?_ ?_⟩
    · rintro i y H' hi ⟨vs, e, hL, hT⟩
      obtain ⟨t, g, rfl, _, hg, ht⟩ := hR.get hi
      have hm : cov (gs.take (i + 1)) a l = cov (gs.take i) a l ++ (if g.covers a l = true then [g] else []) := filter_more (α := Su202.Roa) (fun g => g.covers a l) hg
      have hgo := ok.all g (mem_of_getElem? hg)
      refine ⟨rfl, ?_⟩
      refine ⟨_, rfl, t, _, _, _, rfl, rfl, ht.same e, aR0, ?_⟩
      refine ⟨_, rfl, t, _, _, _, rfl, rfl, ht.same e, aR1, ?_⟩
      refine ⟨_, rfl, _, rfl, g.address, g.length, a, l, rfl, hgo.pre, _, rfl, ?_⟩
      refine ifb (fun c => ?_) (fun c => ?_)
      · have c : g.covers a l = true := c
        rw [c, if_pos rfl] at hm
        refine ⟨_, rfl, _, hL, ?_, vs ++ [t], Same.updN e hD, ?_, ?_⟩
        · have := filter_len (fun g => g.covers a l) gs i
          have h2 := hT.len
          have h3 := ok.len
          unfold cov at h2
          rw [List.length_map]
          exact small1000 (by omega)
        · rw [upd_same, map_snoc]
        · rw [hm]
          exact (hT.snoc (ht.same e)).updL hL
      · have c : g.covers a l = false := c
        rw [c, if_neg Bool.false_ne_true, List.append_nil] at hm
        exact ⟨vs, e, hL, by rw [hm]; exact hT⟩
    · rintro H' ⟨vs, e, hL, hT⟩
      rw [List.length_map, hR.len, List.take_length] at hT
      exact k H' D vs e hD (hT.rows hL)
def spAut (K : PySem.W.Frag) : Sp := fun vs H Q _ => ∃ (p : Addr) (ts : List Addr) (gs : List Su202.Roa) (l : Nat), vs = [.ref p, .int l] ∧ RowsAt rowR K H p ts gs ∧ gs.length ≤ 28 ∧
  ∀ (H' : Hp) (r : Addr), Same H H' → H r = none → H' r = some (.lst (nV (aut gs l))) → Q (.ref r) H'
theorem ok_authorized_origins (D : Def K mg "authorized_origins" "authorized_origins" s_authorized_origins P_authorized_origins) (C : Cons K mg SZ) :
    Ok P w K mg base 1 "authorized_origins" P_authorized_origins (spAut K) := by
  refine D.ok sc_authorized_origins (fun vs H Q E h => ?_) (fun f cdv A outer s H vs Q E hr h => ?_)
  · obtain ⟨p, ts, gs, l, rfl, _⟩ := h
    rfl
  · obtain ⟨p, ts, gs, l, rfl, hR, ok, k⟩ := h
    refine ⟨_, (pss_one (ps_ret (pe_lc (own := [("roa", 2)]) (g := gName 2) rfl sc_authorized_origins.nd (pi_list (pv 0)) (blkOk_by (own := [("roa", 2)]) (N := N_authorized_origins) (sc := defScope s_authorized_origins) (by decide +kernel)) (fun _ _ _ _ _ => pg_name (i := 2) sc_authorized_origins.nd rfl (Or.inl rfl)) (fun _ _ _ _ _ => (pts_one (pt_cmpR op_le (pv 1) (pe_ix (ix_tupE (K := K) rfl) (pv 2) (pe_con C.MAX_LENGTH rfl) (fun _ _ => rfl)) (nomark _)))) (fun _ _ _ _ _ => (pe_ix (ix_tupE (K := K) rfl) (pv 2) (pe_con C.ORIGIN rfl) (fun _ _ => rfl)))))), ?_⟩
    refine ⟨_, rfl, p, rfl, ⟨_, hR.sq⟩, fun D hD => lc_list (K := K) (a := p) (xs := ts.map V.ref)
      (fun i H' => Same H H' ∧ H' D = some (.lst (nV (aut (gs.take i) l))))
      ⟨Same.new hD, upd_same⟩ (fun i H' _ ⟨e, _⟩ => e.seq hR.sq) ?_ ?_⟩
    · rintro i y H' hi ⟨e, hL⟩
      obtain ⟨t, g, rfl, _, hg, ht⟩ := hR.get hi
      have hm := aut_more l hg
      refine ⟨rfl, ?_⟩
      refine ⟨_, rfl, _, rfl, t, _, _, _, rfl, rfl, ht.same e, aR2, _, _, rfl, rfl, _, rfl, ?_⟩
      rw [dec_le]
      refine ifb (fun c => ?_) (fun c => ?_)
      · rw [c, if_pos rfl] at hm
        refine ⟨_, rfl, t, _, _, _, rfl, rfl, ht.same e, aR3, _, hL, ?_, Same.updN e hD, ?_⟩
        · have h1 := aut_len (gs.take i) l
          have h2 := take_len_le gs i
          rw [nV_len]
          exact small1000 (by omega)
        · rw [upd_same, hm, nV_snoc]
      · rw [c, if_neg Bool.false_ne_true, List.append_nil] at hm
        exact ⟨e, by rw [hm]; exact hL⟩
    · rintro H' ⟨e, hL⟩
      rw [List.length_map, hR.len, List.take_length] at hL
      exact k H' D e hD hL
def spValidity (K : PySem.W.Frag) : Sp := fun vs H Q _ => ∃ (p : Addr) (ts : List Addr) (gs : List Su202.Roa) (a l o : Nat), vs = [.ref p, .int a, .int l, .int o] ∧ RowsAt rowR K H p ts gs ∧ GsOk gs ∧
  ∀ H', Same H H' → Q (.int ((Su202.validity gs a l o : Nat) : Int)) H'
theorem ok_validity_code (D : Def K mg "validity_code" "validity_code" s_validity_code P_validity_code) (C : Cons K mg SZ) (O_covering_roas : Ok P w K mg base 3 "covering_roas" P_covering_roas (spCov K))
    (O_authorized_origins : Ok P w K mg base 1 "authorized_origins" P_authorized_origins (spAut K)) : Ok P w K mg base 4 "validity_code" P_validity_code (spValidity K) := by
  refine D.ok sc_validity_code (fun vs H Q E h => ?_) (fun f cdv A outer s H vs Q E hr h => ?_)
  · obtain ⟨p, ts, gs, a, l, o, rfl, _⟩ := h
    rfl
  · obtain ⟨p, ts, gs, a, l, o, rfl, hR, ok, k⟩ := h
    refine ⟨_, (pss_cons (ps_set (i := 4) sc_validity_code.nd rfl (Or.inl rfl) (O_covering_roas.call hr rfl (pa_cons (pv 0) (pa_cons (pv 1) (pa_cons (pv 2) pa_nil)))))
        (pss_cons (ps_if (pt_not (pt_truth (pv 4) (by intro _; rfl)))
          (pss_one (ps_ret (pe_con C.NOT_FOUND rfl)))
          pss_nil)
        (pss_cons (ps_if (pt_cmpR (op_inI (K := K) rfl) (pv 3) (O_authorized_origins.call hr rfl (pa_cons (pv 4) (pa_cons (pv 2) pa_nil))) rfl)
          (pss_one (ps_ret (pe_con C.VALID rfl)))
          pss_nil)
        (pss_one (ps_ret (pe_con C.INVALID rfl)))))), ?_⟩
    rw [val_cov] at k
    refine ⟨_, rfl, _, rfl, _, rfl, p, ts, gs, a, l, rfl, hR, ok, fun H1 r1 us e1 n1 hC => ?_⟩
    refine ⟨_, rfl, _, .inl ⟨_, hC.sq, rfl⟩, ?_⟩
    rw [hC.emp]
    refine ifb (fun c => ?_) (fun c => ?_)
    · rw [not_f (not_t c), if_pos rfl] at k
      exact k H1 e1
    rw [not_t (not_f c), if_neg Bool.false_ne_true] at k
    refine ⟨_, rfl, _, rfl, _, rfl, r1, us, _, l, rfl, hC, Nat.le_trans (cov_len _ _ _) ok.len, fun H2 r2 e2 n2 h2 => ?_⟩
    refine ⟨r2, _, o, rfl, rfl, SqL.of h2, _, rfl, ?_⟩
    refine ifb (fun c2 => ?_) (fun c2 => ?_)
    · rw [c2, if_pos rfl] at k
      exact k H2 (e1.trans e2)
    · rw [c2, if_neg Bool.false_ne_true] at k
      exact k H2 (e1.trans e2)
def spValidP (K : PySem.W.Frag) : Sp := fun vs H Q _ => ∃ (p : Addr) (ts : List Addr) (gs : List Su202.Roa) (o : Nat), vs = [.ref p, .int o] ∧ RowsAt rowR K H p ts gs ∧ GsOk gs ∧
  ∀ (H' : Hp) (r : Addr) (us : List Addr), Same H H' → H r = none → RowsAt rowP K H' r us (validP gs o) → Q (.ref r) H'
theorem ok_valid_prefixes (D : Def K mg "valid_prefixes" "valid_prefixes" s_valid_prefixes P_valid_prefixes) (C : Cons K mg SZ) (O_all_prefixes : Ok P w K mg base 1 "all_prefixes" P_all_prefixes (spAllP K))
    (O_validity_code : Ok P w K mg base 4 "validity_code" P_validity_code (spValidity K)) : Ok P w K mg base 5 "valid_prefixes" P_valid_prefixes (spValidP K) := by
  refine D.ok sc_valid_prefixes (fun vs H Q E h => ?_) (fun f cdv A outer s H vs Q E hr h => ?_)
  · obtain ⟨p, ts, gs, o, rfl, _⟩ := h
    rfl
  · obtain ⟨p, ts, gs, o, rfl, hR, ok, k⟩ := h
    refine ⟨_, (pss_cons (ps_set (i := 2) sc_valid_prefixes.nd rfl (Or.inl rfl) (pe_lst pa_nil))
        (pss_cons (ps_for PassesOwn.never rfl (pi_list (O_all_prefixes.call0 hr rfl)) (pg_name (i := 3) sc_valid_prefixes.nd rfl (Or.inl rfl))
          (pss_one (ps_if (pt_cmpR op_eq (O_validity_code.call hr rfl (pa_cons (pv 0) (pa_cons (pe_ix (ix_tupE (K := K) rfl) (pv 3) (pe_con C.ADDRESS rfl) (fun _ _ => rfl)) (pa_cons (pe_ix (ix_tupE (K := K) rfl) (pv 3) (pe_con C.LENGTH rfl) (fun _ _ => rfl)) (pa_cons (pv 1) pa_nil))))) (pe_con C.VALID rfl) (nomark _))
            (pss_one (ps_expr (pe_bm PySem.F.plainAttrs_list PySem.F.slot_list_append PySem.F.type_list_append mt_append (pv 2) (pa_cons (pv 3) pa_nil))))
            pss_nil)))
        (pss_one (ps_ret (pv 2))))), ?_⟩
    refine ⟨Nat.zero_le _, fun D hD => ?_⟩
    refine ⟨rfl, fun H1 r us e1 n1 hP => ?_⟩
    have nrD : r ≠ D := fun q => by
      rw [q, upd_same] at n1
      cases n1
    refine ⟨r, rfl, ⟨_, hP.sq⟩, for_list (K := K) (a := r) (xs := us.map V.ref)
      (fun i σ H2 => ∃ v3 ws, σ = [some (.ref p), some (.int o), some (.ref D), v3] ∧ Same H H2 ∧ RowsAt rowP K H2 r us (allN 7) ∧ H2 D = some (.lst (ws.map V.ref)) ∧
        TupsAt rowP K H2 ws (((allN 7).take i).filter fun q => Su202.validity gs q.1 q.2 o == 1))
      ⟨none, [], rfl, (Same.new hD).trans e1, hP, e1 _ _ upd_same, .nil⟩ (fun i σ H2 _ ⟨_, _, _, _, h, _⟩ => h.sq) ?_ ?_⟩
    · rintro i y σ H2 hi ⟨v3, ws, rfl, e, hP2, hL, hT⟩
      obtain ⟨t, q, rfl, _, hq, ht⟩ := hP2.get hi
      have hm := filter_more (fun q => Su202.validity gs q.1 q.2 o == 1) hq
      refine ⟨_, rfl, _, rfl, t, _, _, _, rfl, rfl, ht, aP0, _, rfl, t, _, _, _, rfl, rfl, ht, aP1, _, rfl, p, ts, gs, q.1, q.2, o, rfl, hR.same e, ok, fun H3 e3 => ?_⟩
      refine ⟨rfl, _, rfl, ?_⟩
      have hL3 := e3 _ _ hL
      have ht3 := ht.same e3
      refine ifb (fun c => ?_) (fun c => ?_)
      · rw [show (Su202.validity gs q.1 q.2 o == 1) = true from dec_beq.symm.trans c, if_pos rfl] at hm
        refine ⟨_, rfl, .inl ⟨rfl, _, SqL.of hL3⟩, _, rfl, D, _, _, rfl, rfl, hL3, ?_, some (.ref t), ws ++ [t], rfl, Same.updN (e.trans e3) hD, (hP2.same e3).updL hL3 nrD, ?_, ?_⟩
        · have h1 := hT.len
          have h2 := filter_len (fun q => Su202.validity gs q.1 q.2 o == 1) (allN 7) i
          have h3 := allN_len 7 (by decide)
          rw [List.length_map]
          exact small1000 (by omega)
        · rw [upd_same, map_snoc]
        · rw [hm]
          exact ((hT.same e3).snoc ht3).updL hL3
      · rw [show (Su202.validity gs q.1 q.2 o == 1) = false from dec_beq.symm.trans c, if_neg Bool.false_ne_true, List.append_nil] at hm
        exact ⟨some (.ref t), ws, rfl, e.trans e3, hP2.same e3, hL3, by rw [hm]; exact hT.same e3⟩
    · rintro σ H2 ⟨v3, ws, rfl, e, hP2, hL, hT⟩
      rw [List.length_map, hP2.len, List.take_length] at hT
      exact ⟨_, rfl, k H2 D ws e hD (hT.rows hL)⟩
end
end My
namespace My
open PySem PySem.Spec PyProof.Rows L2
/-- the ROAs behind a tightening, as the specification has them -/
def ownValid (gs : List Su202.Roa) (m : Nat) (s : Su202.Announcement) : Bool := s.announcer == m && (s.origin == m && Su202.validity gs s.address s.length m == 1)
def tightR (m : Nat) (s : Su202.Announcement) : Su202.Roa := ⟨s.address, s.length, s.length, m⟩
def tight (gs : List Su202.Roa) (ss : List Su202.Announcement) (m : Nat) : List Su202.Roa := gs.filter (fun g => g.origin != m) ++ (ss.filter (ownValid gs m)).map (tightR m)
theorem tight_eq (r : Su202.Registry) (m : Nat) : (r.tighten m).roas = tight r.roas r.announcements m := rfl
theorem tight_ok {gs : List Su202.Roa} {ss : List Su202.Announcement} {m : Nat} (hm : m < 8) (hg : ∀ g ∈ gs, RoaOk g) (hs : ∀ s ∈ ss, AnnOk s) : ∀ g ∈ tight gs ss m, RoaOk g := by
  intro g h
  rcases List.mem_append.mp h with h | h
  · exact hg g (List.mem_filter.mp h).1
  · obtain ⟨s, q, rfl⟩ := List.mem_map.mp h
    have := hs s (List.mem_filter.mp q).1
    exact ⟨this.pre, ⟨Nat.le_refl _, this.pre.1⟩, hm⟩
theorem tight_len {gs : List Su202.Roa} {ss : List Su202.Announcement} {m : Nat} : (tight gs ss m).length ≤ gs.length + ss.length := by
  unfold tight
  rw [List.length_append, List.length_map]
  exact Nat.add_le_add (List.length_filter_le _ _) (List.length_filter_le _ _)
section
variable {P : Program} {w : World} {K : PySem.W.Frag} {mg : Str → Option Value} {base : Heap} {SZ : Addr}
def spTight (K : PySem.W.Frag) : Sp := fun vs H Q _ => ∃ (p q : Addr) (ts us : List Addr) (gs : List Su202.Roa) (ss : List Su202.Announcement) (m : Nat), vs = [.ref p, .ref q, .int m] ∧
  RowsAt rowR K H p ts gs ∧ RowsAt rowA K H q us ss ∧ (∀ g ∈ gs, RoaOk g) ∧ (∀ s ∈ ss, AnnOk s) ∧ gs.length ≤ 12 ∧ ss.length ≤ 16 ∧
  ∀ (H' : Hp) (r : Addr) (vs : List Addr), Same H H' → H r = none → RowsAt rowR K H' r vs (tight gs ss m) → Q (.ref r) H'
theorem ok_tightened_roas (D : Def K mg "tightened_roas" "tightened_roas" s_tightened_roas P_tightened_roas) (C : Cons K mg SZ) (O_validity_code : Ok P w K mg base 4 "validity_code" P_validity_code (spValidity K)) :
    Ok P w K mg base 5 "tightened_roas" P_tightened_roas (spTight K) := by
  refine D.ok sc_tightened_roas (fun vs H Q E h => ?_) (fun f cdv A outer s H vs Q E hr h => ?_)
  · obtain ⟨p, q, ts, us, gs, ss, m, rfl, _⟩ := h
    rfl
  · obtain ⟨p, q, ts, us, gs, ss, m, rfl, hR, hA, hgo, hso, hgn, hsn, k⟩ := h
    refine ⟨_, (pss_cons (ps_setLc (i := 3) (own := [("roa", 4)]) (g := gName 4) rfl sc_tightened_roas.nd rfl rfl (sw_true rfl rfl rfl (by decide +kernel)) (pi_list (pv 0)) (blkOk_by (own := [("roa", 4)]) (N := N_tightened_roas) (sc := defScope s_tightened_roas) (by decide +kernel)) (fun _ _ _ _ _ => pg_name (i := 4) sc_tightened_roas.nd rfl (Or.inl rfl)) (fun _ _ _ _ _ => (pts_one (pt_cmpR op_ne (pe_ix (ix_tupE (K := K) rfl) (pv 4) (pe_con C.ORIGIN rfl) (fun _ _ => rfl)) (pv 2) (nomark _)))) (fun _ _ _ _ _ => (pv 4)))
        (pss_cons (ps_for PassesOwn.never rfl (pi_list (pv 1)) (pg_name (i := 5) sc_tightened_roas.nd rfl (Or.inl rfl))
          (pss_cons (ps_if (PW.pt (pw_or (pt_cmpR op_ne (pe_ix (ix_tupE (K := K) rfl) (pv 5) (pe_con C.ANNOUNCER rfl) (fun _ _ => rfl)) (pv 2) (nomark _)) (pw_or1 (pt_cmpR op_ne (pe_ix (ix_tupE (K := K) rfl) (pv 5) (pe_con C.ORIGIN rfl) (fun _ _ => rfl)) (pv 2) (nomark _)))))
            (pss_one ps_continue)
            pss_nil)
          (pss_cons (ps_set (i := 6) sc_tightened_roas.nd rfl (Or.inl rfl) (pe_ix (ix_tupE (K := K) rfl) (pv 5) (pe_con C.ADDRESS rfl) (fun _ _ => rfl)))
          (pss_cons (ps_set (i := 7) sc_tightened_roas.nd rfl (Or.inl rfl) (pe_ix (ix_tupE (K := K) rfl) (pv 5) (pe_con C.LENGTH rfl) (fun _ _ => rfl)))
          (pss_one (ps_if (pt_cmpR op_eq (O_validity_code.call hr rfl (pa_cons (pv 0) (pa_cons (pv 6) (pa_cons (pv 7) (pa_cons (pv 2) pa_nil))))) (pe_con C.VALID rfl) (nomark _))
            (pss_one (ps_expr (pe_bm PySem.F.plainAttrs_list PySem.F.slot_list_append PySem.F.type_list_append mt_append (pv 3) (pa_cons (pe_tup (pa_cons (pv 6) (pa_cons (pv 7) (pa_cons (pv 7) (pa_cons (pv 2) pa_nil))))) pa_nil))))
            pss_nil))))))
        (pss_one (ps_ret (pv 3))))), ?_⟩
    refine ⟨_, rfl, p, rfl, ⟨_, hR.sq⟩, fun D hD => lc_list (K := K) (a := p) (xs := ts.map V.ref)
      (fun i H' => ∃ vs, Same H H' ∧ H' D = some (.lst (vs.map V.ref)) ∧ TupsAt rowR K H' vs ((gs.take i).filter fun g => g.origin != m))
      ⟨[], Same.new hD, upd_same, .nil⟩ (fun i H' _ ⟨vs, e, _⟩ => e.seq hR.sq) ?_ ?_⟩
    · rintro i y H' hi ⟨vs, e, hL, hT⟩
      obtain ⟨t, g, rfl, _, hg, ht⟩ := hR.get hi
      have hm := filter_more (fun g => g.origin != m) hg
      refine ⟨rfl, _, rfl, t, _, _, _, rfl, rfl, ht.same e, aR3, _, rfl, rfl, _, rfl, ?_⟩
      refine ifb (fun c => ?_) (fun c => ?_)
      · rw [dec_ne] at c
        rw [c, if_pos rfl] at hm
        refine ⟨_, rfl, _, hL, ?_, vs ++ [t], Same.updN e hD, ?_, ?_⟩
        · have := filter_len (fun g => g.origin != m) gs i
          rw [List.length_map, hT.len]
          exact small1000 (by omega)
        · rw [upd_same, map_snoc]
        · rw [hm]
          exact (hT.snoc (ht.same e)).updL hL
      · rw [dec_ne] at c
        rw [c, if_neg Bool.false_ne_true, List.append_nil] at hm
        exact ⟨vs, e, hL, by rw [hm]; exact hT⟩
    · rintro H' ⟨vs, e, hL, hT⟩
      rw [List.length_map, hR.len, List.take_length] at hT
      have hpq : ∀ H2, Same H H2 → SqL K H2 q (us.map V.ref) := fun H2 e2 => e2.seq hA.sq
      refine ⟨_, rfl, q, rfl, ⟨_, hpq _ e⟩, for_list (K := K) (a := q) (xs := us.map V.ref)
        (fun i σ H2 => ∃ vs v4 v5 v6 v7, σ = [some (.ref p), some (.ref q), some (.int m), some (.ref D), v4, v5, v6, v7] ∧ Same H H2 ∧ H2 D = some (.lst (vs.map V.ref)) ∧
          TupsAt rowR K H2 vs (gs.filter (fun g => g.origin != m) ++ ((ss.take i).filter (ownValid gs m)).map (tightR m)))
        ⟨vs, none, none, none, none, rfl, e, hL, by simpa using hT⟩ (fun i σ H2 _ ⟨_, _, _, _, _, _, e2, _⟩ => hpq _ e2) ?_ ?_⟩
      · rintro i y σ H2 hi ⟨vs, v4, v5, v6, v7, rfl, e, hL, hT⟩
        obtain ⟨t, s, rfl, _, hs, ht⟩ := hA.get hi
        have hm := filter_more (ownValid gs m) hs
        have hso1 := hso s (mem_of_getElem? hs)
        have skip : ownValid gs m s = false → TupsAt rowR K H2 vs (gs.filter (fun g => g.origin != m) ++ ((ss.take (i + 1)).filter (ownValid gs m)).map (tightR m)) := by
          intro c
          rw [hm, c, if_neg Bool.false_ne_true, List.append_nil]
          exact hT
        refine ⟨_, rfl, t, _, _, _, rfl, rfl, ht.same e, aA2, _, rfl, rfl, _, rfl, ?_⟩
        refine ifb (fun c => ?_) (fun c => ?_)
        · rw [dec_ne] at c
          refine iteT ⟨vs, v4, some (.ref t), _, _, rfl, e, hL, skip ?_⟩
          unfold ownValid
          rw [beq_eq_false_iff_ne.mpr (bne_iff_ne.mp c), Bool.false_and]
        refine ⟨_, rfl, t, _, _, _, rfl, rfl, ht.same e, aA3, _, rfl, rfl, _, rfl, ?_⟩
        rw [dec_ne] at c
        refine ifb (fun c2 => ?_) (fun c2 => ?_)
        · rw [dec_ne] at c2
          refine ⟨vs, v4, some (.ref t), _, _, rfl, e, hL, skip ?_⟩
          unfold ownValid
          rw [beq_eq_false_iff_ne.mpr (bne_iff_ne.mp c2), Bool.false_and, Bool.and_false]
        rw [dec_ne] at c2
        have e1 : (s.announcer == m) = true := by simpa using c
        have e2 : (s.origin == m) = true := by simpa using c2
        refine ⟨_, rfl, t, _, _, _, rfl, rfl, ht.same e, aA0, ?_⟩
        refine ⟨_, rfl, t, _, _, _, rfl, rfl, ht.same e, aA1, ?_⟩
        refine ⟨_, rfl, _, rfl, _, rfl, _, rfl, p, ts, gs, s.address, s.length, m, rfl, hR.same e, ⟨hgo, by omega⟩, fun H3 e3 => ⟨rfl, _, rfl, ?_⟩⟩
        have ev : ownValid gs m s = (Su202.validity gs s.address s.length m == 1) := by
          unfold ownValid
          rw [e1, e2, Bool.true_and, Bool.true_and]
        have hL3 := e3 _ _ hL
        have hT3 := hT.same e3
        have e0 := e.trans e3
        refine ifb (fun c3 => ?_) (fun c3 => ?_)
        · have c4 : (Su202.validity gs s.address s.length m == 1) = true := dec_beq.symm.trans c3
          rw [ev, c4, if_pos rfl] at hm
          refine ⟨_, rfl, .inl ⟨rfl, _, SqL.of hL3⟩, _, rfl, _, rfl, _, rfl, _, rfl, (by show 4 ≤ sizeLine; decide), fun T hT0 => ?_⟩
          have nDT : D ≠ T := ne_of_none hL3 hT0
          have hL2 : upd H3 T (.tup [.int (s.address : Nat), .int (s.length : Nat), .int (s.length : Nat), .int (m : Nat)]) D = some (.lst (vs.map V.ref)) := (upd_ne nDT).trans hL3
          have hTT : TupAt K (upd H3 T (.tup [.int (s.address : Nat), .int (s.length : Nat), .int (s.length : Nat), .int (m : Nat)])) T (rowR (tightR m s)) := SqT.of upd_same
          refine ⟨D, _, _, rfl, rfl, hL2, ?_, vs ++ [T], v4, some (.ref t), _, _, rfl, Same.updN (e0.trans (Same.new hT0)) hD, ?_, ?_⟩
          · have h1 := hT.len
            have h2 : (gs.filter fun g => g.origin != m).length ≤ gs.length := List.length_filter_le _ _
            have h3 := filter_len (ownValid gs m) ss i
            rw [List.length_append, List.length_map] at h1
            rw [List.length_map]
            exact small1000 (by omega)
          · rw [upd_same, map_snoc]
          · rw [hm, List.map_append, ← List.append_assoc]
            exact ((hT3.same (Same.new hT0)).snoc hTT).updL hL2
        · have c4 : (Su202.validity gs s.address s.length m == 1) = false := dec_beq.symm.trans c3
          exact ⟨vs, v4, some (.ref t), _, _, rfl, e0, hL3, (by
            have q := skip (ev.trans c4)
            exact q.same e3)⟩
      · rintro σ H2 ⟨vs, v4, v5, v6, v7, rfl, e, hL, hT⟩
        rw [List.length_map, hA.len, List.take_length] at hT
        exact ⟨_, rfl, k H2 D vs e hD (hT.rows hL)⟩
end
end My
namespace My
open PySem PySem.Spec PyProof.Rows L2
def accB (gs : List Su202.Roa) (strict : Bool) (s : Su202.Announcement) : Bool := Su202.validity gs s.address s.length s.origin == 1 || (Su202.validity gs s.address s.length s.origin == 0 && !strict)
theorem acc_eq (r : Su202.Registry) : r.accepted = r.announcements.filter (accB r.roas r.strict) := rfl
def stI (b : Bool) : Nat := if b then 1 else 0
section
variable {P : Program} {w : World} {K : PySem.W.Frag} {mg : Str → Option Value} {base : Heap} {SZ : Addr}
theorem rg8 : rgV 0 8 = nV (List.range 8) := rfl
def spAccO (K : PySem.W.Frag) : Sp := fun vs H Q _ => ∃ (p : Addr) (ts : List Addr) (gs : List Su202.Roa) (b : Bool) (a l : Nat), vs = [.ref p, .int (stI b : Nat), .int a, .int l] ∧ RowsAt rowR K H p ts gs ∧ GsOk gs ∧
  ∀ (H' : Hp) (r : Addr), Same H H' → H r = none → H' r = some (.lst (nV (accO gs b a l))) → Q (.ref r) H'
theorem ok_accepted_origins (D : Def K mg "accepted_origins" "accepted_origins" s_accepted_origins P_accepted_origins) (C : Cons K mg SZ) (O_covering_roas : Ok P w K mg base 3 "covering_roas" P_covering_roas (spCov K))
    (O_authorized_origins : Ok P w K mg base 1 "authorized_origins" P_authorized_origins (spAut K)) : Ok P w K mg base 4 "accepted_origins" P_accepted_origins (spAccO K) := by
  refine D.ok sc_accepted_origins (fun vs H Q E h => ?_) (fun f cdv A outer s H vs Q E hr h => ?_)
  · obtain ⟨p, ts, gs, b, a, l, rfl, _⟩ := h
    rfl
  · obtain ⟨p, ts, gs, b, a, l, rfl, hR, ok, k⟩ := h
    have T := C
    refine ⟨_, (pss_cons (ps_set (i := 4) sc_accepted_origins.nd rfl (Or.inl rfl) (O_covering_roas.call hr rfl (pa_cons (pv 0) (pa_cons (pv 2) (pa_cons (pv 3) pa_nil)))))
        (pss_cons (ps_if (PW.pt (pw_and (pt_not (pt_truth (pv 4) (by intro _; rfl))) (pw_and1 (pt_cmpR op_eq (pv 1) pe_int (nomark _)))))
          (pss_one (ps_ret (pe_listRg rfl rfl T.list (prg_1 rfl T.range (pe_con C.MEMBER_COUNT rfl)))))
          pss_nil)
        (pss_one (ps_ret (O_authorized_origins.call hr rfl (pa_cons (pv 4) (pa_cons (pv 3) pa_nil))))))), ?_⟩
    refine ⟨_, rfl, _, rfl, _, rfl, p, ts, gs, a, l, rfl, hR, ok, fun H1 r1 us e1 n1 hC => ?_⟩
    unfold accO at k
    have fin : ((cov gs a l).isEmpty && !b) = false → tRet (tCalS (spAut K) (tCons (tVar 4) (tCons (tVar 3) tNil))) { nx := fun x H' => Q V.non H', rt := Q } (List.set (L2.start N_accepted_origins [V.ref p, V.int (stI b : Nat), V.int a, V.int l]) 4 (some (V.ref r1))) H1 := by
      intro c
      rw [c] at k
      exact ⟨_, rfl, _, rfl, r1, us, _, l, rfl, hC, Nat.le_trans (cov_len _ _ _) ok.len, fun H2 r2 e2 n2 h2 => k H2 r2 (e1.trans e2) (e1.free n2) h2⟩
    refine ⟨_, rfl, _, .inl ⟨_, hC.sq, rfl⟩, ?_⟩
    rw [hC.emp]
    refine ifb (fun c => ?_) (fun c => ?_)
    · refine ⟨_, rfl, rfl, _, rfl, ?_⟩
      cases b with
      | false =>
        rw [show (cov gs a l).isEmpty = true by simpa using c] at k
        refine iteT ⟨8, rfl, ⟨by decide, by decide, by decide, by decide, by decide⟩, fun q hq => ?_⟩
        exact k _ q (e1.trans (Same.new hq)) (e1.free hq) upd_same
      | true =>
        exact iteF (fin (Bool.and_false _))
    · exact iteF (fin (by rw [show (cov gs a l).isEmpty = false by simpa using c, Bool.false_and]))
def spIsAcc (K : PySem.W.Frag) : Sp := fun vs H Q _ => ∃ (t p : Addr) (ts : List Addr) (s : Su202.Announcement) (gs : List Su202.Roa) (b : Bool), vs = [.ref t, .ref p, .int (stI b : Nat)] ∧
  TupAt K H t (rowA s) ∧ RowsAt rowR K H p ts gs ∧ GsOk gs ∧ s.origin < 8 ∧ ∀ H', Same H H' → Q (.bl (accB gs b s)) H'
theorem ok_is_accepted (D : Def K mg "is_accepted" "is_accepted" s_is_accepted P_is_accepted) (C : Cons K mg SZ) (O_accepted_origins : Ok P w K mg base 4 "accepted_origins" P_accepted_origins (spAccO K)) :
    Ok P w K mg base 5 "is_accepted" P_is_accepted (spIsAcc K) := by
  refine D.ok sc_is_accepted (fun vs H Q E h => ?_) (fun f cdv A outer s H vs Q E hr h => ?_)
  · obtain ⟨t, p, ts, s, gs, b, rfl, _⟩ := h
    rfl
  · obtain ⟨t, p, ts, s, gs, b, rfl, ht, hR, ok, ho, k⟩ := h
    refine ⟨_, (pss_cons (ps_set (i := 3) sc_is_accepted.nd rfl (Or.inl rfl) (O_accepted_origins.call hr rfl (pa_cons (pv 1) (pa_cons (pv 2) (pa_cons (pe_ix (ix_tupE (K := K) rfl) (pv 0) (pe_con C.ADDRESS rfl) (fun _ _ => rfl)) (pa_cons (pe_ix (ix_tupE (K := K) rfl) (pv 0) (pe_con C.LENGTH rfl) (fun _ _ => rfl)) pa_nil))))))
        (pss_one (ps_ret (pe_cmpR (op_inI (K := K) rfl) (pe_ix (ix_tupE (K := K) rfl) (pv 0) (pe_con C.ORIGIN rfl) (fun _ _ => rfl)) (pv 3) rfl)))), ?_⟩
    refine ⟨_, rfl, _, rfl, _, rfl, t, _, _, _, rfl, rfl, ht, aA0, _, rfl, t, _, _, _, rfl, rfl, ht, aA1, p, ts, gs, b, s.address, s.length, rfl, hR, ok, fun H1 r1 e1 n1 h1 => ?_⟩
    refine ⟨_, rfl, t, _, _, _, rfl, rfl, ht.same e1, aA3, _, rfl, r1, _, s.origin, rfl, rfl, SqL.of h1, ?_⟩
    refine q_bl (k H1 e1) ?_
    exact accO_iff gs b s.address s.length s.origin ho
def spIsOwn (K : PySem.W.Frag) : Sp := fun vs H Q _ => ∃ (t : Addr) (s : Su202.Announcement), vs = [.ref t] ∧ TupAt K H t (rowA s) ∧ Q (.bl s.isOwn) H
theorem ok_is_own (D : Def K mg "is_own" "is_own" s_is_own P_is_own) (C : Cons K mg SZ) : Ok P w K mg base 1 "is_own" P_is_own (spIsOwn K) := by
  refine D.ok sc_is_own (fun vs H Q E h => ?_) (fun f cdv A outer s H vs Q E hr h => ?_)
  · obtain ⟨t, s, rfl, _⟩ := h
    rfl
  · obtain ⟨t, s, rfl, ht, k⟩ := h
    refine ⟨_, (pss_one (ps_ret (pe_cmpR op_eq (pe_ix (ix_tupE (K := K) rfl) (pv 0) (pe_con C.ANNOUNCER rfl) (fun _ _ => rfl)) (pe_ix (ix_tupE (K := K) rfl) (pv 0) (pe_con C.ORIGIN rfl) (fun _ _ => rfl)) (nomark _)))), ?_⟩
    exact ⟨_, rfl, t, _, _, _, rfl, rfl, ht, aA2, _, rfl, t, _, _, _, rfl, rfl, ht, aA3, rfl, q_bl k dec_beq⟩
def spPref (K : PySem.W.Frag) : Sp := fun vs H Q _ => ∃ (t u : Addr) (s y : Su202.Announcement), vs = [.ref t, .ref u] ∧ TupAt K H t (rowA s) ∧ TupAt K H u (rowA y) ∧ Q (.bl (Su202.isPreferred s y)) H
theorem ok_is_preferred (D : Def K mg "is_preferred" "is_preferred" s_is_preferred P_is_preferred) (C : Cons K mg SZ) (O_is_own : Ok P w K mg base 1 "is_own" P_is_own (spIsOwn K)) : Ok P w K mg base 2 "is_preferred" P_is_preferred (spPref K) := by
  refine D.ok sc_is_preferred (fun vs H Q E h => ?_) (fun f cdv A outer s H vs Q E hr h => ?_)
  · obtain ⟨t, u, s, y, rfl, _⟩ := h
    rfl
  · obtain ⟨t, u, s, y, rfl, ht, hu, k⟩ := h
    refine ⟨_, (pss_cons (ps_if (pt_cmpR op_ne (pe_ix (ix_tupE (K := K) rfl) (pv 0) (pe_con C.LENGTH rfl) (fun _ _ => rfl)) (pe_ix (ix_tupE (K := K) rfl) (pv 1) (pe_con C.LENGTH rfl) (fun _ _ => rfl)) (nomark _))
          (pss_one (ps_ret (pe_cmpR op_gt (pe_ix (ix_tupE (K := K) rfl) (pv 0) (pe_con C.LENGTH rfl) (fun _ _ => rfl)) (pe_ix (ix_tupE (K := K) rfl) (pv 1) (pe_con C.LENGTH rfl) (fun _ _ => rfl)) (nomark _))))
          pss_nil)
        (pss_cons (ps_if (pt_cmpR op_ne (O_is_own.call hr rfl (pa_cons (pv 0) pa_nil)) (O_is_own.call hr rfl (pa_cons (pv 1) pa_nil)) (nomark _))
          (pss_one (ps_ret (O_is_own.call hr rfl (pa_cons (pv 0) pa_nil))))
          pss_nil)
        (pss_cons (ps_if (pt_cmpR op_ne (pe_ix (ix_tupE (K := K) rfl) (pv 0) (pe_con C.ANNOUNCER rfl) (fun _ _ => rfl)) (pe_ix (ix_tupE (K := K) rfl) (pv 1) (pe_con C.ANNOUNCER rfl) (fun _ _ => rfl)) (nomark _))
          (pss_one (ps_ret (pe_cmpR op_lt (pe_ix (ix_tupE (K := K) rfl) (pv 0) (pe_con C.ANNOUNCER rfl) (fun _ _ => rfl)) (pe_ix (ix_tupE (K := K) rfl) (pv 1) (pe_con C.ANNOUNCER rfl) (fun _ _ => rfl)) (nomark _))))
          pss_nil)
        (pss_one (ps_ret (pe_cmpR op_lt (pe_ix (ix_tupE (K := K) rfl) (pv 0) (pe_con C.ORIGIN rfl) (fun _ _ => rfl)) (pe_ix (ix_tupE (K := K) rfl) (pv 1) (pe_con C.ORIGIN rfl) (fun _ _ => rfl)) (nomark _))))))), ?_⟩
    rw [pref_eq] at k
    unfold pref at k
    refine ⟨_, rfl, t, _, _, _, rfl, rfl, ht, aA1, _, rfl, u, _, _, _, rfl, rfl, hu, aA1, rfl, _, rfl, ?_⟩
    refine ifb (fun c => ?_) (fun c => ?_)
    · rw [dec_ne] at c
      rw [if_neg (bne_iff_ne.mp c)] at k
      exact ⟨_, rfl, t, _, _, _, rfl, rfl, ht, aA1, _, rfl, u, _, _, _, rfl, rfl, hu, aA1, _, _, rfl, rfl, q_bl k dec_lt⟩
    rw [dec_ne] at c
    rw [if_pos (by simpa using c)] at k
    refine ⟨_, rfl, t, s, rfl, ht, _, rfl, u, y, rfl, hu, rfl, _, rfl, ?_⟩
    refine ifb (fun c2 => ?_) (fun c2 => ?_)
    · rw [if_neg (by simpa using c2)] at k
      exact ⟨_, rfl, t, s, rfl, ht, k⟩
    rw [if_pos (by simpa using c2)] at k
    refine ⟨_, rfl, t, _, _, _, rfl, rfl, ht, aA2, _, rfl, u, _, _, _, rfl, rfl, hu, aA2, rfl, _, rfl, ?_⟩
    refine ifb (fun c3 => ?_) (fun c3 => ?_)
    · rw [dec_ne] at c3
      rw [if_neg (bne_iff_ne.mp c3)] at k
      exact ⟨_, rfl, t, _, _, _, rfl, rfl, ht, aA2, _, rfl, u, _, _, _, rfl, rfl, hu, aA2, _, _, rfl, rfl, q_bl k dec_lt⟩
    rw [dec_ne] at c3
    rw [if_pos (by simpa using c3)] at k
    exact ⟨_, rfl, t, _, _, _, rfl, rfl, ht, aA3, _, rfl, u, _, _, _, rfl, rfl, hu, aA3, _, _, rfl, rfl, q_bl k dec_lt⟩
/-- a chosen announcement, or None -/
def OptAt (K : PySem.W.Frag) (H : Hp) (v : V) : Option Su202.Announcement → Prop
  | none => v = .non
  | some s => ∃ t, v = .ref t ∧ TupAt K H t (rowA s)
theorem OptAt.same {K : PySem.W.Frag} {H H' : Hp} {v : V} {o : Option Su202.Announcement} (h : OptAt K H v o) (e : Same H H') : OptAt K H' v o := by
  cases o with
  | none => exact h
  | some s =>
    obtain ⟨t, rfl, q⟩ := h
    exact ⟨t, rfl, q.same e⟩
def spRepl (K : PySem.W.Frag) : Sp := fun vs H Q _ => ∃ (t : Addr) (v : V) (s : Su202.Announcement) (o : Option Su202.Announcement), vs = [.ref t, v] ∧ TupAt K H t (rowA s) ∧ OptAt K H v o ∧ Q (.bl (beats s o)) H
theorem ok_replaces (D : Def K mg "replaces" "replaces" s_replaces P_replaces) (O_is_preferred : Ok P w K mg base 2 "is_preferred" P_is_preferred (spPref K)) : Ok P w K mg base 3 "replaces" P_replaces (spRepl K) := by
  refine D.ok sc_replaces (fun vs H Q E h => ?_) (fun f cdv A outer s H vs Q E hr h => ?_)
  · obtain ⟨t, v, s, o, rfl, _⟩ := h
    rfl
  · obtain ⟨t, v, s, o, rfl, ht, hv, k⟩ := h
    refine ⟨_, (pss_one (ps_ret (pe_or (pe_cmpR op_isN (pv 1) pe_non (nomark _)) (pe_one (O_is_preferred.call hr rfl (pa_cons (pv 0) (pa_cons (pv 1) pa_nil))))))), ?_⟩
    cases o with
    | none =>
      cases (show v = .non from hv)
      exact ⟨_, rfl, rfl, _, rfl, iteT k⟩
    | some y =>
      obtain ⟨u, rfl, hu⟩ := hv
      exact ⟨_, rfl, rfl, _, rfl, iteF ⟨_, rfl, _, rfl, t, u, s, y, rfl, ht, hu, k⟩⟩
end
end My
namespace My
open PySem PySem.Spec PyProof.Rows L2
def optI : Option Nat → V
  | none => .non
  | some n => .int (n : Nat)
theorem selStep_beats (x : Nat) (o : Option Su202.Announcement) (s : Su202.Announcement) : selStep x o s = if (Su202.prefixContains s.address s.length x && beats s o) = true then some s else o := by
  unfold selStep
  cases h : Su202.prefixContains s.address s.length x with
  | false => rfl
  | true =>
    rw [if_pos rfl, Bool.true_and]
    cases o with
    | none => rfl
    | some y => rfl
def dV (d : Nat → Option Nat) : List V := (List.range 64).map fun x => optI (d x)
theorem dV_get (d : Nat → Option Nat) {i : Nat} (hi : i < 64) : atI (dV d) (i : Int) = some (optI (d i)) := atI_nat (by unfold dV; rw [List.getElem?_map, List.getElem?_range hi]; rfl)
def destOf (gs : List Su202.Roa) (ss : List Su202.Announcement) (b : Bool) (x : Nat) : Option Nat := (Su202.selectAnnouncement (ss.filter (accB gs b)) x).map fun s => s.announcer
theorem dest_eq (r : Su202.Registry) (x : Nat) : r.destination x = destOf r.roas r.announcements r.strict x := rfl
theorem optI_ne : ∀ a b : Option Nat, scal (optI a) (optI b) = true ∧ (!decide (optI a = optI b)) = (a != b)
  | none, none => ⟨rfl, rfl⟩
  | none, some n => ⟨rfl, rfl⟩
  | some n, none => ⟨rfl, rfl⟩
  | some n, some m => ⟨rfl, by
    show (!decide (V.int (n : Int) = V.int (m : Int))) = (some n != some m)
    rw [dec_ne]
    by_cases h : n = m
    · rw [h, bne_self_eq_false, bne_self_eq_false]
    · rw [bne_iff_ne.mpr h, bne_iff_ne.mpr fun q => h (Option.some.inj q)]⟩
section
variable {P : Program} {w : World} {K : PySem.W.Frag} {mg : Str → Option Value} {base : Heap} {SZ : Addr}
def spSel (K : PySem.W.Frag) : Sp := fun vs H Q _ => ∃ (p : Addr) (ts : List Addr) (ss : List Su202.Announcement) (x : Nat), vs = [.ref p, .int x] ∧ RowsAt rowA K H p ts ss ∧ (∀ s ∈ ss, AnnOk s) ∧
  ∀ v, OptAt K H v (Su202.selectAnnouncement ss x) → Q v H
theorem ok_selected_announcement (D : Def K mg "selected_announcement" "selected_announcement" s_selected_announcement P_selected_announcement) (C : Cons K mg SZ)
    (O_contains_address : Ok P w K mg base 1 "contains_address" P_contains_address spContains) (O_replaces : Ok P w K mg base 3 "replaces" P_replaces (spRepl K)) : Ok P w K mg base 4 "selected_announcement" P_selected_announcement (spSel K) := by
  refine D.ok sc_selected_announcement (fun vs H Q E h => ?_) (fun f cdv A outer s H vs Q E hr h => ?_)
  · obtain ⟨p, ts, ss, x, rfl, _⟩ := h
    rfl
  · obtain ⟨p, ts, ss, x, rfl, hA, hso, k⟩ := h
    refine ⟨_, (pss_cons (ps_set (i := 2) sc_selected_announcement.nd rfl (Or.inl rfl) pe_non)
        (pss_cons (ps_for PassesOwn.never rfl (pi_list (pv 0)) (pg_name (i := 3) sc_selected_announcement.nd rfl (Or.inl rfl))
          (pss_one (ps_if (PW.pt (pw_and (pt_val (O_contains_address.call hr rfl (pa_cons (pe_ix (ix_tupE (K := K) rfl) (pv 3) (pe_con C.ADDRESS rfl) (fun _ _ => rfl)) (pa_cons (pe_ix (ix_tupE (K := K) rfl) (pv 3) (pe_con C.LENGTH rfl) (fun _ _ => rfl)) (pa_cons (pv 1) pa_nil))))) (pw_and1 (pt_val (O_replaces.call hr rfl (pa_cons (pv 3) (pa_cons (pv 2) pa_nil)))))))
            (pss_one (ps_set (i := 2) sc_selected_announcement.nd rfl (Or.inl rfl) (pv 3)))
            pss_nil)))
        (pss_one (ps_ret (pv 2))))), ?_⟩
    refine ⟨_, rfl, p, rfl, ⟨_, hA.sq⟩, for_list (K := K) (a := p) (xs := ts.map V.ref)
      (fun i σ H' => H' = H ∧ ∃ v v3, σ = [some (.ref p), some (.int x), some v, v3] ∧ OptAt K H v (Su202.selectAnnouncement (ss.take i) x))
      ⟨rfl, _, _, rfl, rfl⟩ (fun i σ H' _ ⟨e, _⟩ => e ▸ hA.sq) ?_ ?_⟩
    · rintro i y σ H' hi ⟨rfl, v, v3, rfl, hv⟩
      obtain ⟨t, s, rfl, _, hs, ht⟩ := hA.get hi
      have hm := select_more x hs
      have hso1 := hso s (mem_of_getElem? hs)
      rw [selStep_beats] at hm
      refine ⟨_, rfl, t, _, _, _, rfl, rfl, ht, aA0, _, rfl, t, _, _, _, rfl, rfl, ht, aA1, _, rfl, s.address, s.length, x, rfl, hso1.pre, _, rfl, ?_⟩
      refine ifb (fun c => ?_) (fun c => ?_)
      · rw [c, Bool.true_and] at hm
        refine ⟨_, rfl, _, rfl, t, v, s, _, rfl, ht, hv, _, rfl, ?_⟩
        refine ifb (fun c2 => ?_) (fun c2 => ?_)
        · rw [c2, if_pos rfl] at hm
          exact ⟨_, rfl, rfl, .ref t, some (.ref t), rfl, by rw [hm]; exact ⟨t, rfl, ht⟩⟩
        · rw [c2, if_neg Bool.false_ne_true] at hm
          exact ⟨rfl, v, some (.ref t), rfl, by rw [hm]; exact hv⟩
      · rw [c, Bool.false_and, if_neg Bool.false_ne_true] at hm
        exact iteF ⟨rfl, v, some (.ref t), rfl, by rw [hm]; exact hv⟩
    · rintro σ H' ⟨rfl, v, v3, rfl, hv⟩
      rw [List.length_map, hA.len, List.take_length] at hv
      exact ⟨_, rfl, k v hv⟩
def spAnc (K : PySem.W.Frag) : Sp := fun vs H Q _ => ∃ (v : V) (o : Option Su202.Announcement), vs = [v] ∧ OptAt K H v o ∧ Q (optI (ancOf o)) H
theorem ok_announcer_of (D : Def K mg "announcer_of" "announcer_of" s_announcer_of P_announcer_of) (C : Cons K mg SZ) : Ok P w K mg base 1 "announcer_of" P_announcer_of (spAnc K) := by
  refine D.ok sc_announcer_of (fun vs H Q E h => ?_) (fun f cdv A outer s H vs Q E hr h => ?_)
  · obtain ⟨v, o, rfl, _⟩ := h
    rfl
  · obtain ⟨v, o, rfl, hv, k⟩ := h
    refine ⟨_, (pss_cons (ps_if (pt_cmpR op_isN (pv 0) pe_non (nomark _))
          (pss_one (ps_ret pe_non))
          pss_nil)
        (pss_one (ps_ret (pe_ix (ix_tupE (K := K) rfl) (pv 0) (pe_con C.ANNOUNCER rfl) (fun _ _ => rfl))))), ?_⟩
    cases o with
    | none =>
      cases (show v = .non from hv)
      exact ⟨_, rfl, rfl, _, rfl, iteT k⟩
    | some y =>
      obtain ⟨u, rfl, hu⟩ := hv
      exact ⟨_, rfl, rfl, _, rfl, iteF ⟨_, rfl, u, _, _, _, rfl, rfl, hu, aA2, k⟩⟩
def spDests (K : PySem.W.Frag) : Sp := fun vs H Q _ => ∃ (p : Addr) (ts : List Addr) (ss : List Su202.Announcement), vs = [.ref p] ∧ RowsAt rowA K H p ts ss ∧ (∀ s ∈ ss, AnnOk s) ∧
  ∀ (H' : Hp) (r : Addr), Same H H' → H r = none → H' r = some (.lst (dV fun x => ancOf (Su202.selectAnnouncement ss x))) → Q (.ref r) H'
theorem range_take {n i : Nat} (h : i < n) : (List.range n).take (i + 1) = (List.range n).take i ++ [i] := take_more (List.getElem?_range h)
theorem ok_destinations_by (D : Def K mg "destinations_by" "destinations_by" s_destinations_by P_destinations_by) (C : Cons K mg SZ) (O_selected_announcement : Ok P w K mg base 4 "selected_announcement" P_selected_announcement (spSel K))
    (O_announcer_of : Ok P w K mg base 1 "announcer_of" P_announcer_of (spAnc K)) : Ok P w K mg base 5 "destinations_by" P_destinations_by (spDests K) := by
  refine D.ok sc_destinations_by (fun vs H Q E h => ?_) (fun f cdv A outer s H vs Q E hr h => ?_)
  · obtain ⟨p, ts, ss, rfl, _⟩ := h
    rfl
  · obtain ⟨p, ts, ss, rfl, hA, hso, k⟩ := h
    have T : Cons K mg SZ := C
    refine ⟨_, (pss_one (ps_ret (pe_lc (own := [("address", 1)]) (g := gName 1) rfl sc_destinations_by.nd (pi_range1 rfl T.range (pa_cons (pe_con C.ADDRESS_COUNT rfl) pa_nil)) (blkOk_by (own := [("address", 1)]) (N := N_destinations_by) (sc := defScope s_destinations_by) (by decide +kernel)) (fun _ _ _ _ _ => pg_name (i := 1) sc_destinations_by.nd rfl (Or.inl rfl)) (fun _ _ _ _ _ => pts_nil) (fun _ _ _ _ _ => (O_announcer_of.call hr rfl (pa_cons (O_selected_announcement.call hr rfl (pa_cons (pv 0) (pa_cons (pv 1) pa_nil))) pa_nil)))))), ?_⟩
    refine ⟨64, rfl, by decide, by decide, fun D hD => lc_range (lo := 0) (n := 64)
      (fun i H2 => Same H H2 ∧ H2 D = some (.lst (((List.range 64).take i).map fun x => optI (ancOf (Su202.selectAnnouncement ss x))))) ⟨Same.new hD, upd_same⟩ ?_ ?_⟩
    · rintro i H2 hi ⟨e2, hL⟩
      have e0 : (0 : Int) + (i : Int) = (i : Int) := Int.zero_add _
      rw [e0]
      refine ⟨rfl, ?_⟩
      refine ⟨_, rfl, _, rfl, p, ts, ss, i, rfl, hA.same e2, hso, fun v hv => ⟨v, _, rfl, hv, _, hL, ?_, Same.updN e2 hD, ?_⟩⟩
      · rw [List.length_map, List.length_take, List.length_range]
        exact small1000 (by omega)
      · rw [upd_same, range_take hi, List.map_append]
        rfl
    · rintro H2 ⟨e2, hL⟩
      exact k H2 D e2 hD hL
def movV (d e : Nat → Option Nat) : List Nat := (List.range 64).filter fun x => d x != e x
def spMoved (K : PySem.W.Frag) : Sp := fun vs H Q _ => ∃ (p q : Addr) (d e : Nat → Option Nat), vs = [.ref p, .ref q] ∧ SqL K H p (dV d) ∧ SqL K H q (dV e) ∧
  ∀ (H' : Hp) (r : Addr), Same H H' → H r = none → H' r = some (.lst (nV (movV d e))) → Q (.ref r) H'
theorem range_len (f : Nat → Bool) (n i : Nat) : (((List.range n).take i).filter f).length ≤ n := by
  have := filter_len f (List.range n) i
  rw [List.length_range] at this
  exact this
theorem ok_moved_addresses (D : Def K mg "moved_addresses" "moved_addresses" s_moved_addresses P_moved_addresses) (C : Cons K mg SZ) : Ok P w K mg base 1 "moved_addresses" P_moved_addresses (spMoved K) := by
  refine D.ok sc_moved_addresses (fun vs H Q E h => ?_) (fun f cdv A outer s H vs Q E hr h => ?_)
  · obtain ⟨p, q, d, e, rfl, _⟩ := h
    rfl
  · obtain ⟨p, q, d, e, rfl, hp, hq, k⟩ := h
    have T : Cons K mg SZ := C
    refine ⟨_, (pss_one (ps_ret (pe_lc (own := [("address", 2)]) (g := gName 2) rfl sc_moved_addresses.nd (pi_range1 rfl T.range (pa_cons (pe_con C.ADDRESS_COUNT rfl) pa_nil)) (blkOk_by (own := [("address", 2)]) (N := N_moved_addresses) (sc := defScope s_moved_addresses) (by decide +kernel)) (fun _ _ _ _ _ => pg_name (i := 2) sc_moved_addresses.nd rfl (Or.inl rfl)) (fun _ _ _ _ _ => (pts_one (pt_cmpR op_ne (pe_ix (ix_listE (K := K) rfl) (pv 0) (pv 2) (fun _ _ => rfl)) (pe_ix (ix_listE (K := K) rfl) (pv 1) (pv 2) (fun _ _ => rfl)) (nomark _)))) (fun _ _ _ _ _ => (pv 2))))), ?_⟩
    refine ⟨64, rfl, by decide, by decide, fun D hD => lc_range (lo := 0) (n := 64)
      (fun i H2 => Same H H2 ∧ H2 D = some (.lst (nV (((List.range 64).take i).filter fun x => d x != e x)))) ⟨Same.new hD, upd_same⟩ ?_ ?_⟩
    · rintro i H2 hi ⟨e2, hL⟩
      have e0 : (0 : Int) + (i : Int) = (i : Int) := Int.zero_add _
      rw [e0]
      have hm := filter_more (fun x => d x != e x) (List.getElem?_range hi)
      refine ⟨rfl, ?_⟩
      refine ⟨_, rfl, _, rfl, p, _, _, _, rfl, rfl, e2.seq hp, dV_get d hi, _, rfl, _, rfl, q, _, _, _, rfl, rfl, e2.seq hq, dV_get e hi, (optI_ne _ _).1, _, rfl, ?_⟩
      rw [(optI_ne _ _).2]
      refine ifb (fun c => ?_) (fun c => ?_)
      · rw [c, if_pos rfl] at hm
        refine ⟨_, rfl, _, hL, ?_, Same.updN e2 hD, ?_⟩
        · have := range_len (fun x => d x != e x) 64 i
          rw [nV_len]
          exact small1000 (by omega)
        · rw [upd_same, hm, nV_snoc]
      · rw [c, if_neg Bool.false_ne_true, List.append_nil] at hm
        exact ⟨e2, by rw [hm]; exact hL⟩
    · rintro H2 ⟨e2, hL⟩
      exact k H2 D e2 hD hL
end
end My
namespace My
open PySem PySem.Spec PyProof.Rows L2
/-- the registry as it lies at p -/
structure Raw (K : PySem.W.Frag) (C : Addr) (H : Hp) (p dx pr pa : Addr) (ts us : List Addr) (r : Su202.Registry) : Prop where
  ins : H p = some (.ins C dx (rF pr pa ((stI r.strict : Nat) : Int)))
  rr : RowsAt rowR K H pr ts r.roas
  ra : RowsAt rowA K H pa us r.announcements
/-- what the helpers ask of its rows -/
structure Rows17 (r : Su202.Registry) : Prop where
  roas : GsOk r.roas
  anns : ∀ s ∈ r.announcements, AnnOk s
  annN : r.announcements.length ≤ 17
theorem RegOk.rows {r : Su202.Registry} (h : RegOk r) : Rows17 r := ⟨⟨h.roas, by have := h.roaN; omega⟩, h.anns, by have := h.annN; omega⟩
theorem Rows17.acc {r : Su202.Registry} (h : Rows17 r) : ∀ s ∈ r.accepted, AnnOk s := fun s q => h.anns s (List.mem_filter.mp q).1
theorem Raw.same {K : PySem.W.Frag} {C : Addr} {H H' : Hp} {p dx pr pa : Addr} {ts us : List Addr} {r : Su202.Registry} (h : Raw K C H p dx pr pa ts us r) (e : Same H H') : Raw K C H' p dx pr pa ts us r := ⟨e _ _ h.ins, h.rr.same e, h.ra.same e⟩
/-- rows stand where an instance changes -/
theorem SqT.updI {K : PySem.W.Frag} {H : Hp} {t p C dx : Addr} {fs : List (Str × V)} {o : HO} {xs : List V} (h : SqT K H t xs) (hp : H p = some (.ins C dx fs)) : SqT K (upd H p o) t xs := by
  rcases h with (h | ⟨u, h⟩) | h
  · exact .inl (.inl ((upd_ne (ne_of h hp (by intro q; cases q))).trans h))
  · exact .inl (.inr ⟨u, (upd_ne (ne_of h hp (by intro q; cases q))).trans h⟩)
  · exact .inr h
theorem RowsAt.updI {α : Type} {row : α → List Nat} {K : PySem.W.Frag} {H : Hp} {t p C dx : Addr} {fs : List (Str × V)} {o : HO} {ts : List Addr} {gs : List α} (h : RowsAt row K H t ts gs) (hp : H p = some (.ins C dx fs)) : RowsAt row K (upd H p o) t ts gs :=
  ⟨(upd_ne (ne_of h.seq hp (by intro q; cases q))).trans h.seq, h.len, fun i t g a b => SqT.updI (h.at_ i t g a b) hp⟩
theorem moved_eq (r t : Su202.Registry) : r.movedAddresses t = movV r.destination t.destination := rfl
def dropL (r : Su202.Registry) : List Su202.Announcement := r.announcements.filter fun s => !accB r.roas r.strict s
theorem same_make {C x d : Addr} {H H2 : Hp} (hx : H x = none) (hd : H d = none) (hk : Keep x (upd (upd H d (.own x)) x (.ins C d [])) H2) : Same H H2 := fun b o e =>
  hk b o (ne_of_none e hx) ((upd_ne (ne_of_none e hx)).trans ((upd_ne (ne_of_none e hd)).trans e))
theorem RowsAt.map {α : Type} {row : α → List Nat} {K : PySem.W.Frag} {H : Hp} {p : Addr} {ts : List Addr} {gs : List α} (h : RowsAt row K H p ts gs) : RowsAt id K H p ts (gs.map row) := by
  refine ⟨h.seq, by rw [List.length_map, h.len], fun i t g a b => ?_⟩
  rw [List.getElem?_map] at b
  cases e : gs[i]? with
  | none =>
    rw [e] at b
    cases b
  | some x =>
    rw [e] at b
    have b := Option.some.inj b
    subst b
    exact h.at_ i t x a e
section
variable {P : Program} {w : World} {K : PySem.W.Frag} {mg : Str → Option Value} {base : Heap} {SZ C : Addr}
/-! ### all_fields -/
theorem flat_len : ∀ rows : List (List Nat), (∀ x ∈ rows, x.length = 4) → rows.flatten.length = 4 * rows.length
  | [], _ => rfl
  | x :: rows, h => by
    rw [List.flatten_cons, List.length_append, h x (List.mem_cons_self ..), flat_len rows fun y hy => h y (List.mem_cons_of_mem _ hy), List.length_cons]
    omega
def spFields (K : PySem.W.Frag) : Sp := fun vs H Q _ => ∃ (p : Addr) (ts : List Addr) (rows : List (List Nat)), vs = [.ref p] ∧ RowsAt id K H p ts rows ∧ rows.length ≤ 28 ∧ (∀ x ∈ rows, x.length = 4) ∧
  ∀ (H' : Hp) (r : Addr), Same H H' → H r = none → H' r = some (.lst (nV rows.flatten)) → Q (.ref r) H'
theorem ok_all_fields (D : Def K mg "all_fields" "all_fields" s_all_fields P_all_fields) : Ok P w K mg base 1 "all_fields" P_all_fields (spFields K) := by
  refine D.ok sc_all_fields (fun vs H Q E h => ?_) (fun f cdv A outer s H vs Q E hr h => ?_)
  · obtain ⟨p, ts, rows, rfl, _⟩ := h
    rfl
  · obtain ⟨p, ts, rows, rfl, hR, hn, h4, k⟩ := h
    refine ⟨_, (pss_cons (ps_set (i := 1) sc_all_fields.nd rfl (Or.inl rfl) (pe_lst pa_nil))
        (pss_cons (ps_for PassesOwn.never rfl (pi_list (pv 0)) (pg_name (i := 2) sc_all_fields.nd rfl (Or.inl rfl))
          (pss_one (ps_expr (pe_bm PySem.F.plainAttrs_list PySem.F.slot_list_extend PySem.F.type_list_extend (mt_extendT (K := K) rfl) (pv 1) (pa_cons (pv 2) pa_nil)))))
        (pss_one (ps_ret (pv 1))))), ?_⟩
    refine ⟨Nat.zero_le _, fun D hD => ?_⟩
    have s0 := Same.new (o := .lst []) hD
    refine ⟨_, rfl, p, rfl, ⟨_, (hR.same s0).sq⟩, for_list (K := K) (a := p) (xs := ts.map V.ref)
      (fun i σ H' => ∃ v2, σ = [some (.ref p), some (.ref D), v2] ∧ Same H H' ∧ H' D = some (.lst (nV (rows.take i).flatten)))
      ⟨none, rfl, s0, upd_same⟩ (fun i σ H' _ ⟨_, _, e, _⟩ => e.seq hR.sq) ?_ ?_⟩
    · rintro i y σ H' hi ⟨v2, rfl, e, hL⟩
      obtain ⟨t, g, rfl, _, hg, ht⟩ := hR.get hi
      refine ⟨_, rfl, .inl ⟨rfl, _, SqL.of hL⟩, _, rfl, D, t, _, _, rfl, rfl, hL, ht.same e, ?_, some (.ref t), rfl, Same.updN e hD, ?_⟩
      · have h1 := flat_len (rows.take i) fun x hx => h4 x (List.mem_of_mem_take hx)
        have h2 := take_len_le rows i
        have h3 := h4 g (mem_of_getElem? hg)
        rw [nV_len, List.length_map]
        exact Nat.le_of_lt (small1000 (by show (rows.take i).flatten.length + g.length ≤ 1000; omega))
      · rw [upd_same, take_more hg, List.flatten_append]
        unfold nV
        rw [List.map_append]
        simp
    · rintro σ H' ⟨v2, rfl, e, hL⟩
      rw [List.length_map, hR.len, List.take_length] at hL
      exact ⟨_, rfl, k H' D e hD hL⟩
/-! ### a new registry -/
def spInit (K : PySem.W.Frag) (C : Addr) : Sp := fun vs H Q _ => ∃ (p dx pr pa : Addr) (s : Int), vs = [.ref p, .ref pr, .ref pa, .int s] ∧ H p = some (.ins C dx []) ∧
  ∀ (H' : Hp), Keep p H H' → H' p = some (.ins C dx (rF pr pa s)) → Q .non H'
theorem ok_R_init (D : IDef K mg C "Registry" "Registry.__init__" s_R_init P_R_init) (T : RCls K C) : IOk P w K mg base C 1 "Registry" P_R_init (spInit K C) := by
  refine D.ok sc_R_init (fun vs H Q E h => ?_) (fun f cdv A outer s H vs Q E hr h => ?_)
  · obtain ⟨p, dx, pr, pa, s, rfl, _⟩ := h
    rfl
  · obtain ⟨p, dx, pr, pa, s, rfl, hp, k⟩ := h
    refine ⟨_, (pss_cons (ps_fld (pv 0) (pv 1) rfl)
        (pss_cons (ps_fld (pv 0) (pv 2) rfl)
        (pss_one (ps_fld (pv 0) (pv 3) rfl)))), ?_⟩
    refine ⟨_, rfl, _, rfl, p, C, dx, [], rfl, hp, T.cl, T.nR, (by show 0 < 1000; decide), ?_⟩
    refine ⟨_, rfl, _, rfl, p, C, dx, _, rfl, upd_same, T.cl, T.nA, (by show 1 < 1000; decide), ?_⟩
    refine ⟨_, rfl, _, rfl, p, C, dx, _, rfl, upd_same, T.cl, T.nS, (by show 2 < 1000; decide), ?_⟩
    refine k _ (fun b o nb e => ?_) ?_
    · rw [upd_ne nb, upd_ne nb, upd_ne nb]
      exact e
    · rw [upd_same, rF_new]
/-! ### the accepted announcements, the dropped ones -/
def spRAcc (K : PySem.W.Frag) (C : Addr) : Sp := fun vs H Q _ => ∃ (p dx pr pa : Addr) (ts us : List Addr) (r : Su202.Registry), vs = [.ref p] ∧ Raw K C H p dx pr pa ts us r ∧ Rows17 r ∧
  ∀ (H' : Hp) (q : Addr) (vs : List Addr), Same H H' → H q = none → RowsAt rowA K H' q vs r.accepted → Q (.ref q) H'
theorem ok_R_accepted (D : MDef K C "accepted" "Registry.accepted" s_R_accepted P_R_accepted) (T : RCls K C) (O_is_accepted : Ok P w K mg base 5 "is_accepted" P_is_accepted (spIsAcc K)) :
    MOk P w K mg base C 6 "accepted" P_R_accepted (spRAcc K C) := by
  refine D.ok sc_R_accepted (fun vs H Q E h => ?_) (fun f cdv A outer s H vs Q E hr h => ?_)
  · obtain ⟨p, dx, pr, pa, ts, us, r, rfl, _⟩ := h
    rfl
  · obtain ⟨p, dx, pr, pa, ts, us, r, rfl, hR, ho, k⟩ := h
    refine ⟨_, (pss_one (ps_ret (pe_lc (own := [("one", 1)]) (g := gName 1) rfl sc_R_accepted.nd (pi_list (pe_fld (pv 0) rfl)) (blkOk_by (own := [("one", 1)]) (N := N_R_accepted) (sc := defScope s_R_accepted) (by decide +kernel)) (fun _ _ _ _ _ => pg_name (i := 1) sc_R_accepted.nd rfl (Or.inl rfl)) (fun _ _ _ _ _ => (pts_one (pt_val (O_is_accepted.call hr rfl (pa_cons (pv 1) (pa_cons (pe_fldE (K := K) rfl (pv 0) rfl) (pa_cons (pe_fldE (K := K) rfl (pv 0) rfl) pa_nil))))))) (fun _ _ _ _ _ => (pv 1))))), ?_⟩
    refine ⟨_, rfl, p, C, dx, _, _, rfl, hR.ins, T.cl, T.nA, rF_anns, pa, rfl, ⟨_, hR.ra.sq⟩, fun D hD => lc_list (K := K) (a := pa) (xs := us.map V.ref)
      (fun i H' => ∃ vs, Same H H' ∧ H' D = some (.lst (vs.map V.ref)) ∧ TupsAt rowA K H' vs ((r.announcements.take i).filter (accB r.roas r.strict)))
      ⟨[], Same.new hD, upd_same, .nil⟩ (fun i H' _ ⟨vs, e, _⟩ => e.seq hR.ra.sq) ?_ ?_⟩
    · rintro i y H' hi ⟨vs, e, hL, hT⟩
      obtain ⟨t, s, rfl, _, hs, ht⟩ := hR.ra.get hi
      have hm := filter_more (accB r.roas r.strict) hs
      have hi' := e _ _ hR.ins
      refine ⟨rfl, _, rfl, _, rfl, p, C, dx, _, _, rfl, hi', T.cl, T.nR, rF_roas, _, rfl, p, C, dx, _, _, rfl, hi', T.cl, T.nS, rF_strict, t, pr, ts, s, r.roas, r.strict, rfl, ht.same e, hR.rr.same e, ho.roas, (ho.anns s (mem_of_getElem? hs)).org, fun H3 e3 => ⟨_, rfl, ?_⟩⟩
      have hL3 := e3 _ _ hL
      refine ifb (fun c => ?_) (fun c => ?_)
      · rw [c, if_pos rfl] at hm
        refine ⟨_, rfl, _, hL3, ?_, vs ++ [t], Same.updN (e.trans e3) hD, ?_, ?_⟩
        · have := filter_len (accB r.roas r.strict) r.announcements i
          have h2 := ho.annN
          rw [List.length_map, hT.len]
          exact small1000 (by omega)
        · rw [upd_same, map_snoc]
        · rw [hm]
          exact ((hT.snoc (ht.same e)).same e3).updL hL3
      · rw [c, if_neg Bool.false_ne_true, List.append_nil] at hm
        exact ⟨vs, e.trans e3, hL3, by rw [hm]; exact hT.same e3⟩
    · rintro H' ⟨vs, e, hL, hT⟩
      rw [List.length_map, hR.ra.len, List.take_length] at hT
      exact k H' D vs e hD (hT.rows hL)
def spRDrop (K : PySem.W.Frag) (C : Addr) : Sp := fun vs H Q _ => ∃ (p dx pr pa : Addr) (ts us : List Addr) (r : Su202.Registry), vs = [.ref p] ∧ Raw K C H p dx pr pa ts us r ∧ Rows17 r ∧
  ∀ (H' : Hp) (q : Addr) (vs : List Addr), Same H H' → H q = none → RowsAt rowA K H' q vs (dropL r) → Q (.ref q) H'
theorem ok_R_dropped (D : MDef K C "dropped" "Registry.dropped" s_R_dropped P_R_dropped) (T : RCls K C) (O_is_accepted : Ok P w K mg base 5 "is_accepted" P_is_accepted (spIsAcc K)) :
    MOk P w K mg base C 6 "dropped" P_R_dropped (spRDrop K C) := by
  refine D.ok sc_R_dropped (fun vs H Q E h => ?_) (fun f cdv A outer s H vs Q E hr h => ?_)
  · obtain ⟨p, dx, pr, pa, ts, us, r, rfl, _⟩ := h
    rfl
  · obtain ⟨p, dx, pr, pa, ts, us, r, rfl, hR, ho, k⟩ := h
    refine ⟨_, (pss_one (ps_ret (pe_lc (own := [("one", 1)]) (g := gName 1) rfl sc_R_dropped.nd (pi_list (pe_fld (pv 0) rfl)) (blkOk_by (own := [("one", 1)]) (N := N_R_dropped) (sc := defScope s_R_dropped) (by decide +kernel)) (fun _ _ _ _ _ => pg_name (i := 1) sc_R_dropped.nd rfl (Or.inl rfl)) (fun _ _ _ _ _ => (pts_one (pt_not (pt_val (O_is_accepted.call hr rfl (pa_cons (pv 1) (pa_cons (pe_fldE (K := K) rfl (pv 0) rfl) (pa_cons (pe_fldE (K := K) rfl (pv 0) rfl) pa_nil)))))))) (fun _ _ _ _ _ => (pv 1))))), ?_⟩
    refine ⟨_, rfl, p, C, dx, _, _, rfl, hR.ins, T.cl, T.nA, rF_anns, pa, rfl, ⟨_, hR.ra.sq⟩, fun D hD => lc_list (K := K) (a := pa) (xs := us.map V.ref)
      (fun i H' => ∃ vs, Same H H' ∧ H' D = some (.lst (vs.map V.ref)) ∧ TupsAt rowA K H' vs ((r.announcements.take i).filter fun s => !accB r.roas r.strict s))
      ⟨[], Same.new hD, upd_same, .nil⟩ (fun i H' _ ⟨vs, e, _⟩ => e.seq hR.ra.sq) ?_ ?_⟩
    · rintro i y H' hi ⟨vs, e, hL, hT⟩
      obtain ⟨t, s, rfl, _, hs, ht⟩ := hR.ra.get hi
      have hm := filter_more (fun s => !accB r.roas r.strict s) hs
      have hi' := e _ _ hR.ins
      refine ⟨rfl, _, rfl, _, rfl, p, C, dx, _, _, rfl, hi', T.cl, T.nR, rF_roas, _, rfl, p, C, dx, _, _, rfl, hi', T.cl, T.nS, rF_strict, t, pr, ts, s, r.roas, r.strict, rfl, ht.same e, hR.rr.same e, ho.roas, (ho.anns s (mem_of_getElem? hs)).org, fun H3 e3 => ⟨_, rfl, ?_⟩⟩
      have hL3 := e3 _ _ hL
      refine ifb (fun c => ?_) (fun c => ?_)
      · have c : (!accB r.roas r.strict s) = true := c
        rw [c, if_pos rfl] at hm
        refine ⟨_, rfl, _, hL3, ?_, vs ++ [t], Same.updN (e.trans e3) hD, ?_, ?_⟩
        · have := filter_len (fun s => !accB r.roas r.strict s) r.announcements i
          have h2 := ho.annN
          rw [List.length_map, hT.len]
          exact small1000 (by omega)
        · rw [upd_same, map_snoc]
        · rw [hm]
          exact ((hT.snoc (ht.same e)).same e3).updL hL3
      · have c : (!accB r.roas r.strict s) = false := c
        rw [c, if_neg Bool.false_ne_true, List.append_nil] at hm
        exact ⟨vs, e.trans e3, hL3, by rw [hm]; exact hT.same e3⟩
    · rintro H' ⟨vs, e, hL, hT⟩
      rw [List.length_map, hR.ra.len, List.take_length] at hT
      exact k H' D vs e hD (hT.rows hL)
/-! ### destinations, moves, changes -/
def spRDest (K : PySem.W.Frag) (C : Addr) : Sp := fun vs H Q _ => ∃ (p dx pr pa : Addr) (ts us : List Addr) (r : Su202.Registry), vs = [.ref p] ∧ Raw K C H p dx pr pa ts us r ∧ Rows17 r ∧
  ∀ (H' : Hp) (q : Addr), Same H H' → H q = none → H' q = some (.lst (dV r.destination)) → Q (.ref q) H'
theorem ok_R_destinations (D : MDef K C "destinations" "Registry.destinations" s_R_destinations P_R_destinations) (T : RCls K C) (M_accepted : MOk P w K mg base C 6 "accepted" P_R_accepted (spRAcc K C))
    (O_destinations_by : Ok P w K mg base 5 "destinations_by" P_destinations_by (spDests K)) : MOk P w K mg base C 7 "destinations" P_R_destinations (spRDest K C) := by
  refine D.ok sc_R_destinations (fun vs H Q E h => ?_) (fun f cdv A outer s H vs Q E hr h => ?_)
  · obtain ⟨p, dx, pr, pa, ts, us, r, rfl, _⟩ := h
    rfl
  · obtain ⟨p, dx, pr, pa, ts, us, r, rfl, hR, ho, k⟩ := h
    refine ⟨_, (pss_one (ps_ret (O_destinations_by.call hr rfl (pa_cons (M_accepted.call0 hr (pv 0)) pa_nil)))), ?_⟩
    refine ⟨_, rfl, p, dx, _, rfl, hR.ins, rF_no (by decide +kernel) (by decide +kernel) (by decide +kernel), p, dx, pr, pa, ts, us, r, rfl, hR, ho, fun H1 z vs e hz hN => ?_⟩
    exact ⟨z, vs, _, rfl, hN, ho.acc, fun H2 D e2 n2 hD => k H2 D (e.trans e2) (e.free n2) hD⟩
def spMovBy (K : PySem.W.Frag) (C : Addr) : Sp := fun vs H Q _ => ∃ (p dx pr pa q dq qr qa : Addr) (ts us ts2 us2 : List Addr) (r t : Su202.Registry), vs = [.ref p, .ref q] ∧ Raw K C H p dx pr pa ts us r ∧ Raw K C H q dq qr qa ts2 us2 t ∧ Rows17 r ∧ Rows17 t ∧
  ∀ (H' : Hp) (z : Addr), Same H H' → H z = none → H' z = some (.lst (nV (r.movedAddresses t))) → Q (.ref z) H'
theorem ok_R_moved_by (D : MDef K C "moved_by" "Registry.moved_by" s_R_moved_by P_R_moved_by) (T : RCls K C) (M_destinations : MOk P w K mg base C 7 "destinations" P_R_destinations (spRDest K C))
    (O_moved_addresses : Ok P w K mg base 1 "moved_addresses" P_moved_addresses (spMoved K)) : MOk P w K mg base C 8 "moved_by" P_R_moved_by (spMovBy K C) := by
  refine D.ok sc_R_moved_by (fun vs H Q E h => ?_) (fun f cdv A outer s H vs Q E hr h => ?_)
  · obtain ⟨p, dx, pr, pa, q, dq, qr, qa, ts, us, ts2, us2, r, t, rfl, _⟩ := h
    rfl
  · obtain ⟨p, dx, pr, pa, q, dq, qr, qa, ts, us, ts2, us2, r, t, rfl, hR, hT, ho, ho2, k⟩ := h
    refine ⟨_, (pss_one (ps_ret (O_moved_addresses.call hr rfl (pa_cons (M_destinations.call0 hr (pv 0)) (pa_cons (M_destinations.call0 hr (pv 1)) pa_nil))))), ?_⟩
    refine ⟨_, rfl, p, dx, _, rfl, hR.ins, rF_no (by decide +kernel) (by decide +kernel) (by decide +kernel), p, dx, pr, pa, ts, us, r, rfl, hR, ho, fun H1 D1 e1 n1 h1 => ?_⟩
    have hT1 := hT.same e1
    refine ⟨_, rfl, q, dq, _, rfl, hT1.ins, rF_no (by decide +kernel) (by decide +kernel) (by decide +kernel), q, dq, qr, qa, ts2, us2, t, rfl, hT1, ho2, fun H2 D2 e2 n2 h2 => ?_⟩
    exact ⟨D1, D2, r.destination, t.destination, rfl, .of (e2 _ _ h1), .of h2, fun H3 z e3 n3 h3 => k H3 z ((e1.trans e2).trans e3) ((e1.trans e2).free n3) h3⟩
def spChange (K : PySem.W.Frag) (C : Addr) : Sp := fun vs H Q _ => ∃ (p dx pr pa q dq qr qa : Addr) (ts us ts2 us2 : List Addr) (r t : Su202.Registry), vs = [.ref p, .ref q] ∧ Raw K C H p dx pr pa ts us r ∧ Raw K C H q dq qr qa ts2 us2 t ∧ q ≠ p ∧ Rows17 r ∧ Rows17 t ∧
  ∀ (H' : Hp), Keep p H H' → H' p = some (.ins C dx (rF qr qa ((stI t.strict : Nat) : Int))) → Q (.int (((r.movedAddresses t).length : Nat) : Int)) H'
theorem ok_R_change_to (D : MDef K C "change_to" "Registry.change_to" s_R_change_to P_R_change_to) (C0 : Cons K mg SZ) (T0 : RCls K C) (M_moved_by : MOk P w K mg base C 8 "moved_by" P_R_moved_by (spMovBy K C)) :
    MOk P w K mg base C 9 "change_to" P_R_change_to (spChange K C) := by
  refine D.ok sc_R_change_to (fun vs H Q E h => ?_) (fun f cdv A outer s H vs Q E hr h => ?_)
  · obtain ⟨p, dx, pr, pa, q, dq, qr, qa, ts, us, ts2, us2, r, t, rfl, _⟩ := h
    rfl
  · obtain ⟨p, dx, pr, pa, q, dq, qr, qa, ts, us, ts2, us2, r, t, rfl, hR, hT, nqp, ho, ho2, k⟩ := h
    have T := C0
    refine ⟨_, (pss_cons (ps_set (i := 2) sc_R_change_to.nd rfl (Or.inl rfl) (M_moved_by.call hr (pv 0) (pa_cons (pv 1) pa_nil)))
        (pss_cons (ps_fld (pv 0) (pe_fld (pv 1) rfl) rfl)
        (pss_cons (ps_fld (pv 0) (pe_fld (pv 1) rfl) rfl)
        (pss_cons (ps_fld (pv 0) (pe_fld (pv 1) rfl) rfl)
        (pss_one (ps_ret (pe_callB call_len_seq (by rfl) T.len PySem.boot_len (pa_cons (pv 2) pa_nil)))))))), ?_⟩
    refine ⟨_, rfl, p, dx, _, rfl, hR.ins, rF_no (by decide +kernel) (by decide +kernel) (by decide +kernel), _, rfl, p, dx, pr, pa, q, dq, qr, qa, ts, us, ts2, us2, r, t, rfl, hR, hT, ho, ho2, fun H1 z e1 n1 h1 => ?_⟩
    have i1 := e1 _ _ hR.ins
    have j1 := e1 _ _ hT.ins
    refine ⟨_, rfl, q, C, dq, _, _, rfl, j1, T0.cl, T0.nR, rF_roas, _, rfl, p, C, dx, _, rfl, i1, T0.cl, T0.nR, (by show 3 < 1000; decide), ?_⟩
    refine ⟨_, rfl, q, C, dq, _, _, rfl, (upd_ne nqp).trans j1, T0.cl, T0.nA, rF_anns, _, rfl, p, C, dx, _, rfl, upd_same, T0.cl, T0.nA, (by show 3 < 1000; decide), ?_⟩
    refine ⟨_, rfl, q, C, dq, _, _, rfl, (upd_ne nqp).trans ((upd_ne nqp).trans j1), T0.cl, T0.nS, rF_strict, _, rfl, p, C, dx, _, rfl, upd_same, T0.cl, T0.nS, (by show 3 < 1000; decide), ?_⟩
    have m1 : z ≠ p := ne_of h1 i1 (by intro q; cases q)
    refine ⟨_, rfl, z, _, rfl, .inl (SqL.of ((upd_ne m1).trans ((upd_ne m1).trans ((upd_ne m1).trans h1)))), ?_⟩
    rw [nV_len]
    refine k _ (fun b o nb e => ?_) ?_
    · rw [upd_ne nb, upd_ne nb, upd_ne nb]
      exact e1 _ _ e
    · rw [upd_same, rF_putR, rF_putA, rF_putS]
/-! ### another registry -/
def spWithR (K : PySem.W.Frag) (C : Addr) : Sp := fun vs H Q _ => ∃ (p dx pr pa qr : Addr) (ts us ts2 : List Addr) (r : Su202.Registry) (gs : List Su202.Roa), vs = [.ref p, .ref qr] ∧
  Raw K C H p dx pr pa ts us r ∧ RowsAt rowR K H qr ts2 gs ∧
  ∀ (H' : Hp) (q dq : Addr), Same H H' → H q = none → Raw K C H' q dq qr pa ts2 us { r with roas := gs } → Q (.ref q) H'
theorem ok_R_with_roas (D : MDef K C "with_roas" "Registry.with_roas" s_R_with_roas P_R_with_roas) (T : RCls K C) (I_Registry : IOk P w K mg base C 1 "Registry" P_R_init (spInit K C)) :
    MOk P w K mg base C 3 "with_roas" P_R_with_roas (spWithR K C) := by
  refine D.ok sc_R_with_roas (fun vs H Q E h => ?_) (fun f cdv A outer s H vs Q E hr h => ?_)
  · obtain ⟨p, dx, pr, pa, qr, ts, us, ts2, r, gs, rfl, _⟩ := h
    rfl
  · obtain ⟨p, dx, pr, pa, qr, ts, us, ts2, r, gs, rfl, hR, h2, k⟩ := h
    refine ⟨_, (pss_one (ps_ret (I_Registry.makeA hr rfl (pa_cons (pv 1) (pa_cons (pe_fld (pv 0) rfl) (pa_cons (pe_fld (pv 0) rfl) pa_nil)))))), ?_⟩
    refine ⟨_, rfl, _, rfl, p, C, dx, _, _, rfl, hR.ins, T.cl, T.nA, rF_anns, _, rfl, p, C, dx, _, _, rfl, hR.ins, T.cl, T.nS, rF_strict, fun x d hx hd nxd => ?_⟩
    refine ⟨x, d, qr, pa, _, rfl, upd_same, fun H2 hk hi => ⟨rfl, ?_⟩⟩
    have e := same_make hx hd hk
    exact k H2 x d e hx ⟨hi, h2.same e, hR.ra.same e⟩
def spWithA (K : PySem.W.Frag) (C : Addr) : Sp := fun vs H Q _ => ∃ (p dx pr pa qa : Addr) (ts us us2 : List Addr) (r : Su202.Registry) (ss : List Su202.Announcement), vs = [.ref p, .ref qa] ∧
  Raw K C H p dx pr pa ts us r ∧ RowsAt rowA K H qa us2 ss ∧
  ∀ (H' : Hp) (q dq : Addr), Same H H' → H q = none → Raw K C H' q dq pr qa ts us2 { r with announcements := ss } → Q (.ref q) H'
theorem ok_R_with_announcements (D : MDef K C "with_announcements" "Registry.with_announcements" s_R_with_announcements P_R_with_announcements) (T : RCls K C) (I_Registry : IOk P w K mg base C 1 "Registry" P_R_init (spInit K C)) :
    MOk P w K mg base C 3 "with_announcements" P_R_with_announcements (spWithA K C) := by
  refine D.ok sc_R_with_announcements (fun vs H Q E h => ?_) (fun f cdv A outer s H vs Q E hr h => ?_)
  · obtain ⟨p, dx, pr, pa, qa, ts, us, us2, r, ss, rfl, _⟩ := h
    rfl
  · obtain ⟨p, dx, pr, pa, qa, ts, us, us2, r, ss, rfl, hR, h2, k⟩ := h
    refine ⟨_, (pss_one (ps_ret (I_Registry.makeA hr rfl (pa_cons (pe_fld (pv 0) rfl) (pa_cons (pv 1) (pa_cons (pe_fld (pv 0) rfl) pa_nil)))))), ?_⟩
    refine ⟨_, rfl, p, C, dx, _, _, rfl, hR.ins, T.cl, T.nR, rF_roas, _, rfl, _, rfl, p, C, dx, _, _, rfl, hR.ins, T.cl, T.nS, rF_strict, fun x d hx hd nxd => ?_⟩
    refine ⟨x, d, pr, qa, _, rfl, upd_same, fun H2 hk hi => ⟨rfl, ?_⟩⟩
    have e := same_make hx hd hk
    exact k H2 x d e hx ⟨hi, hR.rr.same e, h2.same e⟩
def spWithS (K : PySem.W.Frag) (C : Addr) : Sp := fun vs H Q _ => ∃ (p dx pr pa : Addr) (ts us : List Addr) (r : Su202.Registry) (b : Bool), vs = [.ref p, .int ((stI b : Nat) : Int)] ∧
  Raw K C H p dx pr pa ts us r ∧
  ∀ (H' : Hp) (q dq : Addr), Same H H' → H q = none → Raw K C H' q dq pr pa ts us { r with strict := b } → Q (.ref q) H'
theorem ok_R_with_strict (D : MDef K C "with_strict" "Registry.with_strict" s_R_with_strict P_R_with_strict) (T : RCls K C) (I_Registry : IOk P w K mg base C 1 "Registry" P_R_init (spInit K C)) :
    MOk P w K mg base C 3 "with_strict" P_R_with_strict (spWithS K C) := by
  refine D.ok sc_R_with_strict (fun vs H Q E h => ?_) (fun f cdv A outer s H vs Q E hr h => ?_)
  · obtain ⟨p, dx, pr, pa, ts, us, r, b, rfl, _⟩ := h
    rfl
  · obtain ⟨p, dx, pr, pa, ts, us, r, b, rfl, hR, k⟩ := h
    refine ⟨_, (pss_one (ps_ret (I_Registry.makeA hr rfl (pa_cons (pe_fld (pv 0) rfl) (pa_cons (pe_fld (pv 0) rfl) (pa_cons (pv 1) pa_nil)))))), ?_⟩
    refine ⟨_, rfl, p, C, dx, _, _, rfl, hR.ins, T.cl, T.nR, rF_roas, _, rfl, p, C, dx, _, _, rfl, hR.ins, T.cl, T.nA, rF_anns, _, rfl, fun x d hx hd nxd => ?_⟩
    refine ⟨x, d, pr, pa, _, rfl, upd_same, fun H2 hk hi => ⟨rfl, ?_⟩⟩
    have e := same_make hx hd hk
    exact k H2 x d e hx ⟨hi, hR.rr.same e, hR.ra.same e⟩
end
end My
namespace My
open PySem PySem.Spec PyProof.Rows L2
/-- the tuples at ts are those of gs, whatever they hold -/
structure VsAt {α : Type} (row : α → List V) (K : PySem.W.Frag) (H : Hp) (ts : List Addr) (gs : List α) : Prop where
  len : ts.length = gs.length
  at_ : ∀ (i : Nat) (t : Addr) (g : α), ts[i]? = some t → gs[i]? = some g → SqT K H t (row g)
theorem SqT.updL {K : PySem.W.Frag} {H : Hp} {t D : Addr} {xs zs : List V} {o : HO} (h : SqT K H t zs) (hD : H D = some (.lst xs)) : SqT K (upd H D o) t zs := by
  rcases h with (h | ⟨u, h⟩) | h
  · exact .inl (.inl ((upd_ne (ne_of h hD (by intro q; cases q))).trans h))
  · exact .inl (.inr ⟨u, (upd_ne (ne_of h hD (by intro q; cases q))).trans h⟩)
  · exact .inr h
section
variable {α : Type} {row : α → List V} {K : PySem.W.Frag} {H H' : Hp} {ts : List Addr} {gs : List α}
theorem VsAt.same (h : VsAt row K H ts gs) (e : Same H H') : VsAt row K H' ts gs := ⟨h.len, fun i t g a b => SqT.ext (h.at_ i t g a b) e⟩
theorem VsAt.nil : VsAt row K H [] ([] : List α) := ⟨rfl, fun i t g a => by simp at a⟩
theorem VsAt.updL {D : Addr} {xs : List V} {o : HO} (h : VsAt row K H ts gs) (hD : H D = some (.lst xs)) : VsAt row K (upd H D o) ts gs := ⟨h.len, fun i t g a b => SqT.updL (h.at_ i t g a b) hD⟩
theorem VsAt.snoc {t : Addr} {g : α} (h : VsAt row K H ts gs) (q : SqT K H t (row g)) : VsAt row K H (ts ++ [t]) (gs ++ [g]) := by
  refine ⟨by rw [List.length_append, List.length_append, h.len]; rfl, fun i u x a b => ?_⟩
  by_cases c : i < ts.length
  · rw [List.getElem?_append_left c] at a
    rw [List.getElem?_append_left (by rw [← h.len]; exact c)] at b
    exact h.at_ i u x a b
  · rw [List.getElem?_append_right (by omega)] at a
    rw [List.getElem?_append_right (by rw [← h.len]; omega), ← h.len] at b
    generalize i - ts.length = j at a b
    cases j with
    | zero =>
      cases Option.some.inj a
      cases Option.some.inj b
      exact q
    | succ j => simp at a
theorem VsAt.get (h : VsAt row K H ts gs) {i : Nat} {v : V} (hv : (ts.map V.ref)[i]? = some v) : ∃ t g, v = .ref t ∧ gs[i]? = some g ∧ SqT K H t (row g) := by
  rw [List.getElem?_map] at hv
  cases e : ts[i]? with
  | none =>
    rw [e] at hv
    cases hv
  | some t =>
    rw [e] at hv
    have hv := Option.some.inj hv
    subst hv
    have hi := (List.getElem?_eq_some_iff.mp e).1
    rw [h.len] at hi
    have eg : gs[i]? = some gs[i] := List.getElem?_eq_getElem hi
    exact ⟨t, gs[i], rfl, eg, h.at_ i t _ e eg⟩
end
def vP (p : Nat × Nat × Nat) : List V := [.int ((p.1 : Nat) : Int), .int ((p.2.1 : Nat) : Int), .non, .int ((p.2.2 : Nat) : Int)]
theorem aV0 {p : Nat × Nat × Nat} : atI (vP p) 0 = some (.int ((p.1 : Nat) : Int)) := atI_nat (j := 0) rfl
theorem aV1 {p : Nat × Nat × Nat} : atI (vP p) 1 = some (.int ((p.2.1 : Nat) : Int)) := atI_nat (j := 1) rfl
theorem aV3 {p : Nat × Nat × Nat} : atI (vP p) 3 = some (.int ((p.2.2 : Nat) : Int)) := atI_nat (j := 3) rfl
theorem nV_get {ns : List Nat} {j : Nat} {y : V} (h : (nV ns)[j]? = some y) : ∃ n, y = .int ((n : Nat) : Int) ∧ ns[j]? = some n := by
  unfold nV at h
  rw [List.getElem?_map] at h
  cases e : ns[j]? with
  | none =>
    rw [e] at h
    cases h
  | some n =>
    rw [e] at h
    exact ⟨n, (Option.some.inj h).symm, rfl⟩
theorem nV_emp (ns : List Nat) : (nV ns).isEmpty = ns.isEmpty := by
  cases ns <;> rfl
theorem posAt_get {gs : List Su202.Roa} {b : Bool} {x l j o : Nat} (h : (accO gs b (Su202.prefixOf x l) l)[j]? = some o) : (posAt gs b x l)[j]? = some (Su202.prefixOf x l, l, o) := by
  unfold posAt
  rw [List.getElem?_map, h]
  rfl
theorem optI_eq (a : Option Nat) (m : Nat) : scal (optI a) (.int (m : Int)) = true ∧ decide (optI a = .int (m : Int)) = (a == some m) := by
  cases a with
  | none => exact ⟨rfl, rfl⟩
  | some n =>
    refine ⟨rfl, ?_⟩
    show decide (V.int (n : Int) = V.int (m : Int)) = (some n == some m)
    rw [dec_beq]
    rfl
theorem opt_short {K : PySem.W.Frag} {i : Nat} {σ : L2.St} {H : Hp} {Q : VK} {v : V} {sel : Option Su202.Announcement} (hs : σ[i]? = some (some v)) (hv : OptAt K H v sel) (k : Q (.int ((short sel : Nat) : Int)) H) :
    tIf (tTest (tOp (fun x y H Q => y = .non ∧ Q (.bl (decide (x = .non))) H) (tVar i) (tC .non))) (tC (.int 0)) (tOp (rIxT K) (tVar i) (tC (.int 1))) σ H Q := by
  cases sel with
  | none =>
    cases (show v = .non from hv)
    exact ⟨_, hs, rfl, _, rfl, iteT k⟩
  | some y =>
    obtain ⟨u, rfl, hu⟩ := hv
    exact ⟨_, hs, rfl, _, rfl, iteF ⟨_, hs, u, _, _, _, rfl, rfl, hu, aA1, k⟩⟩
section
variable {P : Program} {w : World} {K : PySem.W.Frag} {mg : Str → Option Value} {base : Heap} {SZ C : Addr}
def spPos (K : PySem.W.Frag) (C : Addr) : Sp := fun vs H Q _ => ∃ (p dx pr pa : Addr) (ts us : List Addr) (r : Su202.Registry) (x sh : Nat), vs = [.ref p, .int x, .int sh] ∧ Raw K C H p dx pr pa ts us r ∧ GsOk r.roas ∧ sh ≤ 6 ∧
  ∀ (H' : Hp) (q : Addr) (ws : List Addr), Same H H' → H q = none → H' q = some (.lst (ws.map V.ref)) → VsAt vP K H' ws (posN r.roas r.strict x sh (7 - sh)) → Q (.ref q) H'
theorem ok_possible_announcements (D : Def K mg "possible_announcements" "possible_announcements" s_possible_announcements P_possible_announcements) (C0 : Cons K mg SZ) (T0 : RCls K C)
    (O_prefix_start : Ok P w K mg base 1 "prefix_start" P_prefix_start spStart) (O_accepted_origins : Ok P w K mg base 4 "accepted_origins" P_accepted_origins (spAccO K)) : Ok P w K mg base 5 "possible_announcements" P_possible_announcements (spPos K C) := by
  refine D.ok sc_possible_announcements (fun vs H Q E h => ?_) (fun f cdv A outer s H vs Q E hr h => ?_)
  · obtain ⟨p, dx, pr, pa, ts, us, r, x, sh, rfl, _⟩ := h
    rfl
  · obtain ⟨p, dx, pr, pa, ts, us, r, x, sh, rfl, hR, ok, h6, k⟩ := h
    have T := C0
    have C := C0
    refine ⟨_, (pss_cons (ps_set (i := 3) sc_possible_announcements.nd rfl (Or.inl rfl) (pe_lst pa_nil))
        (pss_cons (ps_for PassesOwn.never rfl (pi_range2 rfl T.range (pa_cons (pv 2) (pa_cons (pe_op op_add (pe_con C.LONGEST rfl) pe_int) pa_nil))) (pg_name (i := 4) sc_possible_announcements.nd rfl (Or.inl rfl))
          (pss_cons (ps_set (i := 5) sc_possible_announcements.nd rfl (Or.inl rfl) (O_prefix_start.call hr rfl (pa_cons (pv 1) (pa_cons (pv 4) pa_nil))))
          (pss_one (ps_for PassesOwn.never rfl (pi_list (O_accepted_origins.call hr rfl (pa_cons (pe_fld (pv 0) rfl) (pa_cons (pe_fld (pv 0) rfl) (pa_cons (pv 5) (pa_cons (pv 4) pa_nil)))))) (pg_name (i := 6) sc_possible_announcements.nd rfl (Or.inl rfl))
            (pss_one (ps_expr (pe_bm PySem.F.plainAttrs_list PySem.F.slot_list_append PySem.F.type_list_append mt_append (pv 3) (pa_cons (pe_tup (pa_cons (pv 5) (pa_cons (pv 4) (pa_cons pe_non (pa_cons (pv 6) pa_nil))))) pa_nil))))))))
        (pss_one (ps_ret (pv 3))))), ?_⟩
    refine ⟨Nat.zero_le _, fun D hD => ?_⟩
    have hn : ((7 : Int) - (sh : Int)).toNat = 7 - sh := by omega
    refine ⟨_, rfl, _, _, rfl, rfl, (sh : Int), 7, rfl, ⟨by omega, by omega, by decide, by decide⟩, for_range (lo := (sh : Int)) (n := ((7 : Int) - (sh : Int)).toNat)
      (fun i σ H' => ∃ v4 v5 v6 ws, σ = [some (.ref p), some (.int x), some (.int sh), some (.ref D), v4, v5, v6] ∧ Same H H' ∧ H' D = some (.lst (ws.map V.ref)) ∧ VsAt vP K H' ws (posN r.roas r.strict x sh i))
      ⟨none, none, none, [], rfl, Same.new hD, upd_same, .nil⟩ ?_ ?_⟩
    · rintro i σ H' hi ⟨v4, v5, v6, ws, rfl, e, hL, hT⟩
      have hi6 : sh + i ≤ 6 := by omega
      have e0 : (sh : Int) + (i : Int) = ((sh + i : Nat) : Int) := rfl
      rw [e0]
      refine ⟨_, rfl, _, rfl, x, sh + i, rfl, hi6, ?_⟩
      have hR1 := hR.same e
      refine ⟨_, rfl, p, _, dx, _, _, rfl, hR1.ins, T0.cl, T0.nR, rF_roas, _, rfl, p, _, dx, _, _, rfl, hR1.ins, T0.cl, T0.nS, rF_strict, _, rfl, _, rfl, pr, ts, r.roas, r.strict, _, sh + i, rfl, hR1.rr, ok, fun H3 z e3 n3 h3 => ?_⟩
      have nzD : z ≠ D := fun q => by
        rw [q, hL] at n3
        cases n3
      refine ⟨z, rfl, ⟨_, SqL.of h3⟩, for_list (K := K) (a := z) (xs := nV (accO r.roas r.strict (Su202.prefixOf x (sh + i)) (sh + i)))
        (fun j σ H4 => ∃ v6 ws, σ = [some (.ref p), some (.int x), some (.int sh), some (.ref D), some (.int ((sh + i : Nat) : Int)), some (.int ((Su202.prefixOf x (sh + i) : Nat) : Int)), v6] ∧ Same H H4 ∧
          H4 z = some (.lst (nV (accO r.roas r.strict (Su202.prefixOf x (sh + i)) (sh + i)))) ∧ H4 D = some (.lst (ws.map V.ref)) ∧ VsAt vP K H4 ws (posN r.roas r.strict x sh i ++ (posAt r.roas r.strict x (sh + i)).take j))
        ⟨v6, ws, rfl, e.trans e3, h3, e3 _ _ hL, by simpa using hT.same e3⟩ (fun j σ H4 _ ⟨_, _, _, _, h, _⟩ => SqL.of h) ?_ ?_⟩
      · rintro j y σ H4 hj ⟨v6, ws, rfl, e4, hz, hL4, hT4⟩
        obtain ⟨o, rfl, ho⟩ := nV_get hj
        refine ⟨_, rfl, .inl ⟨rfl, _, SqL.of hL4⟩, _, rfl, _, rfl, _, rfl, (by show 4 ≤ sizeLine; decide), fun T hT0 => ?_⟩
        have nDT : D ≠ T := ne_of_none hL4 hT0
        generalize hH5 : upd H4 T (.tup [.int ((Su202.prefixOf x (sh + i) : Nat) : Int), .int ((sh + i : Nat) : Int), .non, .int ((o : Nat) : Int)]) = H5
        have s5 : Same H4 H5 := hH5 ▸ Same.new hT0
        have hTT : SqT K H5 T (vP (Su202.prefixOf x (sh + i), sh + i, o)) := SqT.of (by rw [← hH5]; exact upd_same)
        have hL5 := s5 _ _ hL4
        refine ⟨D, _, _, rfl, rfl, hL5, ?_, some (.int ((o : Nat) : Int)), ws ++ [T], rfl, Same.updN (e4.trans s5) hD, (upd_ne nzD).trans (s5 _ _ hz), ?_, ?_⟩
        · have h1 := hT4.len
          have h2 := posN_len r.strict x sh ok.len i
          have h3 := posAt_len r.strict x (sh + i) ok.len
          have h4 := take_len_le (posAt r.roas r.strict x (sh + i)) j
          rw [List.length_append] at h1
          rw [List.length_map]
          exact small1000 (by omega)
        · rw [upd_same, map_snoc]
        · rw [take_more (posAt_get ho), ← List.append_assoc]
          exact ((hT4.same s5).snoc hTT).updL hL5
      · rintro σ H4 ⟨v6, ws, rfl, e4, hz, hL4, hT4⟩
        have el : (nV (accO r.roas r.strict (Su202.prefixOf x (sh + i)) (sh + i))).length = (posAt r.roas r.strict x (sh + i)).length := by
          unfold posAt
          rw [nV_len, List.length_map]
        rw [el, List.take_length, ← posN_more] at hT4
        exact ⟨_, _, v6, ws, rfl, e4, hL4, hT4⟩
    · rintro σ H' ⟨v4, v5, v6, ws, rfl, e, hL, hT⟩
      rw [hn] at hT
      exact ⟨_, rfl, k H' D ws e hD hL hT⟩
def spAttr (K : PySem.W.Frag) : Sp := fun vs H Q _ => ∃ (q : Addr) (ws : List Addr) (ps : List (Nat × Nat × Nat)) (m : Nat) (v : V) (sel : Option Su202.Announcement), vs = [.int m, .ref q, v] ∧ H q = some (.lst (ws.map V.ref)) ∧ VsAt vP K H ws ps ∧ OptAt K H v sel ∧
  ∀ H', Same H H' → Q (.bl (ps.any (lures m sel))) H'
theorem ok_can_attract (D : Def K mg "can_attract" "can_attract" s_can_attract P_can_attract) (C : Cons K mg SZ) (O_replaces : Ok P w K mg base 3 "replaces" P_replaces (spRepl K)) : Ok P w K mg base 4 "can_attract" P_can_attract (spAttr K) := by
  refine D.ok sc_can_attract (fun vs H Q E h => ?_) (fun f cdv A outer s H vs Q E hr h => ?_)
  · obtain ⟨q, ws, ps, m, v, sel, rfl, _⟩ := h
    rfl
  · obtain ⟨q, ws, ps, m, v, sel, rfl, hq, hT, hv, k⟩ := h
    refine ⟨_, (pss_cons (ps_for PassesOwn.never rfl (pi_list (pv 1)) (pg_name (i := 3) sc_can_attract.nd rfl (Or.inl rfl))
          (pss_cons (ps_set (i := 4) sc_can_attract.nd rfl (Or.inl rfl) (pe_tup (pa_cons (pe_ix (ix_tupE (K := K) rfl) (pv 3) (pe_con C.ADDRESS rfl) (fun _ _ => rfl)) (pa_cons (pe_ix (ix_tupE (K := K) rfl) (pv 3) (pe_con C.LENGTH rfl) (fun _ _ => rfl)) (pa_cons (pv 0) (pa_cons (pe_ix (ix_tupE (K := K) rfl) (pv 3) (pe_con C.ORIGIN rfl) (fun _ _ => rfl)) pa_nil))))))
          (pss_one (ps_if (pt_val (O_replaces.call hr rfl (pa_cons (pv 4) (pa_cons (pv 2) pa_nil))))
            (pss_one (ps_ret pe_bl))
            pss_nil))))
        (pss_one (ps_ret pe_bl))), ?_⟩
    refine ⟨_, rfl, q, rfl, ⟨_, SqL.of hq⟩, for_list (K := K) (a := q) (xs := ws.map V.ref)
      (fun i σ H' => ∃ v3 v4, σ = [some (.int m), some (.ref q), some v, v3, v4] ∧ Same H H' ∧ (ps.take i).any (lures m sel) = false)
      ⟨none, none, rfl, Same.refl _, rfl⟩ (fun i σ H' _ ⟨_, _, _, e, _⟩ => e.seq (SqL.of hq)) ?_ ?_⟩
    · rintro i y σ H' hi ⟨v3, v4, rfl, e, ha⟩
      obtain ⟨t, g, rfl, hg, ht⟩ := (hT.same e).get hi
      have hm := any_more (lures m sel) hg
      rw [ha, Bool.false_or] at hm
      refine ⟨_, rfl, t, _, _, _, rfl, rfl, ht, aV0, _, rfl, t, _, _, _, rfl, rfl, ht, aV1, _, rfl, _, rfl, t, _, _, _, rfl, rfl, ht, aV3, (by show 4 ≤ sizeLine; decide), fun T hT0 => ?_⟩
      have s5 := Same.new (o := .tup [.int ((g.1 : Nat) : Int), .int ((g.2.1 : Nat) : Int), .int ((m : Nat) : Int), .int ((g.2.2 : Nat) : Int)]) hT0
      have e5 := e.trans s5
      refine ⟨_, rfl, _, rfl, T, v, ⟨g.1, g.2.1, m, g.2.2⟩, sel, rfl, SqT.of upd_same, hv.same e5, _, rfl, ?_⟩
      refine ifb (fun c => ?_) (fun c => ?_)
      · have c : lures m sel g = true := c
        have ea : ps.any (lures m sel) = true := List.any_eq_true.mpr ⟨g, mem_of_getElem? hg, c⟩
        rw [ea] at k
        exact k _ e5
      · have c : lures m sel g = false := c
        rw [c] at hm
        exact ⟨some (.ref t), some (.ref T), rfl, e5, hm⟩
    · rintro σ H' ⟨v3, v4, rfl, e, ha⟩
      rw [List.length_map, hT.len, List.take_length] at ha
      rw [ha] at k
      exact k _ e
def spHij (K : PySem.W.Frag) (C : Addr) : Sp := fun vs H Q _ => ∃ (p dx pr pa : Addr) (ts us : List Addr) (r : Su202.Registry) (x : Nat) (v : V) (sel : Option Su202.Announcement), vs = [.ref p, .int x, v] ∧ Raw K C H p dx pr pa ts us r ∧ GsOk r.roas ∧ OptAt K H v sel ∧ short sel ≤ 6 ∧
  ∀ (H' : Hp) (z : Addr), Same H H' → H z = none → H' z = some (.lst (nV (hijM r.roas r.strict x sel))) → Q (.ref z) H'
theorem ok_hijacking_members (D : Def K mg "hijacking_members" "hijacking_members" s_hijacking_members P_hijacking_members) (C0 : Cons K mg SZ) (O_possible_announcements : Ok P w K mg base 5 "possible_announcements" P_possible_announcements (spPos K C))
    (O_announcer_of : Ok P w K mg base 1 "announcer_of" P_announcer_of (spAnc K)) (O_can_attract : Ok P w K mg base 4 "can_attract" P_can_attract (spAttr K)) : Ok P w K mg base 6 "hijacking_members" P_hijacking_members (spHij K C) := by
  refine D.ok sc_hijacking_members (fun vs H Q E h => ?_) (fun f cdv A outer s H vs Q E hr h => ?_)
  · obtain ⟨p, dx, pr, pa, ts, us, r, x, v, sel, rfl, _⟩ := h
    rfl
  · obtain ⟨p, dx, pr, pa, ts, us, r, x, v, sel, rfl, hR, ok, hv, h6, k⟩ := h
    have T := C0
    have C := C0
    refine ⟨_, (pss_cons (ps_set (i := 3) sc_hijacking_members.nd rfl (Or.inl rfl) (pe_ifExp (pt_cmpR op_isN (pv 2) pe_non (nomark _)) pe_int (pe_ix (ix_tupE (K := K) rfl) (pv 2) (pe_con C.LENGTH rfl) (fun _ _ => rfl))))
        (pss_cons (ps_set (i := 4) sc_hijacking_members.nd rfl (Or.inl rfl) (O_possible_announcements.call hr rfl (pa_cons (pv 0) (pa_cons (pv 1) (pa_cons (pv 3) pa_nil)))))
        (pss_cons (ps_set (i := 5) sc_hijacking_members.nd rfl (Or.inl rfl) (pe_lst pa_nil))
        (pss_cons (ps_for PassesOwn.never rfl (pi_range1 rfl T.range (pa_cons (pe_con C.MEMBER_COUNT rfl) pa_nil)) (pg_name (i := 6) sc_hijacking_members.nd rfl (Or.inl rfl))
          (pss_one (ps_if (PW.pt (pw_and (pt_cmpR op_ne (pv 6) (O_announcer_of.call hr rfl (pa_cons (pv 2) pa_nil)) (nomark _)) (pw_and1 (pt_val (O_can_attract.call hr rfl (pa_cons (pv 6) (pa_cons (pv 4) (pa_cons (pv 2) pa_nil))))))))
            (pss_one (ps_expr (pe_bm PySem.F.plainAttrs_list PySem.F.slot_list_append PySem.F.type_list_append mt_append (pv 5) (pa_cons (pv 6) pa_nil))))
            pss_nil)))
        (pss_one (ps_ret (pv 5))))))), ?_⟩
    refine opt_short (i := 2) rfl hv ?_
    refine ⟨_, rfl, _, rfl, _, rfl, p, dx, pr, pa, ts, us, r, x, short sel, rfl, hR, ok, h6, fun H1 q ws e1 n1 hq hT => ?_⟩
    refine ⟨Nat.zero_le _, fun D hD => ?_⟩
    have s2 := Same.new (o := .lst []) hD
    have eD := e1.free hD
    refine ⟨8, rfl, by decide, by decide, for_range (lo := 0) (n := 8)
      (fun i σ H' => ∃ v6, σ = [some (.ref p), some (.int x), some v, some (.int ((short sel : Nat) : Int)), some (.ref q), some (.ref D), v6] ∧ Same H1 H' ∧
        H' D = some (.lst (nV (((List.range 8).take i).filter fun m => (some m != ancOf sel) && (posN r.roas r.strict x (short sel) (7 - short sel)).any (lures m sel)))))
      ⟨none, rfl, s2, upd_same⟩ ?_ ?_⟩
    · rintro i σ H' hi ⟨v6, rfl, e, hL⟩
      have e0 : (0 : Int) + (i : Int) = (i : Int) := Int.zero_add _
      rw [e0]
      have hm := filter_more (fun m => (some m != ancOf sel) && (posN r.roas r.strict x (short sel) (7 - short sel)).any (lures m sel)) (List.getElem?_range hi)
      have hv' := hv.same (e1.trans e)
      have skip : ((some i != ancOf sel) && (posN r.roas r.strict x (short sel) (7 - short sel)).any (lures i sel)) = false → ∀ H2, Same H' H2 → ∃ v6, [some (V.ref p), some (.int x), some v, some (.int ((short sel : Nat) : Int)), some (.ref q), some (.ref D), some (.int (i : Int))] = [some (.ref p), some (.int x), some v, some (.int ((short sel : Nat) : Int)), some (.ref q), some (.ref D), v6] ∧ Same H1 H2 ∧
          H2 D = some (.lst (nV (((List.range 8).take (i + 1)).filter fun m => (some m != ancOf sel) && (posN r.roas r.strict x (short sel) (7 - short sel)).any (lures m sel)))) := by
        intro c H2 e2
        rw [hm, c, if_neg Bool.false_ne_true, List.append_nil]
        exact ⟨_, rfl, e.trans e2, e2 _ _ hL⟩
      refine ⟨_, rfl, _, rfl, v, sel, rfl, hv', (optI_ne (some i) _).1, _, rfl, ?_⟩
      rw [show (!decide (V.int (i : Int) = optI (ancOf sel))) = (some i != ancOf sel) from (optI_ne (some i) _).2]
      refine ifb (fun c => ?_) (fun c => ?_)
      · refine ⟨_, rfl, _, rfl, _, rfl, q, ws, _, i, v, sel, rfl, e _ _ hq, hT.same e, hv', fun H2 e2 => ⟨_, rfl, ?_⟩⟩
        refine ifb (fun c2 => ?_) (fun c2 => ?_)
        · rw [c, c2, Bool.true_and, if_pos rfl] at hm
          have hL2 := e2 _ _ hL
          refine ⟨_, rfl, .inl ⟨rfl, _, SqL.of hL2⟩, _, rfl, D, _, _, rfl, rfl, hL2, ?_, some (.int (i : Int)), rfl, Same.updN (e.trans e2) hD, ?_⟩
          · have := range_len (fun m => (some m != ancOf sel) && (posN r.roas r.strict x (short sel) (7 - short sel)).any (lures m sel)) 8 i
            rw [nV_len]
            exact small1000 (by omega)
          · rw [upd_same, hm, nV_snoc]
        · exact skip (by rw [c2, Bool.and_false]) H2 e2
      · exact iteF (skip (by rw [c, Bool.false_and]) H' (Same.refl _))
    · rintro σ H' ⟨v6, rfl, e, hL⟩
      exact ⟨_, rfl, k H' D (e1.trans e) eD hL⟩
def vulM (r : Su202.Registry) (m : Nat) : List Nat := (List.range 64).filter fun x => r.destination x == some m && !(hijM r.roas r.strict x (Su202.selectAnnouncement r.accepted x)).isEmpty
theorem vul_eq {r : Su202.Registry} (h : GsOk r.roas) (m : Nat) : r.vulnerableAddresses m = vulM r m := by
  show (List.range 64).filter _ = _
  unfold vulM
  refine List.filter_congr fun x hx => ?_
  rw [hij_eq r h.all (List.mem_range.mp hx)]
theorem short_ok {r : Su202.Registry} (h : Rows17 r) (x : Nat) : short (Su202.selectAnnouncement r.accepted x) ≤ 6 := by
  cases e : Su202.selectAnnouncement r.accepted x with
  | none => exact Nat.zero_le _
  | some y => exact (select_ok AnnOk h.acc e).pre.1
def spVul (K : PySem.W.Frag) (C : Addr) : Sp := fun vs H Q _ => ∃ (p dx pr pa : Addr) (ts us : List Addr) (r : Su202.Registry) (m : Nat), vs = [.ref p, .int m] ∧ Raw K C H p dx pr pa ts us r ∧ Rows17 r ∧
  ∀ (H' : Hp) (z : Addr), Same H H' → H z = none → H' z = some (.lst (nV (vulM r m))) → Q (.ref z) H'
theorem ok_vulnerable_of (D : Def K mg "vulnerable_of" "vulnerable_of" s_vulnerable_of P_vulnerable_of) (C0 : Cons K mg SZ) (M_accepted : MOk P w K mg base C 6 "accepted" P_R_accepted (spRAcc K C))
    (O_selected_announcement : Ok P w K mg base 4 "selected_announcement" P_selected_announcement (spSel K)) (O_announcer_of : Ok P w K mg base 1 "announcer_of" P_announcer_of (spAnc K))
    (O_hijacking_members : Ok P w K mg base 6 "hijacking_members" P_hijacking_members (spHij K C)) : Ok P w K mg base 7 "vulnerable_of" P_vulnerable_of (spVul K C) := by
  refine D.ok sc_vulnerable_of (fun vs H Q E h => ?_) (fun f cdv A outer s H vs Q E hr h => ?_)
  · obtain ⟨p, dx, pr, pa, ts, us, r, m, rfl, _⟩ := h
    rfl
  · obtain ⟨p, dx, pr, pa, ts, us, r, m, rfl, hR, ho, k⟩ := h
    have T := C0
    have C := C0
    refine ⟨_, (pss_cons (ps_set (i := 2) sc_vulnerable_of.nd rfl (Or.inl rfl) (M_accepted.call0 hr (pv 0)))
        (pss_cons (ps_set (i := 3) sc_vulnerable_of.nd rfl (Or.inl rfl) (pe_lst pa_nil))
        (pss_cons (ps_for PassesOwn.never rfl (pi_range1 rfl T.range (pa_cons (pe_con C.ADDRESS_COUNT rfl) pa_nil)) (pg_name (i := 4) sc_vulnerable_of.nd rfl (Or.inl rfl))
          (pss_cons (ps_set (i := 5) sc_vulnerable_of.nd rfl (Or.inl rfl) (O_selected_announcement.call hr rfl (pa_cons (pv 2) (pa_cons (pv 4) pa_nil))))
          (pss_one (ps_if (PW.pt (pw_and (pt_cmpR op_eq (O_announcer_of.call hr rfl (pa_cons (pv 5) pa_nil)) (pv 1) (nomark _)) (pw_and1 (pt_truth (O_hijacking_members.call hr rfl (pa_cons (pv 0) (pa_cons (pv 4) (pa_cons (pv 5) pa_nil)))) (by intro _; rfl)))))
            (pss_one (ps_expr (pe_bm PySem.F.plainAttrs_list PySem.F.slot_list_append PySem.F.type_list_append mt_append (pv 3) (pa_cons (pv 4) pa_nil))))
            pss_nil))))
        (pss_one (ps_ret (pv 3)))))), ?_⟩
    refine ⟨_, rfl, p, dx, _, rfl, hR.ins, rF_no (by decide +kernel) (by decide +kernel) (by decide +kernel), p, dx, pr, pa, ts, us, r, rfl, hR, ho, fun H1 z vs e1 n1 hN => ?_⟩
    refine ⟨Nat.zero_le _, fun D hD => ?_⟩
    have s2 := Same.new (o := .lst []) hD
    have eD := e1.free hD
    refine ⟨64, rfl, by decide, by decide, for_range (lo := 0) (n := 64)
      (fun i σ H' => ∃ v4 v5, σ = [some (.ref p), some (.int m), some (.ref z), some (.ref D), v4, v5] ∧ Same H1 H' ∧
        H' D = some (.lst (nV (((List.range 64).take i).filter fun x => r.destination x == some m && !(hijM r.roas r.strict x (Su202.selectAnnouncement r.accepted x)).isEmpty))))
      ⟨none, none, rfl, s2, upd_same⟩ ?_ ?_⟩
    · rintro i σ H' hi ⟨v4, v5, rfl, e, hL⟩
      have e0 : (0 : Int) + (i : Int) = (i : Int) := Int.zero_add _
      rw [e0]
      have hm := filter_more (fun x => r.destination x == some m && !(hijM r.roas r.strict x (Su202.selectAnnouncement r.accepted x)).isEmpty) (List.getElem?_range hi)
      refine ⟨_, rfl, _, rfl, z, vs, _, i, rfl, hN.same e, ho.acc, fun v hv => ?_⟩
      refine ⟨_, rfl, v, _, rfl, hv, _, rfl, (optI_eq _ m).1, _, rfl, ?_⟩
      rw [(optI_eq _ m).2]
      have ed : (ancOf (Su202.selectAnnouncement r.accepted i) == some m) = (r.destination i == some m) := rfl
      rw [ed]
      have hR1 := hR.same (e1.trans e)
      refine ifb (fun c => ?_) (fun c => ?_)
      · refine ⟨_, rfl, _, rfl, _, rfl, p, dx, pr, pa, ts, us, r, i, v, _, rfl, hR1, ho.roas, hv, short_ok ho i, fun H3 y e3 n3 h3 => ?_⟩
        refine ⟨_, .inl ⟨_, SqL.of h3, rfl⟩, ?_⟩
        rw [nV_emp]
        have hL3 := e3 _ _ hL
        rw [c, Bool.true_and] at hm
        refine ifb (fun c2 => ?_) (fun c2 => ?_)
        · rw [c2, if_pos rfl] at hm
          refine ⟨_, rfl, .inl ⟨rfl, _, SqL.of hL3⟩, _, rfl, D, _, _, rfl, rfl, hL3, ?_, some (.int (i : Int)), some v, rfl, Same.updN (e.trans e3) hD, ?_⟩
          · have := range_len (fun x => r.destination x == some m && !(hijM r.roas r.strict x (Su202.selectAnnouncement r.accepted x)).isEmpty) 64 i
            rw [nV_len]
            exact small1000 (by omega)
          · rw [upd_same, hm, nV_snoc]
        · rw [c2, if_neg Bool.false_ne_true, List.append_nil] at hm
          exact ⟨some (.int (i : Int)), some v, rfl, e.trans e3, by rw [hm]; exact hL3⟩
      · rw [c, Bool.false_and, if_neg Bool.false_ne_true, List.append_nil] at hm
        exact iteF ⟨some (.int (i : Int)), some v, rfl, e, by rw [hm]; exact hL⟩
    · rintro σ H' ⟨v4, v5, rfl, e, hL⟩
      exact ⟨_, rfl, k H' D (e1.trans e) eD hL⟩
end
end My
namespace My
open PySem PySem.Spec PyProof.Rows L2
/-! ### rows as data, to compare them -/
def tupD (ns : List Nat) : PyData := .tuple (ns.map fun (n : Nat) => PyData.int (n : Int))
theorem dp_ints {K : PySem.W.Frag} {H : Hp} : ∀ ns : List Nat, DpAll K H (ns.map fun (n : Nat) => V.int (n : Int)) (ns.map fun (n : Nat) => PyData.int (n : Int))
  | [] => .nil
  | n :: ns => .cons (.int _) (dp_ints ns)
theorem TupAt.dp {K : PySem.W.Frag} {H : Hp} {t : Addr} {ns : List Nat} (h : TupAt K H t ns) : Dp K H (.ref t) (tupD ns) := .tup h (dp_ints ns)
theorem dp_all {α : Type} {row : α → List Nat} {K : PySem.W.Frag} {H : Hp} : ∀ {ts : List Addr} {gs : List α}, TupsAt row K H ts gs → DpAll K H (ts.map V.ref) (gs.map fun g => tupD (row g))
  | [], [], _ => .nil
  | [], _ :: _, h => nomatch h.len
  | _ :: _, [], h => nomatch h.len
  | t :: ts, g :: gs, h => .cons (TupAt.dp (h.at_ 0 t g rfl rfl)) (dp_all ⟨Nat.succ.inj h.len, fun i u x a b => h.at_ (i + 1) u x a b⟩)
theorem RowsAt.dp {α : Type} {row : α → List Nat} {K : PySem.W.Frag} {H : Hp} {p : Addr} {ts : List Addr} {gs : List α} (h : RowsAt row K H p ts gs) : Dp K H (.ref p) (.list (gs.map fun g => tupD (row g))) := .lst h.sq (dp_all h.tups)
theorem ints_lay : ∀ ns : List Nat, PyData.canLayAll0 (ns.map fun (n : Nat) => PyData.int (n : Int)) = true
  | [] => by simp [PyData.canLayAll0]
  | n :: ns => by simp [PyData.canLayAll0, PyData.canLay0, ints_lay ns]
theorem ints_depth : ∀ ns : List Nat, PyData.depthAll (ns.map fun (n : Nat) => PyData.int (n : Int)) = 0
  | [] => by simp [PyData.depthAll]
  | n :: ns => by simp [PyData.depthAll, PyData.depth, ints_depth ns]
theorem tupD_lay (ns : List Nat) : (tupD ns).canLay0 = true := by simp only [tupD, PyData.canLay0]; exact ints_lay ns
theorem tupD_depth (ns : List Nat) : (tupD ns).depth = 1 := by simp only [tupD, PyData.depth, ints_depth ns]
theorem tupD_shaped (ns : List Nat) : SeqAt.shaped (tupD ns) = true := by
  show ((tupD ns).canLay0 && decide ((tupD ns).depth ≤ 64)) = true
  rw [Bool.and_eq_true]
  exact ⟨tupD_lay ns, decide_eq_true (by rw [tupD_depth]; decide)⟩
theorem tupDs_lay {α : Type} (row : α → List Nat) : ∀ gs : List α, PyData.canLayAll0 (gs.map fun g => tupD (row g)) = true
  | [] => by simp [PyData.canLayAll0]
  | g :: gs => by simp [PyData.canLayAll0, tupD_lay, tupDs_lay row gs]
theorem tupDs_depth {α : Type} (row : α → List Nat) : ∀ gs : List α, PyData.depthAll (gs.map fun g => tupD (row g)) ≤ 1
  | [] => by simp [PyData.depthAll]
  | g :: gs => by
    have h1 := tupDs_depth row gs
    have h2 := tupD_depth (row g)
    simp only [List.map_cons, PyData.depthAll]
    omega
theorem tupDs_shaped {α : Type} (row : α → List Nat) (gs : List α) : SeqAt.shaped (.list (gs.map fun g => tupD (row g))) = true := by
  have h1 := tupDs_depth row gs
  have h2 : PyData.depth (.list (gs.map fun g => tupD (row g))) ≤ 64 := by
    simp only [PyData.depth]
    omega
  show (PyData.canLay0 (.list (gs.map fun g => tupD (row g))) && decide (PyData.depth (.list (gs.map fun g => tupD (row g))) ≤ 64)) = true
  rw [Bool.and_eq_true]
  exact ⟨by simp only [PyData.canLay0]; exact tupDs_lay row gs, decide_eq_true h2⟩
theorem eqv_four (a b c d a' b' c' d' : Nat) : PyData.eqv (tupD [a, b, c, d]) (tupD [a', b', c', d']) = (a == a' && (b == b' && (c == c' && d == d'))) := by
  have e : PyData.eqv (tupD [a, b, c, d]) (tupD [a', b', c', d']) = (((a : Int) == (a' : Int)) && (((b : Int) == (b' : Int)) && (((c : Int) == (c' : Int)) && (((d : Int) == (d' : Int)) && true)))) := by simp only [tupD, List.map_cons, List.map_nil, PyData.eqv, PyData.eqvAll]
  have q : ∀ x y : Nat, ((x : Int) == (y : Int)) = (x == y) := fun x y => by
    by_cases h : x = y
    · rw [h, beq_self_eq_true, beq_self_eq_true]
    · rw [beq_eq_false_iff_ne.mpr h]
      exact beq_eq_false_iff_ne.mpr fun z => h (Int.ofNat.inj z)
  rw [e, q, q, q, q, Bool.and_true]
theorem eqv_R (g h : Su202.Roa) : PyData.eqv (tupD (rowR g)) (tupD (rowR h)) = (g == h) := by
  obtain ⟨a, b, c, d⟩ := g
  obtain ⟨a', b', c', d'⟩ := h
  refine (eqv_four a b c d a' b' c' d').trans ?_
  rw [Bool.eq_iff_iff]
  simp only [Bool.and_eq_true, beq_iff_eq, Su202.Roa.mk.injEq]
theorem eqv_A (g h : Su202.Announcement) : PyData.eqv (tupD (rowA g)) (tupD (rowA h)) = (g == h) := by
  obtain ⟨a, b, c, d⟩ := g
  obtain ⟨a', b', c', d'⟩ := h
  refine (eqv_four a b c d a' b' c' d').trans ?_
  rw [Bool.eq_iff_iff]
  simp only [Bool.and_eq_true, beq_iff_eq, Su202.Announcement.mk.injEq]
theorem any_R (gs : List Su202.Roa) (h : Su202.Roa) : ((gs.map fun g => tupD (rowR g)).any fun z => PyData.eqv z (tupD (rowR h))) = gs.contains h := by
  rw [List.any_map, List.contains_eq_any_beq]
  congr 1
  funext g
  show PyData.eqv (tupD (rowR g)) (tupD (rowR h)) = (h == g)
  rw [eqv_R]
  exact BEq.comm
theorem any_A (gs : List Su202.Announcement) (h : Su202.Announcement) : ((gs.map fun g => tupD (rowA g)).any fun z => PyData.eqv z (tupD (rowA h))) = gs.contains h := by
  rw [List.any_map, List.contains_eq_any_beq]
  congr 1
  funext g
  show PyData.eqv (tupD (rowA g)) (tupD (rowA h)) = (h == g)
  rw [eqv_A]
  exact BEq.comm
end My
namespace My
open PySem PySem.Spec PyProof.Rows L2
/-- the registry at p; its lists are none of A -/
structure RegAt (K : PySem.W.Frag) (C : Addr) (A : Addr → Prop) (H : Hp) (p : Addr) (r : Su202.Registry) : Prop where
  ex : ∃ dx pr pa ts us, Raw K C H p dx pr pa ts us r ∧ ¬ A pr ∧ ¬ A pa
  ok : RegOk r
theorem RegAt.same {K : PySem.W.Frag} {C : Addr} {A : Addr → Prop} {H H' : Hp} {p : Addr} {r : Su202.Registry} (h : RegAt K C A H p r) (e : Same H H') : RegAt K C A H' p r := by
  obtain ⟨⟨dx, pr, pa, ts, us, hR, a, b⟩, o⟩ := h
  exact ⟨⟨dx, pr, pa, ts, us, hR.same e, a, b⟩, o⟩
def resV (z : Su202.Result) : List V := .int z.value :: z.fields.map fun (n : Nat) => V.int (n : Int)
/-- what a caller gets of a call: the next state, a new list of what is answered -/
def Fin (K : PySem.W.Frag) (C : Addr) (H : Hp) (Q : VK) (A : Addr → Prop) (p : Addr) (r : Su202.Registry) (op : Su202.Operation) : Prop :=
  ∀ (H' : Hp) (q : Addr), Keep p H H' → RegAt K C A H' p (Su202.execute r op).1 → H q = none → H' q = some (.lst (resV (Su202.execute r op).2)) → Q (.ref q) H'
section
variable {K : PySem.W.Frag} {C : Addr} {A : Addr → Prop} {H H1 : Hp} {Q : VK} {p q : Addr} {r t : Su202.Registry} {op : Su202.Operation} {z : Su202.Result} {vs : List V}
theorem Fin.end1 (h : Fin K C H Q A p r op) (e : Su202.execute r op = (t, z)) (hr : RegAt K C A H1 p t) (hk : Keep p H H1) (hq : H1 q = none) (hv : vs = resV z) : Q (.ref q) (upd H1 q (.lst vs)) := by
  subst hv
  unfold Fin at h
  rw [e] at h
  refine h _ q (fun b o nb x => ?_) (hr.same (Same.new hq)) ?_ upd_same
  · have y := hk b o nb x
    exact (upd_ne (ne_of_none y hq)).trans y
  · cases c : H q with
    | none => rfl
    | some o =>
      by_cases n : q = p
      · obtain ⟨⟨dx, pr, pa, ts, us, hR, _⟩, _⟩ := hr
        have i := hR.ins
        rw [← n, hq] at i
        cases i
      · rw [hk q o n c] at hq
        cases hq
theorem Fin.same (h : Fin K C H Q A p r op) (e : Su202.execute r op = (r, z)) (hr : RegAt K C A H p r) (hk : Same H H1) (hq : H1 q = none) (hv : vs = resV z) : Q (.ref q) (upd H1 q (.lst vs)) :=
  h.end1 e (hr.same hk) (Keep.of hk) hq hv
/-- an error's code alone -/
theorem Fin.err {c : Int} (h : Fin K C H Q A p r op) (e : Su202.execute r op = (r, Su202.error c)) (hr : RegAt K C A H p r) (hk : Same H H1) (hq : H1 q = none) : Q (.ref q) (upd H1 q (.lst [.int c])) := h.same e hr hk hq rfl
end
theorem RowsAt.keep {α : Type} {row : α → List Nat} {K : PySem.W.Frag} {H H' : Hp} {t p C dx : Addr} {fs : List (Str × V)} {ts : List Addr} {gs : List α} (h : RowsAt row K H t ts gs) (hp : H p = some (.ins C dx fs)) (hk : Keep p H H') : RowsAt row K H' t ts gs := by
  refine ⟨hk _ _ (ne_of h.seq hp (by intro q; cases q)) h.seq, h.len, fun i t g a b => ?_⟩
  rcases h.at_ i t g a b with (h | ⟨u, h⟩) | h
  · exact .inl (.inl (hk _ _ (ne_of h hp (by intro q; cases q)) h))
  · exact .inl (.inr ⟨u, hk _ _ (ne_of h hp (by intro q; cases q)) h⟩)
  · exact .inr h
section
variable {P : Program} {w : World} {K : PySem.W.Frag} {mg : Str → Option Value} {base : Heap} {SZ C : Addr}
/-- o.n(o.m(e)) of the registry in the first slot -/
theorem go1 {m n : Str} {spW spC : Sp} {ta : TE} {σ : L2.St} {H : Hp} {Q : VK} {p dx pr pa : Addr} {s : Int} (h0 : σ[0]? = some (some (.ref p))) (hp : H p = some (.ins C dx (rF pr pa s)))
    (ha : ta σ H fun x H1 => spW [.ref p, x] H1 (fun y H2 => spC [.ref p, y] H2 Q E0) E0)
    (h1 : (m == ("roas" : Str)) = false := by decide +kernel) (h2 : (m == ("announcements" : Str)) = false := by decide +kernel) (h3 : (m == ("strict" : Str)) = false := by decide +kernel)
    (h4 : (n == ("roas" : Str)) = false := by decide +kernel) (h5 : (n == ("announcements" : Str)) = false := by decide +kernel) (h6 : (n == ("strict" : Str)) = false := by decide +kernel) :
    tMethC C n spC (tVar 0) (tCons (tMethC C m spW (tVar 0) (tCons ta tNil)) tNil) σ H Q :=
  ⟨_, h0, p, dx, _, rfl, hp, rF_no h4 h5 h6, _, h0, p, dx, _, rfl, hp, rF_no h1 h2 h3, ha⟩
/-- another registry, taken over -/
theorem go_R {H : Hp} {Q : VK} {E F : XK} {p dx pr pa z : Addr} {ts us ws : List Addr} {r : Su202.Registry} {gs : List Su202.Roa} (hR : Raw K C H p dx pr pa ts us r) (h2 : RowsAt rowR K H z ws gs) (ho : Rows17 r) (hg : GsOk gs)
    (k : ∀ H' : Hp, Keep p H H' → H' p = some (.ins C dx (rF z pa ((stI r.strict : Nat) : Int))) → Q (.int (((r.movedAddresses { r with roas := gs }).length : Nat) : Int)) H') :
    spWithR K C [.ref p, .ref z] H (fun x H1 => spChange K C [.ref p, x] H1 Q F) E := by
  refine ⟨p, dx, pr, pa, z, ts, us, ws, r, gs, rfl, hR, h2, fun H1 q dq e1 n1 hT => ?_⟩
  exact ⟨p, dx, pr, pa, q, dq, z, pa, ts, us, ws, us, r, _, rfl, hR.same e1, hT, (ne_of_none hR.ins n1).symm, ho, ⟨hg, ho.anns, ho.annN⟩, fun H2 hk hi => k H2 ((Keep.of e1).trans hk) hi⟩
theorem go_A {H : Hp} {Q : VK} {E F : XK} {p dx pr pa z : Addr} {ts us ws : List Addr} {r : Su202.Registry} {ss : List Su202.Announcement} (hR : Raw K C H p dx pr pa ts us r) (h2 : RowsAt rowA K H z ws ss) (ho : Rows17 r) (hs : ∀ s ∈ ss, AnnOk s) (hn : ss.length ≤ 17)
    (k : ∀ H' : Hp, Keep p H H' → H' p = some (.ins C dx (rF pr z ((stI r.strict : Nat) : Int))) → Q (.int (((r.movedAddresses { r with announcements := ss }).length : Nat) : Int)) H') :
    spWithA K C [.ref p, .ref z] H (fun x H1 => spChange K C [.ref p, x] H1 Q F) E := by
  refine ⟨p, dx, pr, pa, z, ts, us, ws, r, ss, rfl, hR, h2, fun H1 q dq e1 n1 hT => ?_⟩
  exact ⟨p, dx, pr, pa, q, dq, pr, z, ts, us, ts, ws, r, _, rfl, hR.same e1, hT, (ne_of_none hR.ins n1).symm, ho, ⟨ho.roas, hs, hn⟩, fun H2 hk hi => k H2 ((Keep.of e1).trans hk) hi⟩
theorem go_S {H : Hp} {Q : VK} {E F : XK} {p dx pr pa : Addr} {ts us : List Addr} {r : Su202.Registry} {b : Bool} (hR : Raw K C H p dx pr pa ts us r) (ho : Rows17 r)
    (k : ∀ H' : Hp, Keep p H H' → H' p = some (.ins C dx (rF pr pa ((stI b : Nat) : Int))) → Q (.int (((r.movedAddresses { r with strict := b }).length : Nat) : Int)) H') :
    spWithS K C [.ref p, .int ((stI b : Nat) : Int)] H (fun x H1 => spChange K C [.ref p, x] H1 Q F) E := by
  refine ⟨p, dx, pr, pa, ts, us, r, b, rfl, hR, fun H1 q dq e1 n1 hT => ?_⟩
  exact ⟨p, dx, pr, pa, q, dq, pr, pa, ts, us, ts, us, r, _, rfl, hR.same e1, hT, (ne_of_none hR.ins n1).symm, ho, ⟨ho.roas, ho.anns, ho.annN⟩, fun H2 hk hi => k H2 ((Keep.of e1).trans hk) hi⟩
/-- the promise of a call of four numbers, of three, of one -/
def spOp4 (K : PySem.W.Frag) (C : Addr) (op : Nat → Nat → Nat → Nat → Su202.Operation) : Sp := fun vs H Q _ => ∃ (A : Addr → Prop) (p : Addr) (r : Su202.Registry) (a b c d : Nat), vs = [.ref p, .int a, .int b, .int c, .int d] ∧
  RegAt K C A H p r ∧ (∀ b, A b → H b ≠ none) ∧ Fin K C H Q A p r (op a b c d)
def spOp3 (K : PySem.W.Frag) (C : Addr) (op : Nat → Nat → Nat → Su202.Operation) : Sp := fun vs H Q _ => ∃ (A : Addr → Prop) (p : Addr) (r : Su202.Registry) (a b c : Nat), vs = [.ref p, .int a, .int b, .int c] ∧
  RegAt K C A H p r ∧ (∀ b, A b → H b ≠ none) ∧ Fin K C H Q A p r (op a b c)
def spOp1 (K : PySem.W.Frag) (C : Addr) (op : Nat → Su202.Operation) : Sp := fun vs H Q _ => ∃ (A : Addr → Prop) (p : Addr) (r : Su202.Registry) (a : Nat), vs = [.ref p, .int a] ∧
  RegAt K C A H p r ∧ (∀ b, A b → H b ≠ none) ∧ Fin K C H Q A p r (op a)
/-! ### add_roa -/
section
variable {r : Su202.Registry} {a l m o : Nat}
theorem ex_add1 (h : ¬ o < 8) : Su202.execute r (.addRoa a l m o) = (r, Su202.error (-2)) := if_pos (show 8 ≤ o by omega)
theorem ex_add2 (h : o < 8) (h2 : (Su202.isPrefix a l && decide (l ≤ m ∧ m ≤ 6)) = false) : Su202.execute r (.addRoa a l m o) = (r, Su202.error (-22)) := by
  refine (if_neg (show ¬ 8 ≤ o by omega)).trans (if_pos ?_)
  show Su202.isPrefix a l = false ∨ m < l ∨ 6 < m
  cases e : Su202.isPrefix a l with
  | false => exact .inl rfl
  | true =>
    rw [e, Bool.true_and] at h2
    have := of_decide_eq_false h2
    exact .inr (by omega)
theorem ok_add (h2 : (Su202.isPrefix a l && decide (l ≤ m ∧ m ≤ 6)) = true) : Su202.isPrefix a l = true ∧ l ≤ m ∧ m ≤ 6 := by
  rw [Bool.and_eq_true] at h2
  exact ⟨h2.1, of_decide_eq_true h2.2⟩
theorem no_add (h2 : (Su202.isPrefix a l && decide (l ≤ m ∧ m ≤ 6)) = true) : ¬ (Su202.isPrefix a l = false ∨ m < l ∨ 6 < m) := by
  obtain ⟨h, h3⟩ := ok_add h2
  rw [h]
  rintro (h | h)
  · cases h
  · omega
theorem ex_add3 (h : o < 8) (h2 : (Su202.isPrefix a l && decide (l ≤ m ∧ m ≤ 6)) = true) (h3 : r.roas.contains ⟨a, l, m, o⟩ = true) : Su202.execute r (.addRoa a l m o) = (r, Su202.error (-17)) :=
  (if_neg (show ¬ 8 ≤ o by omega)).trans ((if_neg (no_add h2)).trans (if_pos h3))
theorem ex_add4 (h : o < 8) (h2 : (Su202.isPrefix a l && decide (l ≤ m ∧ m ≤ 6)) = true) (h3 : r.roas.contains ⟨a, l, m, o⟩ = false) (h4 : 12 ≤ r.roas.length) : Su202.execute r (.addRoa a l m o) = (r, Su202.error (-28)) :=
  (if_neg (show ¬ 8 ≤ o by omega)).trans ((if_neg (no_add h2)).trans ((if_neg (by rw [h3]; exact Bool.false_ne_true)).trans (if_pos h4)))
theorem ex_add5 (h : o < 8) (h2 : (Su202.isPrefix a l && decide (l ≤ m ∧ m ≤ 6)) = true) (h3 : r.roas.contains ⟨a, l, m, o⟩ = false) (h4 : ¬ 12 ≤ r.roas.length) :
    Su202.execute r (.addRoa a l m o) = ({ r with roas := r.roas ++ [⟨a, l, m, o⟩] }, Su202.ok r.roas.length [(r.movedAddresses { r with roas := r.roas ++ [⟨a, l, m, o⟩] }).length]) :=
  (if_neg (show ¬ 8 ≤ o by omega)).trans ((if_neg (no_add h2)).trans ((if_neg (by rw [h3]; exact Bool.false_ne_true)).trans (if_neg h4)))
end
theorem ok_add_roa (D : Def K mg "add_roa" "add_roa" s_add_roa P_add_roa) (C0 : Cons K mg SZ) (T0 : RCls K C) (O_is_member : Ok P w K mg base 1 "is_member" P_is_member spIsMember) (O_is_roa : Ok P w K mg base 3 "is_roa" P_is_roa spIsRoa)
    (M_with_roas : MOk P w K mg base C 3 "with_roas" P_R_with_roas (spWithR K C)) (M_change_to : MOk P w K mg base C 9 "change_to" P_R_change_to (spChange K C)) : Ok P w K mg base 10 "add_roa" P_add_roa (spOp4 K C .addRoa) := by
  refine D.ok sc_add_roa (fun vs H Q E h => ?_) (fun f cdv A outer s H vs Q E hr h => ?_)
  · obtain ⟨A, p, r, a, l, m, o, rfl, _⟩ := h
    rfl
  · obtain ⟨A, p, r, a, l, m, o, rfl, hG, hA, k⟩ := h
    have T := C0
    have C := C0
    refine ⟨_, (pss_cons (ps_if (pt_not (pt_val (O_is_member.call hr rfl (pa_cons (pv 4) pa_nil))))
          (pss_one (ps_ret (pe_lst (pa_cons (pe_con C.NOT_THERE rfl) pa_nil))))
          pss_nil)
        (pss_cons (ps_if (pt_not (pt_val (O_is_roa.call hr rfl (pa_cons (pv 1) (pa_cons (pv 2) (pa_cons (pv 3) pa_nil))))))
          (pss_one (ps_ret (pe_lst (pa_cons (pe_con C.BAD_ARGUMENT rfl) pa_nil))))
          pss_nil)
        (pss_cons (ps_set (i := 5) sc_add_roa.nd rfl (Or.inl rfl) (pe_tup (pa_cons (pv 1) (pa_cons (pv 2) (pa_cons (pv 3) (pa_cons (pv 4) pa_nil))))))
        (pss_cons (ps_if (pt_cmpR (op_inDE (K := K) rfl (hu65 hr)) (pv 5) (pe_fld (pv 0) rfl) rfl)
          (pss_one (ps_ret (pe_lst (pa_cons (pe_con C.EXISTS rfl) pa_nil))))
          pss_nil)
        (pss_cons (ps_set (i := 6) sc_add_roa.nd rfl (Or.inl rfl) (pe_callB call_len_seq (by rfl) T.len PySem.boot_len (pa_cons (pe_fld (pv 0) rfl) pa_nil)))
        (pss_cons (ps_if (pt_cmpR op_ge (pv 6) (pe_con C.ROA_LIMIT rfl) (nomark _))
          (pss_one (ps_ret (pe_lst (pa_cons (pe_con C.LIMIT_REACHED rfl) pa_nil))))
          pss_nil)
        (pss_cons (ps_set (i := 7) sc_add_roa.nd rfl (Or.inl rfl) (M_change_to.call hr (pv 0) (pa_cons (M_with_roas.call hr (pv 0) (pa_cons (pe_op op_cat (pe_fld (pv 0) rfl) (pe_lst (pa_cons (pv 5) pa_nil))) pa_nil)) pa_nil)))
        (pss_one (ps_ret (pe_lst (pa_cons (pv 6) (pa_cons (pv 7) pa_nil)))))))))))), ?_⟩
    obtain ⟨⟨dx, pr, pa, ts, us, hR, na, nb⟩, ho⟩ := id hG
    refine ⟨_, rfl, o, rfl, _, rfl, ?_⟩
    refine ifb (fun c => ?_) (fun c => ?_)
    · exact ⟨(by show 1 ≤ sizeLine; decide), fun q hq => k.err (ex_add1 (by simpa using c)) hG (Same.refl _) hq⟩
    have c1 : o < 8 := by simpa using c
    refine ⟨_, rfl, _, rfl, _, rfl, a, l, m, rfl, _, rfl, ?_⟩
    refine ifb (fun c2 => ?_) (fun c2 => ?_)
    · exact ⟨(by show 1 ≤ sizeLine; decide), fun q hq => k.err (ex_add2 c1 (not_t c2)) hG (Same.refl _) hq⟩
    have c2 : (Su202.isPrefix a l && decide (l ≤ m ∧ m ≤ 6)) = true := not_f c2
    refine ⟨_, rfl, _, rfl, _, rfl, _, rfl, (by show 4 ≤ sizeLine; decide), fun x hx => ?_⟩
    have sx := Same.new (o := .tup [.int (a : Nat), .int (l : Nat), .int (m : Nat), .int (o : Nat)]) hx
    generalize hH1 : upd H x (.tup [.int (a : Nat), .int (l : Nat), .int (m : Nat), .int (o : Nat)]) = H1
    rw [hH1] at sx
    have hx1 : TupAt K H1 x (rowR ⟨a, l, m, o⟩) := SqT.of (by rw [← hH1]; exact upd_same)
    have hR1 := hR.same sx
    refine ⟨_, rfl, _, rfl, p, _, dx, _, _, rfl, hR1.ins, T0.cl, T0.nR, rF_roas, _, _, hx1.dp, hR1.rr.dp, tupD_shaped _, tupDs_shaped _ _, _, rfl, ?_⟩
    rw [any_R]
    refine ifb (fun c3 => ?_) (fun c3 => ?_)
    · exact ⟨(by show 1 ≤ sizeLine; decide), fun q hq => k.err (ex_add3 c1 c2 c3) hG sx hq⟩
    refine ⟨_, rfl, p, _, dx, _, _, rfl, hR1.ins, T0.cl, T0.nR, rF_roas, pr, _, rfl, .inl hR1.rr.sq, ?_⟩
    rw [List.length_map, hR1.rr.len]
    refine ⟨_, rfl, _, _, rfl, rfl, _, rfl, ?_⟩
    refine ifb (fun c4 => ?_) (fun c4 => ?_)
    · exact ⟨(by show 1 ≤ sizeLine; decide), fun q hq => k.err (ex_add4 c1 c2 c3 (by have := of_decide_eq_true c4; omega)) hG sx hq⟩
    have c4 : ¬ 12 ≤ r.roas.length := by
      have := of_decide_eq_false c4
      omega
    refine go1 rfl hR1.ins ?_
    refine ⟨_, rfl, p, _, dx, _, _, rfl, hR1.ins, T0.cl, T0.nR, rF_roas, _, rfl, (by show 1 ≤ sizeLine; decide), fun y hy => ?_⟩
    have sy := Same.new (o := .lst [.ref x]) hy
    have hR2 := hR1.same sy
    refine ⟨pr, y, _, _, rfl, rfl, hR2.rr.seq, upd_same, ?_, fun z hz => ?_⟩
    · rw [List.length_map, hR1.rr.len]
      exact Nat.le_of_lt (small1000 (by show r.roas.length + 1 ≤ 1000; omega))
    have sz := Same.new (o := .lst (ts.map V.ref ++ [.ref x])) hz
    have hR3 := hR2.same sz
    have sAll : Same H (upd (upd H1 y (.lst [.ref x])) z (.lst (ts.map V.ref ++ [.ref x]))) := (sx.trans sy).trans sz
    have hN : RowsAt rowR K (upd (upd H1 y (.lst [.ref x])) z (.lst (ts.map V.ref ++ [.ref x]))) z (ts ++ [x]) (r.roas ++ [⟨a, l, m, o⟩]) :=
      (hR3.rr.tups.snoc ((hx1.same sy).same sz)).rows (by rw [upd_same, map_snoc])
    have hok : ∀ g ∈ r.roas ++ [(⟨a, l, m, o⟩ : Su202.Roa)], RoaOk g := fun g hg => by
      rcases List.mem_append.mp hg with hg | hg
      · exact ho.roas g hg
      · cases List.mem_singleton.mp hg
        exact ⟨isPrefix_iff.mp (ok_add c2).1, (ok_add c2).2, c1⟩
    have hl : (r.roas ++ [(⟨a, l, m, o⟩ : Su202.Roa)]).length ≤ 12 := by
      rw [List.length_append]
      show r.roas.length + 1 ≤ 12
      omega
    refine go_R hR3 hN ho.rows ⟨hok, by omega⟩ fun H4 hk hi => ?_
    refine ⟨_, rfl, _, rfl, (by show 2 ≤ sizeLine; decide), fun q hq => ?_⟩
    refine k.end1 (ex_add5 c1 c2 c3 c4) ⟨⟨dx, z, pa, ts ++ [x], us, ⟨hi, hN.keep hR3.ins hk, hR3.ra.keep hR3.ins hk⟩, fun q => hA z q ?_, nb⟩, ⟨hok, ho.anns, ?_, ho.annN⟩⟩ ((Keep.of sAll).trans hk) hq rfl
    · exact (sx.trans sy).free hz
    · exact hl
end
end My
namespace My
open PySem PySem.Spec PyProof.Rows L2
section
variable {P : Program} {w : World} {K : PySem.W.Frag} {mg : Str → Option Value} {base : Heap} {SZ C : Addr}
/-! ### remove_roa -/
theorem ex_rem1 {r : Su202.Registry} {i : Nat} (h : r.roas.length ≤ i) : Su202.execute r (.removeRoa i) = (r, Su202.error (-2)) := if_pos h
theorem ex_rem2 {r : Su202.Registry} {i : Nat} (h : ¬ r.roas.length ≤ i) : Su202.execute r (.removeRoa i) = ({ r with roas := r.roas.eraseIdx i }, Su202.ok (r.roas.length - 1) [(r.movedAddresses { r with roas := r.roas.eraseIdx i }).length]) := if_neg h
theorem cut_to {xs : List V} {i : Nat} (h : i < xs.length) : cutV xs none (some (i : Int)) = xs.take i := by
  unfold cutV
  rw [HT.sIx_none, HT.sIx_nat, Nat.min_eq_left (Nat.le_of_lt h)]
  rfl
theorem cut_from {xs : List V} {i : Nat} (h : i < xs.length) : cutV xs (some ((i : Int) + 1)) none = xs.drop (i + 1) := by
  unfold cutV
  have e : ((i : Int) + 1) = ((i + 1 : Nat) : Int) := rfl
  rw [e, HT.sIx_nat, HT.sIx_none, Nat.min_eq_left h]
  exact List.take_of_length_le (by rw [List.length_drop]; exact Nat.le_refl _)
theorem TupsAt.take {α : Type} {row : α → List Nat} {K : PySem.W.Frag} {H : Hp} {ts : List Addr} {gs : List α} (h : TupsAt row K H ts gs) (i : Nat) : TupsAt row K H (ts.take i) (gs.take i) := by
  refine ⟨by rw [List.length_take, List.length_take, h.len], fun j t g a b => ?_⟩
  by_cases c : j < i
  · rw [List.getElem?_take_of_lt c] at a b
    exact h.at_ j t g a b
  · rw [List.getElem?_take_eq_none (by omega)] at a
    cases a
theorem TupsAt.drop {α : Type} {row : α → List Nat} {K : PySem.W.Frag} {H : Hp} {ts : List Addr} {gs : List α} (h : TupsAt row K H ts gs) (i : Nat) : TupsAt row K H (ts.drop i) (gs.drop i) := by
  refine ⟨by rw [List.length_drop, List.length_drop, h.len], fun j t g a b => ?_⟩
  rw [List.getElem?_drop] at a b
  exact h.at_ _ t g a b
theorem ok_remove_roa (D : Def K mg "remove_roa" "remove_roa" s_remove_roa P_remove_roa) (C0 : Cons K mg SZ) (T0 : RCls K C) (M_with_roas : MOk P w K mg base C 3 "with_roas" P_R_with_roas (spWithR K C)) (M_change_to : MOk P w K mg base C 9 "change_to" P_R_change_to (spChange K C)) :
    Ok P w K mg base 10 "remove_roa" P_remove_roa (spOp1 K C .removeRoa) := by
  refine D.ok sc_remove_roa (fun vs H Q E h => ?_) (fun f cdv A outer s H vs Q E hr h => ?_)
  · obtain ⟨A, p, r, a, rfl, _⟩ := h
    rfl
  · obtain ⟨A, p, r, a, rfl, hG, hA, k⟩ := h
    have T := C0
    have C := C0
    refine ⟨_, (pss_cons (ps_if (pt_cmpR op_ge (pv 1) (pe_callB call_len_seq (by rfl) T.len PySem.boot_len (pa_cons (pe_fld (pv 0) rfl) pa_nil)) (nomark _))
          (pss_one (ps_ret (pe_lst (pa_cons (pe_con C.NOT_THERE rfl) pa_nil))))
          pss_nil)
        (pss_cons (ps_set (i := 2) sc_remove_roa.nd rfl (Or.inl rfl) (pe_op op_cat (pe_slice sl_list (pe_fld (pv 0) rfl) po_none (po_some (pv 1))) (pe_slice sl_list (pe_fld (pv 0) rfl) (po_some (pe_op op_add (pv 1) pe_int)) po_none)))
        (pss_cons (ps_set (i := 3) sc_remove_roa.nd rfl (Or.inl rfl) (M_change_to.call hr (pv 0) (pa_cons (M_with_roas.call hr (pv 0) (pa_cons (pv 2) pa_nil)) pa_nil)))
        (pss_one (ps_ret (pe_lst (pa_cons (pe_callB call_len_seq (by rfl) T.len PySem.boot_len (pa_cons (pv 2) pa_nil)) (pa_cons (pv 3) pa_nil)))))))), ?_⟩
    obtain ⟨⟨dx, pr, pa, ts, us, hR, na, nb⟩, ho⟩ := id hG
    refine ⟨_, rfl, _, rfl, p, _, dx, _, _, rfl, hR.ins, T0.cl, T0.nR, rF_roas, pr, _, rfl, .inl hR.rr.sq, ?_⟩
    rw [List.length_map, hR.rr.len]
    refine ⟨_, _, rfl, rfl, _, rfl, ?_⟩
    refine ifb (fun c => ?_) (fun c => ?_)
    · exact ⟨(by show 1 ≤ sizeLine; decide), fun q hq => k.err (ex_rem1 (Int.ofNat_le.mp (of_decide_eq_true c))) hG (Same.refl _) hq⟩
    have c1 : ¬ r.roas.length ≤ a := fun q => of_decide_eq_false c (Int.ofNat_le.mpr q)
    have hlt : a < ts.length := by rw [hR.rr.len]; omega
    have hltV : a < (ts.map V.ref).length := by rw [List.length_map]; exact hlt
    refine ⟨_, rfl, p, _, dx, _, _, rfl, hR.ins, T0.cl, T0.nR, rF_roas, _, rfl, _, rfl, pr, _, rfl, hR.rr.sq, fun x hx => ?_⟩
    rw [cut_to hltV]
    have sx := Same.new (o := .lst ((ts.map V.ref).take a)) hx
    have hR1 := hR.same sx
    refine ⟨_, rfl, p, _, dx, _, _, rfl, hR1.ins, T0.cl, T0.nR, rF_roas, _, rfl, _, _, rfl, rfl, _, rfl, pr, _, rfl, hR1.rr.sq, fun y hy => ?_⟩
    rw [cut_from hltV]
    have sy := Same.new (o := .lst ((ts.map V.ref).drop (a + 1))) hy
    have hR2 := hR1.same sy
    refine ⟨x, y, _, _, rfl, rfl, sy _ _ upd_same, upd_same, ?_, fun z hz => ?_⟩
    · rw [List.length_take, List.length_drop, List.length_map, hR.rr.len]
      exact Nat.le_of_lt (small1000 (by have := ho.roaN; omega))
    have sz := Same.new (o := .lst ((ts.map V.ref).take a ++ (ts.map V.ref).drop (a + 1))) hz
    have hR3 := hR2.same sz
    have sAll := (sx.trans sy).trans sz
    have ee : r.roas.eraseIdx a = r.roas.take a ++ r.roas.drop (a + 1) := List.eraseIdx_eq_take_drop_succ _ _
    have hN := ((hR3.rr.tups.take a).append (hR3.rr.tups.drop (a + 1))).rows (p := z) (by rw [upd_same, List.map_append, List.map_take, List.map_drop])
    rw [← ee] at hN
    have hok : ∀ g ∈ r.roas.eraseIdx a, RoaOk g := fun g hg => ho.roas g (List.mem_of_mem_eraseIdx hg)
    have el : (r.roas.eraseIdx a).length = r.roas.length - 1 := List.length_eraseIdx_of_lt (by omega)
    have hl : (r.roas.eraseIdx a).length ≤ 12 := by
      have := ho.roaN
      omega
    refine go1 rfl hR3.ins ?_
    refine ⟨_, rfl, ?_⟩
    refine go_R hR3 hN ho.rows ⟨hok, by omega⟩ fun H4 hk hi => ?_
    have hN4 := hN.keep hR3.ins hk
    refine ⟨_, rfl, z, _, rfl, .inl hN4.sq, ?_⟩
    refine ⟨_, rfl, (by show 2 ≤ sizeLine; decide), fun q hq => ?_⟩
    refine k.end1 (ex_rem2 c1) ⟨⟨dx, z, pa, _, us, ⟨hi, hN4, hR3.ra.keep hR3.ins hk⟩, fun q => hA z q ((sx.trans sy).free hz), nb⟩, ⟨hok, ho.anns, ?_, ho.annN⟩⟩ ((Keep.of sAll).trans hk) hq ?_
    · exact hl
    · rw [List.length_map, hN.len, el]
      rfl
/-! ### announce -/
section
variable {r : Su202.Registry} {a l m o : Nat}
theorem ex_ann1 (h : ¬ (m < 8 ∧ o < 8)) : Su202.execute r (.announce a l m o) = (r, Su202.error (-2)) := if_pos (show 8 ≤ m ∨ 8 ≤ o by omega)
theorem mem2 (h : m < 8 ∧ o < 8) : ¬ (8 ≤ m ∨ 8 ≤ o) := by omega
theorem ex_ann2 (h : m < 8 ∧ o < 8) (h2 : Su202.isPrefix a l = false) : Su202.execute r (.announce a l m o) = (r, Su202.error (-22)) := (if_neg (mem2 h)).trans (if_pos h2)
theorem ex_ann3 (h : m < 8 ∧ o < 8) (h2 : Su202.isPrefix a l = true) (h3 : r.announcements.contains ⟨a, l, m, o⟩ = true) : Su202.execute r (.announce a l m o) = (r, Su202.error (-17)) :=
  (if_neg (mem2 h)).trans ((if_neg (by rw [h2]; decide)).trans (if_pos h3))
theorem ex_ann4 (h : m < 8 ∧ o < 8) (h2 : Su202.isPrefix a l = true) (h3 : r.announcements.contains ⟨a, l, m, o⟩ = false) (h4 : 16 ≤ r.announcements.length) : Su202.execute r (.announce a l m o) = (r, Su202.error (-28)) :=
  (if_neg (mem2 h)).trans ((if_neg (by rw [h2]; decide)).trans ((if_neg (by rw [h3]; decide)).trans (if_pos h4)))
theorem ex_ann5 (h : m < 8 ∧ o < 8) (h2 : Su202.isPrefix a l = true) (h3 : r.announcements.contains ⟨a, l, m, o⟩ = false) (h4 : ¬ 16 ≤ r.announcements.length) :
    Su202.execute r (.announce a l m o) = (r.announce a l m o, Su202.ok (Su202.validity r.roas a l o) [(r.movedAddresses (r.announce a l m o)).length]) :=
  (if_neg (mem2 h)).trans ((if_neg (by rw [h2]; decide)).trans ((if_neg (by rw [h3]; decide)).trans (if_neg h4)))
end
theorem ok_announce (D : Def K mg "announce" "announce" s_announce P_announce) (C0 : Cons K mg SZ) (T0 : RCls K C) (O_is_member : Ok P w K mg base 1 "is_member" P_is_member spIsMember) (O_is_prefix : Ok P w K mg base 2 "is_prefix" P_is_prefix spIsPrefix)
    (O_validity_code : Ok P w K mg base 4 "validity_code" P_validity_code (spValidity K)) (M_with_announcements : MOk P w K mg base C 3 "with_announcements" P_R_with_announcements (spWithA K C)) (M_change_to : MOk P w K mg base C 9 "change_to" P_R_change_to (spChange K C)) :
    Ok P w K mg base 10 "announce" P_announce (spOp4 K C .announce) := by
  refine D.ok sc_announce (fun vs H Q E h => ?_) (fun f cdv A outer s H vs Q E hr h => ?_)
  · obtain ⟨A, p, r, a, l, m, o, rfl, _⟩ := h
    rfl
  · obtain ⟨A, p, r, a, l, m, o, rfl, hG, hA, k⟩ := h
    have T := C0
    have C := C0
    refine ⟨_, (pss_cons (ps_if (PW.pt (pw_or (pt_not (pt_val (O_is_member.call hr rfl (pa_cons (pv 3) pa_nil)))) (pw_or1 (pt_not (pt_val (O_is_member.call hr rfl (pa_cons (pv 4) pa_nil)))))))
          (pss_one (ps_ret (pe_lst (pa_cons (pe_con C.NOT_THERE rfl) pa_nil))))
          pss_nil)
        (pss_cons (ps_if (pt_not (pt_val (O_is_prefix.call hr rfl (pa_cons (pv 1) (pa_cons (pv 2) pa_nil)))))
          (pss_one (ps_ret (pe_lst (pa_cons (pe_con C.BAD_ARGUMENT rfl) pa_nil))))
          pss_nil)
        (pss_cons (ps_set (i := 5) sc_announce.nd rfl (Or.inl rfl) (pe_tup (pa_cons (pv 1) (pa_cons (pv 2) (pa_cons (pv 3) (pa_cons (pv 4) pa_nil))))))
        (pss_cons (ps_if (pt_cmpR (op_inDE (K := K) rfl (hu65 hr)) (pv 5) (pe_fld (pv 0) rfl) rfl)
          (pss_one (ps_ret (pe_lst (pa_cons (pe_con C.EXISTS rfl) pa_nil))))
          pss_nil)
        (pss_cons (ps_if (pt_cmpR op_ge (pe_callB call_len_seq (by rfl) T.len PySem.boot_len (pa_cons (pe_fld (pv 0) rfl) pa_nil)) (pe_con C.ANNOUNCEMENT_LIMIT rfl) (nomark _))
          (pss_one (ps_ret (pe_lst (pa_cons (pe_con C.LIMIT_REACHED rfl) pa_nil))))
          pss_nil)
        (pss_cons (ps_set (i := 6) sc_announce.nd rfl (Or.inl rfl) (O_validity_code.call hr rfl (pa_cons (pe_fld (pv 0) rfl) (pa_cons (pv 1) (pa_cons (pv 2) (pa_cons (pv 4) pa_nil))))))
        (pss_cons (ps_set (i := 7) sc_announce.nd rfl (Or.inl rfl) (M_change_to.call hr (pv 0) (pa_cons (M_with_announcements.call hr (pv 0) (pa_cons (pe_op op_cat (pe_fld (pv 0) rfl) (pe_lst (pa_cons (pv 5) pa_nil))) pa_nil)) pa_nil)))
        (pss_one (ps_ret (pe_lst (pa_cons (pv 6) (pa_cons (pv 7) pa_nil)))))))))))), ?_⟩
    obtain ⟨⟨dx, pr, pa, ts, us, hR, na, nb⟩, ho⟩ := id hG
    refine ⟨_, rfl, m, rfl, _, rfl, ?_⟩
    refine ifb (fun c => ?_) (fun c => ?_)
    · refine iteT ⟨(by show 1 ≤ sizeLine; decide), fun q hq => k.err (ex_ann1 fun z => ?_) hG (Same.refl _) hq⟩
      exact of_decide_eq_false (not_t c) z.1
    have c1 : m < 8 := of_decide_eq_true (not_f c)
    refine ⟨_, rfl, o, rfl, _, rfl, ?_⟩
    refine ifb (fun c => ?_) (fun c => ?_)
    · exact ⟨(by show 1 ≤ sizeLine; decide), fun q hq => k.err (ex_ann1 fun z => of_decide_eq_false (not_t c) z.2) hG (Same.refl _) hq⟩
    have c2 : m < 8 ∧ o < 8 := ⟨c1, of_decide_eq_true (not_f c)⟩
    refine ⟨_, rfl, _, rfl, a, l, rfl, _, rfl, ?_⟩
    refine ifb (fun c => ?_) (fun c => ?_)
    · exact ⟨(by show 1 ≤ sizeLine; decide), fun q hq => k.err (ex_ann2 c2 (not_t c)) hG (Same.refl _) hq⟩
    have c3 := not_f c
    refine ⟨_, rfl, _, rfl, _, rfl, _, rfl, (by show 4 ≤ sizeLine; decide), fun x hx => ?_⟩
    have sx := Same.new (o := .tup [.int (a : Nat), .int (l : Nat), .int (m : Nat), .int (o : Nat)]) hx
    generalize hH1 : upd H x (.tup [.int (a : Nat), .int (l : Nat), .int (m : Nat), .int (o : Nat)]) = H1
    rw [hH1] at sx
    have hx1 : TupAt K H1 x (rowA ⟨a, l, m, o⟩) := SqT.of (by rw [← hH1]; exact upd_same)
    have hR1 := hR.same sx
    refine ⟨_, rfl, _, rfl, p, _, dx, _, _, rfl, hR1.ins, T0.cl, T0.nA, rF_anns, _, _, hx1.dp, hR1.ra.dp, tupD_shaped _, tupDs_shaped _ _, _, rfl, ?_⟩
    rw [any_A]
    refine ifb (fun c4 => ?_) (fun c4 => ?_)
    · exact ⟨(by show 1 ≤ sizeLine; decide), fun q hq => k.err (ex_ann3 c2 c3 c4) hG sx hq⟩
    refine ⟨_, rfl, p, _, dx, _, _, rfl, hR1.ins, T0.cl, T0.nA, rF_anns, pa, _, rfl, .inl hR1.ra.sq, ?_⟩
    rw [List.length_map, hR1.ra.len]
    refine ⟨_, _, rfl, rfl, _, rfl, ?_⟩
    refine ifb (fun c5 => ?_) (fun c5 => ?_)
    · exact ⟨(by show 1 ≤ sizeLine; decide), fun q hq => k.err (ex_ann4 c2 c3 c4 (by have := of_decide_eq_true c5; omega)) hG sx hq⟩
    have c5 : ¬ 16 ≤ r.announcements.length := by
      have := of_decide_eq_false c5
      omega
    refine ⟨_, rfl, p, _, dx, _, _, rfl, hR1.ins, T0.cl, T0.nR, rF_roas, _, rfl, _, rfl, _, rfl, pr, ts, r.roas, a, l, o, rfl, hR1.rr, ho.rows.roas, fun H1 e1 => ?_⟩
    have hR1 := hR1.same e1
    have hx1 := hx1.same e1
    have sx := sx.trans e1
    refine go1 rfl hR1.ins ?_
    refine ⟨_, rfl, p, _, dx, _, _, rfl, hR1.ins, T0.cl, T0.nA, rF_anns, _, rfl, (by show 1 ≤ sizeLine; decide), fun y hy => ?_⟩
    have sy := Same.new (o := .lst [.ref x]) hy
    have hR2 := hR1.same sy
    refine ⟨pa, y, _, _, rfl, rfl, hR2.ra.seq, upd_same, ?_, fun z hz => ?_⟩
    · rw [List.length_map, hR1.ra.len]
      exact Nat.le_of_lt (small1000 (by show r.announcements.length + 1 ≤ 1000; omega))
    have sz := Same.new (o := .lst (us.map V.ref ++ [.ref x])) hz
    have hR3 := hR2.same sz
    have sAll : Same H (upd (upd H1 y (.lst [.ref x])) z (.lst (us.map V.ref ++ [.ref x]))) := (sx.trans sy).trans sz
    have hN : RowsAt rowA K (upd (upd H1 y (.lst [.ref x])) z (.lst (us.map V.ref ++ [.ref x]))) z (us ++ [x]) (r.announcements ++ [⟨a, l, m, o⟩]) :=
      (hR3.ra.tups.snoc ((hx1.same sy).same sz)).rows (by rw [upd_same, map_snoc])
    have hok : ∀ g ∈ r.announcements ++ [(⟨a, l, m, o⟩ : Su202.Announcement)], AnnOk g := fun g hg => by
      rcases List.mem_append.mp hg with hg | hg
      · exact ho.anns g hg
      · cases List.mem_singleton.mp hg
        exact ⟨isPrefix_iff.mp c3, c2.1, c2.2⟩
    have hlen : (r.announcements ++ [(⟨a, l, m, o⟩ : Su202.Announcement)]).length ≤ 16 := by
      rw [List.length_append]
      show r.announcements.length + 1 ≤ 16
      omega
    refine go_A hR3 hN ho.rows hok (by omega) fun H4 hk hi => ?_
    refine ⟨_, rfl, _, rfl, (by show 2 ≤ sizeLine; decide), fun q hq => ?_⟩
    exact k.end1 (ex_ann5 c2 c3 c4 c5) ⟨⟨dx, pr, z, ts, us ++ [x], ⟨hi, hR3.rr.keep hR3.ins hk, hN.keep hR3.ins hk⟩, na, fun q => hA z q ((sx.trans sy).free hz)⟩, ⟨ho.roas, hok, ho.roaN, hlen⟩⟩ ((Keep.of sAll).trans hk) hq rfl
end
end My
namespace My
open PySem PySem.Spec PyProof.Rows L2
section
variable {P : Program} {w : World} {K : PySem.W.Frag} {mg : Str → Option Value} {base : Heap} {SZ C : Addr}
/-! ### withdraw -/
section
variable {r : Su202.Registry} {a l m o : Nat}
theorem ex_wit1 (h : ¬ (m < 8 ∧ o < 8)) : Su202.execute r (.withdraw a l m o) = (r, Su202.error (-2)) := if_pos (show 8 ≤ m ∨ 8 ≤ o by omega)
theorem ex_wit2 (h : m < 8 ∧ o < 8) (h2 : r.announcements.contains ⟨a, l, m, o⟩ = false) : Su202.execute r (.withdraw a l m o) = (r, Su202.error (-6)) := (if_neg (mem2 h)).trans (if_pos h2)
theorem ex_wit3 (h : m < 8 ∧ o < 8) (h2 : r.announcements.contains ⟨a, l, m, o⟩ = true) :
    Su202.execute r (.withdraw a l m o) = ({ r with announcements := r.announcements.filter fun s => s != ⟨a, l, m, o⟩ }, Su202.ok (r.announcements.filter fun s => s != ⟨a, l, m, o⟩).length [(r.movedAddresses { r with announcements := r.announcements.filter fun s => s != ⟨a, l, m, o⟩ }).length]) :=
  (if_neg (mem2 h)).trans (if_neg (by rw [h2]; decide))
end
theorem ok_withdraw (D : Def K mg "withdraw" "withdraw" s_withdraw P_withdraw) (C0 : Cons K mg SZ) (T0 : RCls K C) (O_is_member : Ok P w K mg base 1 "is_member" P_is_member spIsMember)
    (M_with_announcements : MOk P w K mg base C 3 "with_announcements" P_R_with_announcements (spWithA K C)) (M_change_to : MOk P w K mg base C 9 "change_to" P_R_change_to (spChange K C)) : Ok P w K mg base 10 "withdraw" P_withdraw (spOp4 K C .withdraw) := by
  refine D.ok sc_withdraw (fun vs H Q E h => ?_) (fun f cdv A outer s H vs Q E hr h => ?_)
  · obtain ⟨A, p, r, a, l, m, o, rfl, _⟩ := h
    rfl
  · obtain ⟨A, p, r, a, l, m, o, rfl, hG, hA, k⟩ := h
    have T := C0
    have C := C0
    refine ⟨_, (pss_cons (ps_if (PW.pt (pw_or (pt_not (pt_val (O_is_member.call hr rfl (pa_cons (pv 3) pa_nil)))) (pw_or1 (pt_not (pt_val (O_is_member.call hr rfl (pa_cons (pv 4) pa_nil)))))))
          (pss_one (ps_ret (pe_lst (pa_cons (pe_con C.NOT_THERE rfl) pa_nil))))
          pss_nil)
        (pss_cons (ps_set (i := 5) sc_withdraw.nd rfl (Or.inr rfl) (pe_tup (pa_cons (pv 1) (pa_cons (pv 2) (pa_cons (pv 3) (pa_cons (pv 4) pa_nil))))))
        (pss_cons (ps_if (pt_cmpR (op_notInDE (K := K) rfl (hu65 hr)) (pv 5) (pe_fld (pv 0) rfl) rfl)
          (pss_one (ps_ret (pe_lst (pa_cons (pe_con C.NO_ANNOUNCEMENT rfl) pa_nil))))
          pss_nil)
        (pss_cons (ps_setLc (i := 6) (own := [("one", 7)]) (g := gName 7) rfl sc_withdraw.nd rfl rfl (sw_true rfl rfl rfl (by decide +kernel)) (pi_list (pe_fld (pv 0) rfl)) (blkOk_by (own := [("one", 7)]) (N := N_withdraw) (sc := defScope s_withdraw) (by decide +kernel)) (fun _ _ _ _ _ => pg_name (i := 7) sc_withdraw.nd rfl (Or.inl rfl)) (fun _ _ _ _ _ => (pts_one (pt_cmpR (op_neDE (K := K) rfl (hu64 hr)) (pv 7) (pv 5) (nomark _)))) (fun _ _ _ _ _ => (pv 7)))
        (pss_cons (ps_set (i := 8) sc_withdraw.nd rfl (Or.inl rfl) (M_change_to.call hr (pv 0) (pa_cons (M_with_announcements.call hr (pv 0) (pa_cons (pv 6) pa_nil)) pa_nil)))
        (pss_one (ps_ret (pe_lst (pa_cons (pe_callB call_len_seq (by rfl) T.len PySem.boot_len (pa_cons (pv 6) pa_nil)) (pa_cons (pv 8) pa_nil)))))))))), ?_⟩
    obtain ⟨⟨dx, pr, pa, ts, us, hR, na, nb⟩, ho⟩ := id hG
    refine ⟨_, rfl, m, rfl, _, rfl, ?_⟩
    refine ifb (fun c => ?_) (fun c => ?_)
    · refine iteT ⟨(by show 1 ≤ sizeLine; decide), fun q hq => k.err (ex_wit1 fun z => ?_) hG (Same.refl _) hq⟩
      exact of_decide_eq_false (not_t c) z.1
    have c1 : m < 8 := of_decide_eq_true (not_f c)
    refine ⟨_, rfl, o, rfl, _, rfl, ?_⟩
    refine ifb (fun c => ?_) (fun c => ?_)
    · exact ⟨(by show 1 ≤ sizeLine; decide), fun q hq => k.err (ex_wit1 fun z => of_decide_eq_false (not_t c) z.2) hG (Same.refl _) hq⟩
    have c2 : m < 8 ∧ o < 8 := ⟨c1, of_decide_eq_true (not_f c)⟩
    refine ⟨_, rfl, _, rfl, _, rfl, _, rfl, (by show 4 ≤ sizeLine; decide), fun x hx => ?_⟩
    have sx := Same.new (o := .tup [.int (a : Nat), .int (l : Nat), .int (m : Nat), .int (o : Nat)]) hx
    generalize hH1 : upd H x (.tup [.int (a : Nat), .int (l : Nat), .int (m : Nat), .int (o : Nat)]) = H1
    rw [hH1] at sx
    have hx1 : TupAt K H1 x (rowA ⟨a, l, m, o⟩) := SqT.of (by rw [← hH1]; exact upd_same)
    have hR1 := hR.same sx
    refine ⟨_, rfl, _, rfl, p, _, dx, _, _, rfl, hR1.ins, T0.cl, T0.nA, rF_anns, _, _, hx1.dp, hR1.ra.dp, tupD_shaped _, tupDs_shaped _ _, _, rfl, ?_⟩
    rw [any_A]
    refine ifb (fun c4 => ?_) (fun c4 => ?_)
    · exact ⟨(by show 1 ≤ sizeLine; decide), fun q hq => k.err (ex_wit2 c2 (not_t c4)) hG sx hq⟩
    have c4 := not_f c4
    refine ⟨_, rfl, p, _, dx, _, _, rfl, hR1.ins, T0.cl, T0.nA, rF_anns, pa, rfl, ⟨_, hR1.ra.sq⟩, fun z hz => lc_list (K := K) (a := pa) (xs := us.map V.ref)
      (fun i H' => ∃ vs, Same H1 H' ∧ H' z = some (.lst (vs.map V.ref)) ∧ TupsAt rowA K H' vs ((r.announcements.take i).filter fun s => s != ⟨a, l, m, o⟩))
      ⟨[], Same.new hz, upd_same, .nil⟩ (fun i H' _ ⟨vs, e, _⟩ => e.seq hR1.ra.sq) ?_ ?_⟩
    · rintro i y H' hi ⟨vs, e, hL, hT⟩
      obtain ⟨t, s, rfl, _, hs, ht⟩ := hR1.ra.get hi
      have hm := filter_more (fun s => s != (⟨a, l, m, o⟩ : Su202.Announcement)) hs
      refine ⟨rfl, _, rfl, _, rfl, _, _, (ht.same e).dp, (hx1.same e).dp, tupD_shaped _, tupD_shaped _, _, rfl, ?_⟩
      rw [eqv_A]
      refine ifb (fun c => ?_) (fun c => ?_)
      · have c : (s != (⟨a, l, m, o⟩ : Su202.Announcement)) = true := c
        rw [c, if_pos rfl] at hm
        refine ⟨_, rfl, _, hL, ?_, vs ++ [t], Same.updN e hz, ?_, ?_⟩
        · have h1 := filter_len (fun s => s != (⟨a, l, m, o⟩ : Su202.Announcement)) r.announcements i
          have h2 := ho.annN
          rw [List.length_map, hT.len]
          exact small1000 (by omega)
        · rw [upd_same, map_snoc]
        · rw [hm]
          exact (hT.snoc (ht.same e)).updL hL
      · have c : (s != (⟨a, l, m, o⟩ : Su202.Announcement)) = false := c
        rw [c, if_neg Bool.false_ne_true, List.append_nil] at hm
        exact ⟨vs, e, hL, by rw [hm]; exact hT⟩
    · rintro H2 ⟨vs, e, hL, hT⟩
      rw [List.length_map, hR1.ra.len, List.take_length] at hT
      have hR2 := hR1.same e
      have hN := hT.rows hL
      have hok : ∀ s ∈ (r.announcements.filter fun s => s != (⟨a, l, m, o⟩ : Su202.Announcement)), AnnOk s := fun s h => ho.anns s (List.mem_filter.mp h).1
      have hlen : (r.announcements.filter fun s => s != (⟨a, l, m, o⟩ : Su202.Announcement)).length ≤ 16 := Nat.le_trans (List.length_filter_le _ _) ho.annN
      refine go1 rfl hR2.ins ?_
      refine ⟨_, rfl, ?_⟩
      refine go_A hR2 hN ho.rows hok (by omega) fun H4 hk hi => ?_
      have hN4 := hN.keep hR2.ins hk
      refine ⟨_, rfl, z, _, rfl, .inl hN4.sq, ?_⟩
      refine ⟨_, rfl, (by show 2 ≤ sizeLine; decide), fun q hq => ?_⟩
      refine k.end1 (ex_wit3 c2 c4) ⟨⟨dx, pr, z, ts, vs, ⟨hi, hR2.rr.keep hR2.ins hk, hN4⟩, na, fun q => hA z q (sx.free hz)⟩, ⟨ho.roas, hok, ho.roaN, hlen⟩⟩ ((Keep.of (sx.trans e)).trans hk) hq ?_
      rw [List.length_map, hN.len]
      rfl
/-! ### set_strict -/
theorem ex_str1 {r : Su202.Registry} {n : Nat} (h : 1 < n) : Su202.execute r (.setStrict n) = (r, Su202.error (-22)) := if_pos h
theorem ex_str2 {r : Su202.Registry} {n : Nat} (h : ¬ 1 < n) : Su202.execute r (.setStrict n) = ({ r with strict := n == 1 }, Su202.ok (Su202.boolToNat r.strict) [(r.movedAddresses { r with strict := n == 1 }).length]) := if_neg h
theorem stI_of {n : Nat} (h : ¬ 1 < n) : stI (n == 1) = n := by
  match n, h with
  | 0, _ => rfl
  | 1, _ => rfl
  | n + 2, h => omega
theorem ok_set_strict (D : Def K mg "set_strict" "set_strict" s_set_strict P_set_strict) (C0 : Cons K mg SZ) (T0 : RCls K C)
    (M_with_strict : MOk P w K mg base C 3 "with_strict" P_R_with_strict (spWithS K C)) (M_change_to : MOk P w K mg base C 9 "change_to" P_R_change_to (spChange K C)) : Ok P w K mg base 10 "set_strict" P_set_strict (spOp1 K C .setStrict) := by
  refine D.ok sc_set_strict (fun vs H Q E h => ?_) (fun f cdv A outer s H vs Q E hr h => ?_)
  · obtain ⟨A, p, r, a, rfl, _⟩ := h
    rfl
  · obtain ⟨A, p, r, a, rfl, hG, hA, k⟩ := h
    have T := C0
    have C := C0
    refine ⟨_, (pss_cons (ps_if (pt_cmpR op_gt (pv 1) pe_int (nomark _))
          (pss_one (ps_ret (pe_lst (pa_cons (pe_con C.BAD_ARGUMENT rfl) pa_nil))))
          pss_nil)
        (pss_cons (ps_set (i := 2) sc_set_strict.nd rfl (Or.inl rfl) (pe_fld (pv 0) rfl))
        (pss_cons (ps_set (i := 3) sc_set_strict.nd rfl (Or.inl rfl) (M_change_to.call hr (pv 0) (pa_cons (M_with_strict.call hr (pv 0) (pa_cons (pv 1) pa_nil)) pa_nil)))
        (pss_one (ps_ret (pe_lst (pa_cons (pv 2) (pa_cons (pv 3) pa_nil)))))))), ?_⟩
    obtain ⟨⟨dx, pr, pa, ts, us, hR, na, nb⟩, ho⟩ := id hG
    refine ⟨_, rfl, _, _, rfl, rfl, _, rfl, ?_⟩
    refine ifb (fun c => ?_) (fun c => ?_)
    · exact ⟨(by show 1 ≤ sizeLine; decide), fun q hq => k.err (ex_str1 (by have := of_decide_eq_true c; omega)) hG (Same.refl _) hq⟩
    have c1 : ¬ 1 < a := by
      have := of_decide_eq_false c
      omega
    refine ⟨_, rfl, p, _, dx, _, _, rfl, hR.ins, T0.cl, T0.nS, rF_strict, ?_⟩
    have e := stI_of c1
    refine go1 rfl hR.ins ?_
    refine ⟨_, rfl, ?_⟩
    rw [← e]
    refine go_S hR ho.rows fun H4 hk hi => ?_
    refine ⟨_, rfl, _, rfl, (by show 2 ≤ sizeLine; decide), fun q hq => ?_⟩
    refine k.end1 (ex_str2 c1) ⟨⟨dx, pr, pa, ts, us, ⟨hi, hR.rr.keep hR.ins hk, hR.ra.keep hR.ins hk⟩, na, nb⟩, ⟨ho.roas, ho.anns, ho.roaN, ho.annN⟩⟩ hk hq rfl
/-! ### tighten_roas -/
theorem ex_tig1 {r : Su202.Registry} {n : Nat} (h : ¬ n < 8) : Su202.execute r (.tightenRoas n) = (r, Su202.error (-2)) := if_pos (show 8 ≤ n by omega)
theorem ex_tig2 {r : Su202.Registry} {n : Nat} (h : n < 8) (h2 : 12 < (tight r.roas r.announcements n).length) : Su202.execute r (.tightenRoas n) = (r, Su202.error (-28)) := (if_neg (show ¬ 8 ≤ n by omega)).trans (if_pos h2)
theorem ex_tig3 {r : Su202.Registry} {n : Nat} (h : n < 8) (h2 : ¬ 12 < (tight r.roas r.announcements n).length) :
    Su202.execute r (.tightenRoas n) = ({ r with roas := tight r.roas r.announcements n }, Su202.ok (tight r.roas r.announcements n).length [(r.movedAddresses { r with roas := tight r.roas r.announcements n }).length]) := (if_neg (show ¬ 8 ≤ n by omega)).trans (if_neg h2)
theorem ok_tighten_roas (D : Def K mg "tighten_roas" "tighten_roas" s_tighten_roas P_tighten_roas) (C0 : Cons K mg SZ) (T0 : RCls K C) (O_is_member : Ok P w K mg base 1 "is_member" P_is_member spIsMember)
    (O_tightened_roas : Ok P w K mg base 5 "tightened_roas" P_tightened_roas (spTight K)) (M_with_roas : MOk P w K mg base C 3 "with_roas" P_R_with_roas (spWithR K C)) (M_change_to : MOk P w K mg base C 9 "change_to" P_R_change_to (spChange K C)) : Ok P w K mg base 10 "tighten_roas" P_tighten_roas (spOp1 K C .tightenRoas) := by
  refine D.ok sc_tighten_roas (fun vs H Q E h => ?_) (fun f cdv A outer s H vs Q E hr h => ?_)
  · obtain ⟨A, p, r, a, rfl, _⟩ := h
    rfl
  · obtain ⟨A, p, r, a, rfl, hG, hA, k⟩ := h
    have T := C0
    have C := C0
    refine ⟨_, (pss_cons (ps_if (pt_not (pt_val (O_is_member.call hr rfl (pa_cons (pv 1) pa_nil))))
          (pss_one (ps_ret (pe_lst (pa_cons (pe_con C.NOT_THERE rfl) pa_nil))))
          pss_nil)
        (pss_cons (ps_set (i := 2) sc_tighten_roas.nd rfl (Or.inl rfl) (O_tightened_roas.call hr rfl (pa_cons (pe_fld (pv 0) rfl) (pa_cons (pe_fld (pv 0) rfl) (pa_cons (pv 1) pa_nil)))))
        (pss_cons (ps_if (pt_cmpR op_gt (pe_callB call_len_seq (by rfl) T.len PySem.boot_len (pa_cons (pv 2) pa_nil)) (pe_con C.ROA_LIMIT rfl) (nomark _))
          (pss_one (ps_ret (pe_lst (pa_cons (pe_con C.LIMIT_REACHED rfl) pa_nil))))
          pss_nil)
        (pss_cons (ps_set (i := 3) sc_tighten_roas.nd rfl (Or.inl rfl) (M_change_to.call hr (pv 0) (pa_cons (M_with_roas.call hr (pv 0) (pa_cons (pv 2) pa_nil)) pa_nil)))
        (pss_one (ps_ret (pe_lst (pa_cons (pe_callB call_len_seq (by rfl) T.len PySem.boot_len (pa_cons (pv 2) pa_nil)) (pa_cons (pv 3) pa_nil))))))))), ?_⟩
    obtain ⟨⟨dx, pr, pa, ts, us, hR, na, nb⟩, ho⟩ := id hG
    refine ⟨_, rfl, a, rfl, _, rfl, ?_⟩
    refine ifb (fun c => ?_) (fun c => ?_)
    · exact ⟨(by show 1 ≤ sizeLine; decide), fun q hq => k.err (ex_tig1 (of_decide_eq_false (not_t c))) hG (Same.refl _) hq⟩
    have c1 := of_decide_eq_true (not_f c)
    refine ⟨_, rfl, p, _, dx, _, _, rfl, hR.ins, T0.cl, T0.nR, rF_roas, _, rfl, p, _, dx, _, _, rfl, hR.ins, T0.cl, T0.nA, rF_anns, _, rfl, pr, pa, ts, us, r.roas, r.announcements, a, rfl, hR.rr, hR.ra, ho.roas, ho.anns, ho.roaN, ho.annN, fun H1 z vs e hz hN => ?_⟩
    have hR1 := hR.same e
    refine ⟨_, rfl, z, _, rfl, .inl hN.sq, ?_⟩
    rw [List.length_map, hN.len]
    refine ⟨_, _, rfl, rfl, _, rfl, ?_⟩
    refine ifb (fun c => ?_) (fun c => ?_)
    · exact ⟨(by show 1 ≤ sizeLine; decide), fun q hq => k.err (ex_tig2 c1 (by have := of_decide_eq_true c; omega)) hG e hq⟩
    have c2 : ¬ 12 < (tight r.roas r.announcements a).length := by
      have := of_decide_eq_false c
      omega
    have hok := tight_ok c1 ho.roas ho.anns
    refine go1 rfl hR1.ins ?_
    refine ⟨_, rfl, ?_⟩
    refine go_R hR1 hN ho.rows ⟨hok, by omega⟩ fun H4 hk hi => ?_
    have hN4 := hN.keep hR1.ins hk
    refine ⟨_, rfl, z, _, rfl, .inl hN4.sq, ?_⟩
    refine ⟨_, rfl, (by show 2 ≤ sizeLine; decide), fun q hq => ?_⟩
    refine k.end1 (ex_tig3 c1 c2) ⟨⟨dx, z, pa, vs, us, ⟨hi, hN4, hR1.ra.keep hR1.ins hk⟩, fun q => hA z q hz, nb⟩, ⟨hok, ho.anns, by show (tight r.roas r.announcements a).length ≤ 12; omega, ho.annN⟩⟩ ((Keep.of e).trans hk) hq ?_
    rw [List.length_map, hN.len]
    rfl
/-! ### validity -/
section
variable {r : Su202.Registry} {a l o : Nat}
theorem ex_val1 (h : ¬ o < 8) : Su202.execute r (.validity a l o) = (r, Su202.error (-2)) := if_pos (show 8 ≤ o by omega)
theorem ex_val2 (h : o < 8) (h2 : Su202.isPrefix a l = false) : Su202.execute r (.validity a l o) = (r, Su202.error (-22)) := (if_neg (show ¬ 8 ≤ o by omega)).trans (if_pos h2)
theorem ex_val3 (h : o < 8) (h2 : Su202.isPrefix a l = true) : Su202.execute r (.validity a l o) = (r, Su202.ok (Su202.validity r.roas a l o) []) := (if_neg (show ¬ 8 ≤ o by omega)).trans (if_neg (by rw [h2]; decide))
end
theorem ok_validity (D : Def K mg "validity" "validity" s_validity P_validity) (C0 : Cons K mg SZ) (T0 : RCls K C) (O_is_member : Ok P w K mg base 1 "is_member" P_is_member spIsMember) (O_is_prefix : Ok P w K mg base 2 "is_prefix" P_is_prefix spIsPrefix)
    (O_validity_code : Ok P w K mg base 4 "validity_code" P_validity_code (spValidity K)) : Ok P w K mg base 5 "validity" P_validity (spOp3 K C .validity) := by
  refine D.ok sc_validity (fun vs H Q E h => ?_) (fun f cdv A outer s H vs Q E hr h => ?_)
  · obtain ⟨A, p, r, a, l, o, rfl, _⟩ := h
    rfl
  · obtain ⟨A, p, r, a, l, o, rfl, hG, hA, k⟩ := h
    have T := C0
    have C := C0
    refine ⟨_, (pss_cons (ps_if (pt_not (pt_val (O_is_member.call hr rfl (pa_cons (pv 3) pa_nil))))
          (pss_one (ps_ret (pe_lst (pa_cons (pe_con C.NOT_THERE rfl) pa_nil))))
          pss_nil)
        (pss_cons (ps_if (pt_not (pt_val (O_is_prefix.call hr rfl (pa_cons (pv 1) (pa_cons (pv 2) pa_nil)))))
          (pss_one (ps_ret (pe_lst (pa_cons (pe_con C.BAD_ARGUMENT rfl) pa_nil))))
          pss_nil)
        (pss_one (ps_ret (pe_lst (pa_cons (O_validity_code.call hr rfl (pa_cons (pe_fld (pv 0) rfl) (pa_cons (pv 1) (pa_cons (pv 2) (pa_cons (pv 3) pa_nil))))) pa_nil)))))), ?_⟩
    obtain ⟨⟨dx, pr, pa, ts, us, hR, na, nb⟩, ho⟩ := id hG
    refine ⟨_, rfl, o, rfl, _, rfl, ?_⟩
    refine ifb (fun c => ?_) (fun c => ?_)
    · exact ⟨(by show 1 ≤ sizeLine; decide), fun q hq => k.err (ex_val1 (of_decide_eq_false (not_t c))) hG (Same.refl _) hq⟩
    have c1 := of_decide_eq_true (not_f c)
    refine ⟨_, rfl, _, rfl, a, l, rfl, _, rfl, ?_⟩
    refine ifb (fun c => ?_) (fun c => ?_)
    · exact ⟨(by show 1 ≤ sizeLine; decide), fun q hq => k.err (ex_val2 c1 (not_t c)) hG (Same.refl _) hq⟩
    refine ⟨_, rfl, p, _, dx, _, _, rfl, hR.ins, T0.cl, T0.nR, rF_roas, _, rfl, _, rfl, _, rfl, pr, ts, r.roas, a, l, o, rfl, hR.rr, ho.rows.roas, fun H1 e1 => ⟨(by show 1 ≤ sizeLine; decide), fun q hq => ?_⟩⟩
    exact k.same (ex_val3 c1 (not_f c)) hG e1 hq rfl
/-! ### destination -/
theorem ex_des1 {r : Su202.Registry} {x : Nat} (h : ¬ x < 64) : Su202.execute r (.destination x) = (r, Su202.error (-22)) := if_pos (show 64 ≤ x by omega)
theorem ex_des2 {r : Su202.Registry} {x : Nat} (h : x < 64) (e : Su202.selectAnnouncement r.accepted x = none) : Su202.execute r (.destination x) = (r, Su202.error (-33)) := by
  refine (if_neg (show ¬ 64 ≤ x by omega)).trans ?_
  rw [e]
theorem ex_des3 {r : Su202.Registry} {x : Nat} {s : Su202.Announcement} (h : x < 64) (e : Su202.selectAnnouncement r.accepted x = some s) : Su202.execute r (.destination x) = (r, Su202.ok s.announcer [s.origin, s.address, s.length]) := by
  refine (if_neg (show ¬ 64 ≤ x by omega)).trans ?_
  rw [e]
theorem ok_destination (D : Def K mg "destination" "destination" s_destination P_destination) (C0 : Cons K mg SZ) (T0 : RCls K C) (O_is_address : Ok P w K mg base 1 "is_address" P_is_address spIsAddress)
    (O_selected_announcement : Ok P w K mg base 4 "selected_announcement" P_selected_announcement (spSel K)) (M_accepted : MOk P w K mg base C 6 "accepted" P_R_accepted (spRAcc K C)) : Ok P w K mg base 7 "destination" P_destination (spOp1 K C .destination) := by
  refine D.ok sc_destination (fun vs H Q E h => ?_) (fun f cdv A outer s H vs Q E hr h => ?_)
  · obtain ⟨A, p, r, a, rfl, _⟩ := h
    rfl
  · obtain ⟨A, p, r, a, rfl, hG, hA, k⟩ := h
    have T := C0
    have C := C0
    refine ⟨_, (pss_cons (ps_if (pt_not (pt_val (O_is_address.call hr rfl (pa_cons (pv 1) pa_nil))))
          (pss_one (ps_ret (pe_lst (pa_cons (pe_con C.BAD_ARGUMENT rfl) pa_nil))))
          pss_nil)
        (pss_cons (ps_set (i := 2) sc_destination.nd rfl (Or.inl rfl) (O_selected_announcement.call hr rfl (pa_cons (M_accepted.call0 hr (pv 0)) (pa_cons (pv 1) pa_nil))))
        (pss_cons (ps_if (pt_cmpR op_isN (pv 2) pe_non (nomark _))
          (pss_one (ps_ret (pe_lst (pa_cons (pe_con C.NO_DESTINATION rfl) pa_nil))))
          pss_nil)
        (pss_one (ps_ret (pe_lst (pa_cons (pe_ix (ix_tupE (K := K) rfl) (pv 2) (pe_con C.ANNOUNCER rfl) (fun _ _ => rfl)) (pa_cons (pe_ix (ix_tupE (K := K) rfl) (pv 2) (pe_con C.ORIGIN rfl) (fun _ _ => rfl)) (pa_cons (pe_ix (ix_tupE (K := K) rfl) (pv 2) (pe_con C.ADDRESS rfl) (fun _ _ => rfl)) (pa_cons (pe_ix (ix_tupE (K := K) rfl) (pv 2) (pe_con C.LENGTH rfl) (fun _ _ => rfl)) pa_nil)))))))))), ?_⟩
    obtain ⟨⟨dx, pr, pa, ts, us, hR, na, nb⟩, ho⟩ := id hG
    refine ⟨_, rfl, a, rfl, _, rfl, ?_⟩
    refine ifb (fun c => ?_) (fun c => ?_)
    · exact ⟨(by show 1 ≤ sizeLine; decide), fun q hq => k.err (ex_des1 (of_decide_eq_false (not_t c))) hG (Same.refl _) hq⟩
    have c1 := of_decide_eq_true (not_f c)
    refine ⟨_, rfl, p, dx, _, rfl, hR.ins, rF_no (by decide +kernel) (by decide +kernel) (by decide +kernel), p, dx, pr, pa, ts, us, r, rfl, hR, ho.rows, fun H1 z vs e hz hN => ?_⟩
    refine ⟨_, rfl, z, vs, _, a, rfl, hN, fun s hs => ho.anns s (List.mem_filter.mp hs).1, fun v hv => ?_⟩
    cases ev : Su202.selectAnnouncement r.accepted a with
    | none =>
      rw [ev] at hv
      cases (show v = .non from hv)
      refine ⟨_, rfl, rfl, _, rfl, iteT ?_⟩
      exact ⟨(by show 1 ≤ sizeLine; decide), fun q hq => k.err (ex_des2 c1 ev) hG e hq⟩
    | some y =>
      rw [ev] at hv
      obtain ⟨u, rfl, hu⟩ := hv
      refine ⟨_, rfl, rfl, _, rfl, iteF ?_⟩
      refine ⟨_, rfl, u, _, _, _, rfl, rfl, hu, aA2, _, rfl, u, _, _, _, rfl, rfl, hu, aA3, _, rfl, u, _, _, _, rfl, rfl, hu, aA0, _, rfl, u, _, _, _, rfl, rfl, hu, aA1, (by show 4 ≤ sizeLine; decide), fun q hq => ?_⟩
      exact k.same (ex_des3 c1 ev) hG e hq rfl
end
end My
namespace My
open PySem PySem.Spec PyProof.Rows L2
theorem dV_flat (d : Nat → Option Nat) : (dV d).all flatV = true := by
  unfold dV
  rw [List.all_map, List.all_eq_true]
  intro x _
  show flatV (optI (d x)) = true
  cases d x <;> rfl
theorem cnt_some (d : Nat → Option Nat) (m : Nat) : cntV (.int (m : Int)) (dV d) = ((List.range 64).filter fun x => d x == some m).length := by
  unfold cntV dV
  rw [List.countP_map, List.countP_eq_length_filter]
  congr 1
  refine List.filter_congr fun x _ => ?_
  show eqV (optI (d x)) (.int (m : Int)) = (d x == some m)
  cases d x with
  | none => rfl
  | some n =>
    show ((n : Int) == (m : Int)) = (some n == some m)
    by_cases h : n = m
    · rw [h, beq_self_eq_true, beq_self_eq_true]
    · rw [beq_eq_false_iff_ne.mpr fun q => h (Option.some.inj q), beq_eq_false_iff_ne]
      exact fun q => h (Int.ofNat.inj q)
theorem cnt_none (d : Nat → Option Nat) : cntV .non (dV d) = ((List.range 64).filter fun x => (d x).isNone).length := by
  unfold cntV dV
  rw [List.countP_map, List.countP_eq_length_filter]
  congr 1
  refine List.filter_congr fun x _ => ?_
  show eqV (optI (d x)) .non = (d x).isNone
  cases d x <;> rfl
theorem sz1 {n : Nat} (h : n ≤ 900) : ([V.int (0 : Int)] : List V).length + n ≤ sizeLine := Nat.le_of_lt (small1000 (by show 1 + n ≤ 1000; omega))
theorem sz2 {n : Nat} (h : n ≤ 900) : ([V.int (0 : Int), V.int (0 : Int)] : List V).length + n ≤ sizeLine := Nat.le_of_lt (small1000 (by show 2 + n ≤ 1000; omega))
theorem row4R : ∀ gs : List Su202.Roa, ∀ x ∈ gs.map rowR, x.length = 4 := fun gs x h => by
  obtain ⟨g, _, rfl⟩ := List.mem_map.mp h
  rfl
theorem row4A : ∀ gs : List Su202.Announcement, ∀ x ∈ gs.map rowA, x.length = 4 := fun gs x h => by
  obtain ⟨g, _, rfl⟩ := List.mem_map.mp h
  rfl
theorem movV_len (d e : Nat → Option Nat) : (movV d e).length ≤ 64 := Nat.le_trans (List.length_filter_le _ _) (by rw [List.length_range]; exact Nat.le_refl _)
theorem vulM_len (r : Su202.Registry) (m : Nat) : (vulM r m).length ≤ 64 := Nat.le_trans (List.length_filter_le _ _) (by rw [List.length_range]; exact Nat.le_refl _)
theorem hijM_len (gs : List Su202.Roa) (b : Bool) (x : Nat) (sel : Option Su202.Announcement) : (hijM gs b x sel).length ≤ 8 := Nat.le_trans (List.length_filter_le _ _) (by rw [List.length_range]; exact Nat.le_refl _)
section
variable {P : Program} {w : World} {K : PySem.W.Frag} {mg : Str → Option Value} {base : Heap} {SZ C : Addr}
def spOp0 (K : PySem.W.Frag) (C : Addr) (op : Su202.Operation) : Sp := fun vs H Q _ => ∃ (A : Addr → Prop) (p : Addr) (r : Su202.Registry), vs = [.ref p] ∧
  RegAt K C A H p r ∧ (∀ b, A b → H b ≠ none) ∧ Fin K C H Q A p r op
theorem Fin.list {A : Addr → Prop} {H H1 : Hp} {Q : VK} {p q : Addr} {r : Su202.Registry} {op : Su202.Operation} {ns : List Nat} (h : Fin K C H Q A p r op) (e : Su202.execute r op = (r, Su202.okList ns)) (hr : RegAt K C A H p r) (hk : Same H H1) (hq : H1 q = none) :
    Q (.ref q) (upd H1 q (.lst ([.int (((nV ns).length : Nat) : Int)] ++ nV ns))) := h.same e hr hk hq (by rw [nV_len]; rfl)
/-! ### address_count -/
section
variable {r : Su202.Registry} {m : Nat}
theorem ex_cnt1 (h : ¬ m < 8) : Su202.execute r (.addressCount m) = (r, Su202.error (-2)) := if_pos (show 8 ≤ m by omega)
theorem ex_cnt2 (h : m < 8) : Su202.execute r (.addressCount m) = (r, Su202.ok ((List.range 64).filter fun x => r.destination x == some m).length [((List.range 64).filter fun x => (r.destination x).isNone).length]) := if_neg (show ¬ 8 ≤ m by omega)
end
theorem ok_address_count (D : Def K mg "address_count" "address_count" s_address_count P_address_count) (C0 : Cons K mg SZ) (T0 : RCls K C) (O_is_member : Ok P w K mg base 1 "is_member" P_is_member spIsMember)
    (M_destinations : MOk P w K mg base C 7 "destinations" P_R_destinations (spRDest K C)) : Ok P w K mg base 8 "address_count" P_address_count (spOp1 K C .addressCount) := by
  refine D.ok sc_address_count (fun vs H Q E h => ?_) (fun f cdv A outer s H vs Q E hr h => ?_)
  · obtain ⟨A, p, r, a, rfl, _⟩ := h
    rfl
  · obtain ⟨A, p, r, a, rfl, hG, hA, k⟩ := h
    have T := C0
    have C := C0
    refine ⟨_, (pss_cons (ps_if (pt_not (pt_val (O_is_member.call hr rfl (pa_cons (pv 1) pa_nil))))
          (pss_one (ps_ret (pe_lst (pa_cons (pe_con C.NOT_THERE rfl) pa_nil))))
          pss_nil)
        (pss_cons (ps_set (i := 2) sc_address_count.nd rfl (Or.inl rfl) (M_destinations.call0 hr (pv 0)))
        (pss_one (ps_ret (pe_lst (pa_cons (pe_bm PySem.F.plainAttrs_list PySem.F.slot_list_count PySem.F.type_list_count (mt_countV (K := K) rfl) (pv 2) (pa_cons (pv 1) pa_nil)) (pa_cons (pe_bm PySem.F.plainAttrs_list PySem.F.slot_list_count PySem.F.type_list_count (mt_countV (K := K) rfl) (pv 2) (pa_cons pe_non pa_nil)) pa_nil))))))), ?_⟩
    obtain ⟨⟨dx, pr, pa, ts, us, hR, na, nb⟩, ho⟩ := id hG
    refine ⟨_, rfl, a, rfl, _, rfl, ?_⟩
    refine ifb (fun c => ?_) (fun c => ?_)
    · exact ⟨(by show 1 ≤ sizeLine; decide), fun q hq => k.err (ex_cnt1 (of_decide_eq_false (not_t c))) hG (Same.refl _) hq⟩
    have c1 := of_decide_eq_true (not_f c)
    refine ⟨_, rfl, p, dx, _, rfl, hR.ins, rF_no (by decide +kernel) (by decide +kernel) (by decide +kernel), p, dx, pr, pa, ts, us, r, rfl, hR, ho.rows, fun H1 z e n1 h1 => ?_⟩
    refine ⟨_, rfl, .inl ⟨rfl, _, SqL.of h1⟩, _, rfl, z, _, _, rfl, rfl, SqL.of h1, rfl, dV_flat _, ?_⟩
    refine ⟨_, rfl, .inl ⟨rfl, _, SqL.of h1⟩, z, _, _, rfl, rfl, SqL.of h1, rfl, dV_flat _, ?_⟩
    rw [cnt_some, cnt_none]
    exact ⟨(by show 2 ≤ sizeLine; decide), fun q hq => k.same (ex_cnt2 c1) hG e hq rfl⟩
/-! ### hijackers -/
theorem ex_hij1 {r : Su202.Registry} {x : Nat} (h : ¬ x < 64) : Su202.execute r (.hijackers x) = (r, Su202.error (-22)) := if_pos (show 64 ≤ x by omega)
theorem ex_hij2 {r : Su202.Registry} {x : Nat} (ho : GsOk r.roas) (h : x < 64) : Su202.execute r (.hijackers x) = (r, Su202.okList (hijM r.roas r.strict x (Su202.selectAnnouncement r.accepted x))) := by
  rw [← hij_eq r ho.all h]
  exact if_neg (show ¬ 64 ≤ x by omega)
theorem ok_hijackers (D : Def K mg "hijackers" "hijackers" s_hijackers P_hijackers) (C0 : Cons K mg SZ) (T0 : RCls K C) (O_is_address : Ok P w K mg base 1 "is_address" P_is_address spIsAddress)
    (O_selected_announcement : Ok P w K mg base 4 "selected_announcement" P_selected_announcement (spSel K)) (M_accepted : MOk P w K mg base C 6 "accepted" P_R_accepted (spRAcc K C))
    (O_hijacking_members : Ok P w K mg base 6 "hijacking_members" P_hijacking_members (spHij K C)) : Ok P w K mg base 7 "hijackers" P_hijackers (spOp1 K C .hijackers) := by
  refine D.ok sc_hijackers (fun vs H Q E h => ?_) (fun f cdv A outer s H vs Q E hr h => ?_)
  · obtain ⟨A, p, r, a, rfl, _⟩ := h
    rfl
  · obtain ⟨A, p, r, a, rfl, hG, hA, k⟩ := h
    have T := C0
    have C := C0
    refine ⟨_, (pss_cons (ps_if (pt_not (pt_val (O_is_address.call hr rfl (pa_cons (pv 1) pa_nil))))
          (pss_one (ps_ret (pe_lst (pa_cons (pe_con C.BAD_ARGUMENT rfl) pa_nil))))
          pss_nil)
        (pss_cons (ps_set (i := 2) sc_hijackers.nd rfl (Or.inl rfl) (O_selected_announcement.call hr rfl (pa_cons (M_accepted.call0 hr (pv 0)) (pa_cons (pv 1) pa_nil))))
        (pss_cons (ps_set (i := 3) sc_hijackers.nd rfl (Or.inl rfl) (O_hijacking_members.call hr rfl (pa_cons (pv 0) (pa_cons (pv 1) (pa_cons (pv 2) pa_nil)))))
        (pss_one (ps_ret (pe_op op_cat (pe_lst (pa_cons (pe_callB call_len_seq (by rfl) T.len PySem.boot_len (pa_cons (pv 3) pa_nil)) pa_nil)) (pv 3))))))), ?_⟩
    obtain ⟨⟨dx, pr, pa, ts, us, hR, na, nb⟩, ho⟩ := id hG
    refine ⟨_, rfl, a, rfl, _, rfl, ?_⟩
    refine ifb (fun c => ?_) (fun c => ?_)
    · exact ⟨(by show 1 ≤ sizeLine; decide), fun q hq => k.err (ex_hij1 (of_decide_eq_false (not_t c))) hG (Same.refl _) hq⟩
    have c1 := of_decide_eq_true (not_f c)
    have how := ho.rows
    refine ⟨_, rfl, p, dx, _, rfl, hR.ins, rF_no (by decide +kernel) (by decide +kernel) (by decide +kernel), p, dx, pr, pa, ts, us, r, rfl, hR, how, fun H1 z vs e hz hN => ?_⟩
    refine ⟨_, rfl, z, vs, _, a, rfl, hN, how.acc, fun v hv => ?_⟩
    have hR1 := hR.same e
    refine ⟨_, rfl, _, rfl, _, rfl, p, dx, pr, pa, ts, us, r, a, v, _, rfl, hR1, how.roas, hv, short_ok how a, fun H2 y e2 n2 h2 => ?_⟩
    refine ⟨_, rfl, y, _, rfl, .inl (SqL.of h2), (by show 1 ≤ sizeLine; decide), fun t ht => ?_⟩
    have nyt : y ≠ t := ne_of_none h2 ht
    refine ⟨_, rfl, t, y, _, _, rfl, rfl, upd_same, (upd_ne nyt).trans h2, ?_, fun q hq => ?_⟩
    · have := hijM_len r.roas r.strict a (Su202.selectAnnouncement r.accepted a)
      rw [nV_len]
      exact sz1 (by omega)
    · exact k.list (ex_hij2 how.roas c1) hG ((e.trans e2).trans (Same.new ht)) hq
/-! ### vulnerable_addresses -/
theorem ex_vul1 {r : Su202.Registry} {m : Nat} (h : ¬ m < 8) : Su202.execute r (.vulnerableAddresses m) = (r, Su202.error (-2)) := if_pos (show 8 ≤ m by omega)
theorem ex_vul2 {r : Su202.Registry} {m : Nat} (ho : GsOk r.roas) (h : m < 8) : Su202.execute r (.vulnerableAddresses m) = (r, Su202.okList (vulM r m)) := by
  rw [← vul_eq ho]
  exact if_neg (show ¬ 8 ≤ m by omega)
theorem ok_vulnerable_addresses (D : Def K mg "vulnerable_addresses" "vulnerable_addresses" s_vulnerable_addresses P_vulnerable_addresses) (C0 : Cons K mg SZ) (T0 : RCls K C) (O_is_member : Ok P w K mg base 1 "is_member" P_is_member spIsMember)
    (O_vulnerable_of : Ok P w K mg base 7 "vulnerable_of" P_vulnerable_of (spVul K C)) : Ok P w K mg base 8 "vulnerable_addresses" P_vulnerable_addresses (spOp1 K C .vulnerableAddresses) := by
  refine D.ok sc_vulnerable_addresses (fun vs H Q E h => ?_) (fun f cdv A outer s H vs Q E hr h => ?_)
  · obtain ⟨A, p, r, a, rfl, _⟩ := h
    rfl
  · obtain ⟨A, p, r, a, rfl, hG, hA, k⟩ := h
    have T := C0
    have C := C0
    refine ⟨_, (pss_cons (ps_if (pt_not (pt_val (O_is_member.call hr rfl (pa_cons (pv 1) pa_nil))))
          (pss_one (ps_ret (pe_lst (pa_cons (pe_con C.NOT_THERE rfl) pa_nil))))
          pss_nil)
        (pss_cons (ps_set (i := 2) sc_vulnerable_addresses.nd rfl (Or.inl rfl) (O_vulnerable_of.call hr rfl (pa_cons (pv 0) (pa_cons (pv 1) pa_nil))))
        (pss_one (ps_ret (pe_op op_cat (pe_lst (pa_cons (pe_callB call_len_seq (by rfl) T.len PySem.boot_len (pa_cons (pv 2) pa_nil)) pa_nil)) (pv 2)))))), ?_⟩
    obtain ⟨⟨dx, pr, pa, ts, us, hR, na, nb⟩, ho⟩ := id hG
    refine ⟨_, rfl, a, rfl, _, rfl, ?_⟩
    refine ifb (fun c => ?_) (fun c => ?_)
    · exact ⟨(by show 1 ≤ sizeLine; decide), fun q hq => k.err (ex_vul1 (of_decide_eq_false (not_t c))) hG (Same.refl _) hq⟩
    have c1 := of_decide_eq_true (not_f c)
    have how := ho.rows
    refine ⟨_, rfl, _, rfl, p, dx, pr, pa, ts, us, r, a, rfl, hR, how, fun H2 y e2 n2 h2 => ?_⟩
    refine ⟨_, rfl, y, _, rfl, .inl (SqL.of h2), (by show 1 ≤ sizeLine; decide), fun t ht => ?_⟩
    have nyt : y ≠ t := ne_of_none h2 ht
    refine ⟨_, rfl, t, y, _, _, rfl, rfl, upd_same, (upd_ne nyt).trans h2, ?_, fun q hq => ?_⟩
    · have := vulM_len r a
      rw [nV_len]
      exact sz1 (by omega)
    · exact k.list (ex_vul2 how.roas c1) hG (e2.trans (Same.new ht)) hq
/-! ### preview_tighten -/
theorem tight_rows {r : Su202.Registry} {m : Nat} (hm : m < 8) (ho : RegOk r) : Rows17 { r with roas := tight r.roas r.announcements m } := by
  have h1 := ho.roaN
  have h2 := ho.annN
  have h3 := tight_len (gs := r.roas) (ss := r.announcements) (m := m)
  exact ⟨⟨tight_ok hm ho.roas ho.anns, by show (tight r.roas r.announcements m).length ≤ 28; omega⟩, ho.anns, by show r.announcements.length ≤ 17; omega⟩
theorem ex_pti1 {r : Su202.Registry} {m : Nat} (h : ¬ m < 8) : Su202.execute r (.previewTighten m) = (r, Su202.error (-2)) := if_pos (show 8 ≤ m by omega)
theorem ex_pti2 {r : Su202.Registry} {m : Nat} (ho : RegOk r) (h : m < 8) : Su202.execute r (.previewTighten m) =
    (r, Su202.ok (vulM { r with roas := tight r.roas r.announcements m } m).length [(r.movedAddresses { r with roas := tight r.roas r.announcements m }).length]) := by
  rw [← vul_eq (tight_rows h ho).roas]
  exact if_neg (show ¬ 8 ≤ m by omega)
theorem ok_preview_tighten (D : Def K mg "preview_tighten" "preview_tighten" s_preview_tighten P_preview_tighten) (C0 : Cons K mg SZ) (T0 : RCls K C) (O_is_member : Ok P w K mg base 1 "is_member" P_is_member spIsMember)
    (O_tightened_roas : Ok P w K mg base 5 "tightened_roas" P_tightened_roas (spTight K)) (M_with_roas : MOk P w K mg base C 3 "with_roas" P_R_with_roas (spWithR K C)) (O_vulnerable_of : Ok P w K mg base 7 "vulnerable_of" P_vulnerable_of (spVul K C))
    (M_moved_by : MOk P w K mg base C 8 "moved_by" P_R_moved_by (spMovBy K C)) : Ok P w K mg base 9 "preview_tighten" P_preview_tighten (spOp1 K C .previewTighten) := by
  refine D.ok sc_preview_tighten (fun vs H Q E h => ?_) (fun f cdv A outer s H vs Q E hr h => ?_)
  · obtain ⟨A, p, r, a, rfl, _⟩ := h
    rfl
  · obtain ⟨A, p, r, a, rfl, hG, hA, k⟩ := h
    have T := C0
    have C := C0
    refine ⟨_, (pss_cons (ps_if (pt_not (pt_val (O_is_member.call hr rfl (pa_cons (pv 1) pa_nil))))
          (pss_one (ps_ret (pe_lst (pa_cons (pe_con C.NOT_THERE rfl) pa_nil))))
          pss_nil)
        (pss_cons (ps_set (i := 2) sc_preview_tighten.nd rfl (Or.inl rfl) (O_tightened_roas.call hr rfl (pa_cons (pe_fld (pv 0) rfl) (pa_cons (pe_fld (pv 0) rfl) (pa_cons (pv 1) pa_nil)))))
        (pss_cons (ps_set (i := 3) sc_preview_tighten.nd rfl (Or.inl rfl) (M_with_roas.call hr (pv 0) (pa_cons (pv 2) pa_nil)))
        (pss_one (ps_ret (pe_lst (pa_cons (pe_callB call_len_seq (by rfl) T.len PySem.boot_len (pa_cons (O_vulnerable_of.call hr rfl (pa_cons (pv 3) (pa_cons (pv 1) pa_nil))) pa_nil)) (pa_cons (pe_callB call_len_seq (by rfl) T.len PySem.boot_len (pa_cons (M_moved_by.call hr (pv 0) (pa_cons (pv 3) pa_nil)) pa_nil)) pa_nil)))))))), ?_⟩
    obtain ⟨⟨dx, pr, pa, ts, us, hR, na, nb⟩, ho⟩ := id hG
    refine ⟨_, rfl, a, rfl, _, rfl, ?_⟩
    refine ifb (fun c => ?_) (fun c => ?_)
    · exact ⟨(by show 1 ≤ sizeLine; decide), fun q hq => k.err (ex_pti1 (of_decide_eq_false (not_t c))) hG (Same.refl _) hq⟩
    have c1 := of_decide_eq_true (not_f c)
    have how := ho.rows
    have hw2 := tight_rows c1 ho
    refine ⟨_, rfl, p, _, dx, _, _, rfl, hR.ins, T0.cl, T0.nR, rF_roas, _, rfl, p, _, dx, _, _, rfl, hR.ins, T0.cl, T0.nA, rF_anns, _, rfl, pr, pa, ts, us, r.roas, r.announcements, a, rfl, hR.rr, hR.ra, ho.roas, ho.anns, ho.roaN, ho.annN, fun H1 z vs e1 hz hN => ?_⟩
    have hR1 := hR.same e1
    refine ⟨_, rfl, p, dx, _, rfl, hR1.ins, rF_no (by decide +kernel) (by decide +kernel) (by decide +kernel), _, rfl, p, dx, pr, pa, z, ts, us, vs, r, _, rfl, hR1, hN, fun H2 q dq e2 n2 hT => ?_⟩
    refine ⟨_, rfl, _, rfl, q, dq, z, pa, vs, us, _, a, rfl, hT, hw2, fun H3 y e3 n3 h3 => ⟨y, _, rfl, .inl (SqL.of h3), ?_⟩⟩
    have hR3 := (hR1.same e2).same e3
    have hT3 := hT.same e3
    refine ⟨_, rfl, p, dx, _, rfl, hR3.ins, rF_no (by decide +kernel) (by decide +kernel) (by decide +kernel), _, rfl, p, dx, pr, pa, q, dq, z, pa, ts, us, vs, us, r, _, rfl, hR3, hT3, how, hw2, fun H4 y2 e4 n4 h4 => ⟨y2, _, rfl, .inl (SqL.of h4), ?_⟩⟩
    rw [nV_len, nV_len]
    exact ⟨(by show 2 ≤ sizeLine; decide), fun q2 hq => k.same (ex_pti2 ho c1) hG (((e1.trans e2).trans e3).trans e4) hq rfl⟩
/-! ### preview_announce -/
section
variable {r : Su202.Registry} {a l m o : Nat}
theorem ex_pan1 (h : ¬ (m < 8 ∧ o < 8)) : Su202.execute r (.previewAnnounce a l m o) = (r, Su202.error (-2)) := if_pos (show 8 ≤ m ∨ 8 ≤ o by omega)
theorem ex_pan2 (h : m < 8 ∧ o < 8) (h2 : Su202.isPrefix a l = false) : Su202.execute r (.previewAnnounce a l m o) = (r, Su202.error (-22)) := (if_neg (mem2 h)).trans (if_pos h2)
theorem ex_pan3 (h : m < 8 ∧ o < 8) (h2 : Su202.isPrefix a l = true) :
    Su202.execute r (.previewAnnounce a l m o) = (r, Su202.okList (r.movedAddresses { r with announcements := r.announcements ++ [⟨a, l, m, o⟩] })) := (if_neg (mem2 h)).trans (if_neg (by rw [h2]; decide))
end
theorem ok_preview_announce (D : Def K mg "preview_announce" "preview_announce" s_preview_announce P_preview_announce) (C0 : Cons K mg SZ) (T0 : RCls K C) (O_is_member : Ok P w K mg base 1 "is_member" P_is_member spIsMember) (O_is_prefix : Ok P w K mg base 2 "is_prefix" P_is_prefix spIsPrefix)
    (M_with_announcements : MOk P w K mg base C 3 "with_announcements" P_R_with_announcements (spWithA K C)) (M_moved_by : MOk P w K mg base C 8 "moved_by" P_R_moved_by (spMovBy K C)) :
    Ok P w K mg base 9 "preview_announce" P_preview_announce (spOp4 K C .previewAnnounce) := by
  refine D.ok sc_preview_announce (fun vs H Q E h => ?_) (fun f cdv A outer s H vs Q E hr h => ?_)
  · obtain ⟨A, p, r, a, l, m, o, rfl, _⟩ := h
    rfl
  · obtain ⟨A, p, r, a, l, m, o, rfl, hG, hA, k⟩ := h
    have T := C0
    have C := C0
    refine ⟨_, (pss_cons (ps_if (PW.pt (pw_or (pt_not (pt_val (O_is_member.call hr rfl (pa_cons (pv 3) pa_nil)))) (pw_or1 (pt_not (pt_val (O_is_member.call hr rfl (pa_cons (pv 4) pa_nil)))))))
          (pss_one (ps_ret (pe_lst (pa_cons (pe_con C.NOT_THERE rfl) pa_nil))))
          pss_nil)
        (pss_cons (ps_if (pt_not (pt_val (O_is_prefix.call hr rfl (pa_cons (pv 1) (pa_cons (pv 2) pa_nil)))))
          (pss_one (ps_ret (pe_lst (pa_cons (pe_con C.BAD_ARGUMENT rfl) pa_nil))))
          pss_nil)
        (pss_cons (ps_set (i := 5) sc_preview_announce.nd rfl (Or.inl rfl) (pe_tup (pa_cons (pv 1) (pa_cons (pv 2) (pa_cons (pv 3) (pa_cons (pv 4) pa_nil))))))
        (pss_cons (ps_set (i := 6) sc_preview_announce.nd rfl (Or.inl rfl) (M_moved_by.call hr (pv 0) (pa_cons (M_with_announcements.call hr (pv 0) (pa_cons (pe_op op_cat (pe_fld (pv 0) rfl) (pe_lst (pa_cons (pv 5) pa_nil))) pa_nil)) pa_nil)))
        (pss_one (ps_ret (pe_op op_cat (pe_lst (pa_cons (pe_callB call_len_seq (by rfl) T.len PySem.boot_len (pa_cons (pv 6) pa_nil)) pa_nil)) (pv 6)))))))), ?_⟩
    obtain ⟨⟨dx, pr, pa, ts, us, hR, na, nb⟩, ho⟩ := id hG
    refine ⟨_, rfl, m, rfl, _, rfl, ?_⟩
    refine ifb (fun c => ?_) (fun c => ?_)
    · refine iteT ⟨(by show 1 ≤ sizeLine; decide), fun q hq => k.err (ex_pan1 fun z => ?_) hG (Same.refl _) hq⟩
      exact of_decide_eq_false (not_t c) z.1
    have c1 : m < 8 := of_decide_eq_true (not_f c)
    refine ⟨_, rfl, o, rfl, _, rfl, ?_⟩
    refine ifb (fun c => ?_) (fun c => ?_)
    · exact ⟨(by show 1 ≤ sizeLine; decide), fun q hq => k.err (ex_pan1 fun z => of_decide_eq_false (not_t c) z.2) hG (Same.refl _) hq⟩
    have c2 : m < 8 ∧ o < 8 := ⟨c1, of_decide_eq_true (not_f c)⟩
    refine ⟨_, rfl, _, rfl, a, l, rfl, _, rfl, ?_⟩
    refine ifb (fun c => ?_) (fun c => ?_)
    · exact ⟨(by show 1 ≤ sizeLine; decide), fun q hq => k.err (ex_pan2 c2 (not_t c)) hG (Same.refl _) hq⟩
    have c3 := not_f c
    have how := ho.rows
    refine ⟨_, rfl, _, rfl, _, rfl, _, rfl, (by show 4 ≤ sizeLine; decide), fun x hx => ?_⟩
    have sx := Same.new (o := .tup [.int (a : Nat), .int (l : Nat), .int (m : Nat), .int (o : Nat)]) hx
    generalize hH1 : upd H x (.tup [.int (a : Nat), .int (l : Nat), .int (m : Nat), .int (o : Nat)]) = H1
    rw [hH1] at sx
    have hx1 : TupAt K H1 x (rowA ⟨a, l, m, o⟩) := SqT.of (by rw [← hH1]; exact upd_same)
    have hR1 := hR.same sx
    refine go1 rfl hR1.ins ?_
    refine ⟨_, rfl, p, _, dx, _, _, rfl, hR1.ins, T0.cl, T0.nA, rF_anns, _, rfl, (by show 1 ≤ sizeLine; decide), fun y hy => ?_⟩
    have sy := Same.new (o := .lst [.ref x]) hy
    have hR2 := hR1.same sy
    refine ⟨pa, y, _, _, rfl, rfl, hR2.ra.seq, upd_same, ?_, fun z hz => ?_⟩
    · have := ho.annN
      rw [List.length_map, hR1.ra.len]
      exact Nat.le_of_lt (small1000 (by show r.announcements.length + 1 ≤ 1000; omega))
    have sz := Same.new (o := .lst (us.map V.ref ++ [.ref x])) hz
    have hR3 := hR2.same sz
    have sAll : Same H (upd (upd H1 y (.lst [.ref x])) z (.lst (us.map V.ref ++ [.ref x]))) := (sx.trans sy).trans sz
    have hN : RowsAt rowA K (upd (upd H1 y (.lst [.ref x])) z (.lst (us.map V.ref ++ [.ref x]))) z (us ++ [x]) (r.announcements ++ [⟨a, l, m, o⟩]) :=
      (hR3.ra.tups.snoc ((hx1.same sy).same sz)).rows (by rw [upd_same, map_snoc])
    have hok : ∀ g ∈ r.announcements ++ [(⟨a, l, m, o⟩ : Su202.Announcement)], AnnOk g := fun g hg => by
      rcases List.mem_append.mp hg with hg | hg
      · exact ho.anns g hg
      · cases List.mem_singleton.mp hg
        exact ⟨isPrefix_iff.mp c3, c2.1, c2.2⟩
    have hlen : (r.announcements ++ [(⟨a, l, m, o⟩ : Su202.Announcement)]).length ≤ 17 := by
      have := ho.annN
      rw [List.length_append]
      show r.announcements.length + 1 ≤ 17
      omega
    refine ⟨p, dx, pr, pa, z, ts, us, us ++ [x], r, _, rfl, hR3, hN, fun H4 q dq e4 n4 hT => ?_⟩
    have hR4 := hR3.same e4
    refine ⟨p, dx, pr, pa, q, dq, pr, z, ts, us, ts, us ++ [x], r, _, rfl, hR4, hT, how, ⟨how.roas, hok, hlen⟩, fun H5 y2 e5 n5 h5 => ?_⟩
    have sEnd := (sAll.trans e4).trans e5
    refine ⟨_, rfl, y2, _, rfl, .inl (SqL.of h5), (by show 1 ≤ sizeLine; decide), fun t ht => ?_⟩
    have nyt : y2 ≠ t := ne_of_none h5 ht
    refine ⟨_, rfl, t, y2, _, _, rfl, rfl, upd_same, (upd_ne nyt).trans h5, ?_, fun q hq => ?_⟩
    · have := movV_len r.destination ({ r with announcements := r.announcements ++ [(⟨a, l, m, o⟩ : Su202.Announcement)] } : Su202.Registry).destination
      rw [nV_len]
      exact sz1 (by rw [moved_eq]; omega)
    · exact k.list (ex_pan3 c2 c3) hG (sEnd.trans (Same.new ht)) hq
/-! ### dropped_announcements -/
theorem drop_len (r : Su202.Registry) : r.announcements.length - r.accepted.length = (dropL r).length := by
  have h := split_len (accB r.roas r.strict) r.announcements
  have e : r.accepted.length = (r.announcements.filter (accB r.roas r.strict)).length := rfl
  unfold dropL
  omega
theorem ex_dro {r : Su202.Registry} : Su202.execute r .droppedAnnouncements = (r, Su202.ok (dropL r).length ((dropL r).map rowA).flatten) := by
  rw [← drop_len]
  rfl
theorem ok_dropped_announcements (D : Def K mg "dropped_announcements" "dropped_announcements" s_dropped_announcements P_dropped_announcements) (C0 : Cons K mg SZ) (T0 : RCls K C)
    (M_dropped : MOk P w K mg base C 6 "dropped" P_R_dropped (spRDrop K C)) (O_all_fields : Ok P w K mg base 1 "all_fields" P_all_fields (spFields K)) : Ok P w K mg base 7 "dropped_announcements" P_dropped_announcements (spOp0 K C .droppedAnnouncements) := by
  refine D.ok sc_dropped_announcements (fun vs H Q E h => ?_) (fun f cdv A outer s H vs Q E hr h => ?_)
  · obtain ⟨A, p, r, rfl, _⟩ := h
    rfl
  · obtain ⟨A, p, r, rfl, hG, hA, k⟩ := h
    have T := C0
    refine ⟨_, (pss_cons (ps_set (i := 1) sc_dropped_announcements.nd rfl (Or.inl rfl) (M_dropped.call0 hr (pv 0)))
        (pss_one (ps_ret (pe_op op_cat (pe_lst (pa_cons (pe_callB call_len_seq (by rfl) T.len PySem.boot_len (pa_cons (pv 1) pa_nil)) pa_nil)) (O_all_fields.call hr rfl (pa_cons (pv 1) pa_nil)))))), ?_⟩
    obtain ⟨⟨dx, pr, pa, ts, us, hR, na, nb⟩, ho⟩ := id hG
    refine ⟨_, rfl, p, dx, _, rfl, hR.ins, rF_no (by decide +kernel) (by decide +kernel) (by decide +kernel), p, dx, pr, pa, ts, us, r, rfl, hR, ho.rows, fun H1 z vs e hz hN => ?_⟩
    have hl : (dropL r).length ≤ 16 := Nat.le_trans (List.length_filter_le _ _) ho.annN
    refine ⟨_, rfl, z, _, rfl, .inl hN.sq, (by show 1 ≤ sizeLine; decide), fun t ht => ?_⟩
    rw [List.length_map, hN.len]
    have st := Same.new (o := .lst [.int (((dropL r).length : Nat) : Int)]) ht
    refine ⟨_, rfl, z, vs, _, rfl, (hN.same st).map, by rw [List.length_map]; omega, row4A _, fun H2 y e2 n2 h2 => ?_⟩
    refine ⟨t, y, _, _, rfl, rfl, e2 _ _ upd_same, h2, ?_, fun q hq => ?_⟩
    · have := flat_len _ (row4A (dropL r))
      rw [List.length_map] at this
      rw [nV_len]
      exact sz1 (by omega)
    · exact k.same ex_dro hG ((e.trans st).trans e2) hq rfl
/-! ### valid_prefix_count -/
theorem ex_vpc1 {r : Su202.Registry} {m : Nat} (h : ¬ m < 8) : Su202.execute r (.validPrefixCount m) = (r, Su202.error (-2)) := if_pos (show 8 ≤ m by omega)
theorem ex_vpc2 {r : Su202.Registry} {m : Nat} (h : m < 8) : Su202.execute r (.validPrefixCount m) = (r, Su202.ok (validP r.roas m).length []) := by
  rw [validP_len]
  exact if_neg (show ¬ 8 ≤ m by omega)
theorem ok_valid_prefix_count (D : Def K mg "valid_prefix_count" "valid_prefix_count" s_valid_prefix_count P_valid_prefix_count) (C0 : Cons K mg SZ) (T0 : RCls K C) (O_is_member : Ok P w K mg base 1 "is_member" P_is_member spIsMember)
    (O_valid_prefixes : Ok P w K mg base 5 "valid_prefixes" P_valid_prefixes (spValidP K)) : Ok P w K mg base 6 "valid_prefix_count" P_valid_prefix_count (spOp1 K C .validPrefixCount) := by
  refine D.ok sc_valid_prefix_count (fun vs H Q E h => ?_) (fun f cdv A outer s H vs Q E hr h => ?_)
  · obtain ⟨A, p, r, a, rfl, _⟩ := h
    rfl
  · obtain ⟨A, p, r, a, rfl, hG, hA, k⟩ := h
    have T := C0
    have C := C0
    refine ⟨_, (pss_cons (ps_if (pt_not (pt_val (O_is_member.call hr rfl (pa_cons (pv 1) pa_nil))))
          (pss_one (ps_ret (pe_lst (pa_cons (pe_con C.NOT_THERE rfl) pa_nil))))
          pss_nil)
        (pss_one (ps_ret (pe_lst (pa_cons (pe_callB call_len_seq (by rfl) T.len PySem.boot_len (pa_cons (O_valid_prefixes.call hr rfl (pa_cons (pe_fld (pv 0) rfl) (pa_cons (pv 1) pa_nil))) pa_nil)) pa_nil))))), ?_⟩
    obtain ⟨⟨dx, pr, pa, ts, us, hR, na, nb⟩, ho⟩ := id hG
    refine ⟨_, rfl, a, rfl, _, rfl, ?_⟩
    refine ifb (fun c => ?_) (fun c => ?_)
    · exact ⟨(by show 1 ≤ sizeLine; decide), fun q hq => k.err (ex_vpc1 (of_decide_eq_false (not_t c))) hG (Same.refl _) hq⟩
    have c1 := of_decide_eq_true (not_f c)
    refine ⟨_, rfl, p, _, dx, _, _, rfl, hR.ins, T0.cl, T0.nR, rF_roas, _, rfl, pr, ts, r.roas, a, rfl, hR.rr, ho.rows.roas, fun H1 z us1 e1 n1 hN => ?_⟩
    refine ⟨z, _, rfl, .inl hN.sq, ?_⟩
    rw [List.length_map, hN.len]
    exact ⟨(by show 1 ≤ sizeLine; decide), fun q hq => k.same (ex_vpc2 c1) hG e1 hq rfl⟩
/-! ### the lists -/
theorem ex_lro {r : Su202.Registry} : Su202.execute r .listRoas = (r, Su202.ok r.roas.length (r.roas.map rowR).flatten) := rfl
theorem ex_lan {r : Su202.Registry} : Su202.execute r .listAnnouncements = (r, Su202.ok r.announcements.length (stI r.strict :: (r.announcements.map rowA).flatten)) := rfl
theorem ok_list_roas (D : Def K mg "list_roas" "list_roas" s_list_roas P_list_roas) (C0 : Cons K mg SZ) (T0 : RCls K C)
    (O_all_fields : Ok P w K mg base 1 "all_fields" P_all_fields (spFields K)) : Ok P w K mg base 2 "list_roas" P_list_roas (spOp0 K C .listRoas) := by
  refine D.ok sc_list_roas (fun vs H Q E h => ?_) (fun f cdv A outer s H vs Q E hr h => ?_)
  · obtain ⟨A, p, r, rfl, _⟩ := h
    rfl
  · obtain ⟨A, p, r, rfl, hG, hA, k⟩ := h
    have T := C0
    refine ⟨_, (pss_one (ps_ret (pe_op op_cat (pe_lst (pa_cons (pe_callB call_len_seq (by rfl) T.len PySem.boot_len (pa_cons (pe_fld (pv 0) rfl) pa_nil)) pa_nil)) (O_all_fields.call hr rfl (pa_cons (pe_fld (pv 0) rfl) pa_nil))))), ?_⟩
    obtain ⟨⟨dx, pr, pa, ts, us, hR, na, nb⟩, ho⟩ := id hG
    have hl := ho.roaN
    refine ⟨_, rfl, p, _, dx, _, _, rfl, hR.ins, T0.cl, T0.nR, rF_roas, pr, _, rfl, .inl hR.rr.sq, (by show 1 ≤ sizeLine; decide), fun t ht => ?_⟩
    rw [List.length_map, hR.rr.len]
    have st := Same.new (o := .lst [.int ((r.roas.length : Nat) : Int)]) ht
    have hR1 := hR.same st
    refine ⟨_, rfl, p, _, dx, _, _, rfl, hR1.ins, T0.cl, T0.nR, rF_roas, pr, ts, _, rfl, hR1.rr.map, by rw [List.length_map]; omega, row4R _, fun H2 y e2 n2 h2 => ?_⟩
    refine ⟨t, y, _, _, rfl, rfl, e2 _ _ upd_same, h2, ?_, fun q hq => ?_⟩
    · have := flat_len _ (row4R r.roas)
      rw [List.length_map] at this
      rw [nV_len]
      exact sz1 (by omega)
    · exact k.same ex_lro hG (st.trans e2) hq rfl
theorem ok_list_announcements (D : Def K mg "list_announcements" "list_announcements" s_list_announcements P_list_announcements) (C0 : Cons K mg SZ) (T0 : RCls K C)
    (O_all_fields : Ok P w K mg base 1 "all_fields" P_all_fields (spFields K)) : Ok P w K mg base 2 "list_announcements" P_list_announcements (spOp0 K C .listAnnouncements) := by
  refine D.ok sc_list_announcements (fun vs H Q E h => ?_) (fun f cdv A outer s H vs Q E hr h => ?_)
  · obtain ⟨A, p, r, rfl, _⟩ := h
    rfl
  · obtain ⟨A, p, r, rfl, hG, hA, k⟩ := h
    have T := C0
    refine ⟨_, (pss_one (ps_ret (pe_op op_cat (pe_lst (pa_cons (pe_callB call_len_seq (by rfl) T.len PySem.boot_len (pa_cons (pe_fld (pv 0) rfl) pa_nil)) (pa_cons (pe_fld (pv 0) rfl) pa_nil))) (O_all_fields.call hr rfl (pa_cons (pe_fld (pv 0) rfl) pa_nil))))), ?_⟩
    obtain ⟨⟨dx, pr, pa, ts, us, hR, na, nb⟩, ho⟩ := id hG
    have hl := ho.annN
    refine ⟨_, rfl, p, _, dx, _, _, rfl, hR.ins, T0.cl, T0.nA, rF_anns, pa, _, rfl, .inl hR.ra.sq, _, rfl, p, _, dx, _, _, rfl, hR.ins, T0.cl, T0.nS, rF_strict, (by show 2 ≤ sizeLine; decide), fun t ht => ?_⟩
    rw [List.length_map, hR.ra.len]
    have st := Same.new (o := .lst [.int ((r.announcements.length : Nat) : Int), .int ((stI r.strict : Nat) : Int)]) ht
    have hR1 := hR.same st
    refine ⟨_, rfl, p, _, dx, _, _, rfl, hR1.ins, T0.cl, T0.nA, rF_anns, pa, us, _, rfl, hR1.ra.map, by rw [List.length_map]; omega, row4A _, fun H2 y e2 n2 h2 => ?_⟩
    refine ⟨t, y, _, _, rfl, rfl, e2 _ _ upd_same, h2, ?_, fun q hq => ?_⟩
    · have := flat_len _ (row4A r.announcements)
      rw [List.length_map] at this
      rw [nV_len]
      exact sz2 (by omega)
    · exact k.same ex_lan hG (st.trans e2) hq rfl
end
end My
namespace My
open PySem PySem.Spec PyProof.Rows L2
/-- the registry, or None ahead of the first reset -/
def StAt (K : PySem.W.Frag) (C : Addr) (A : Addr → Prop) (H : Hp) (v : V) : Option Su202.Registry → Prop
  | none => v = .non
  | some r => ∃ p, v = .ref p ∧ RegAt K C A H p r
/-- all that stood, but what v names -/
def KeepV (v : V) (H H' : Hp) : Prop := ∀ b o, v ≠ .ref b → H b = some o → H' b = some o
theorem KeepV.of {v : V} {H H' : Hp} (e : Same H H') : KeepV v H H' := fun b o _ h => e b o h
theorem resV_resI (z : Su202.Result) : resV z = (resI z).map V.int := by
  unfold resV resI
  rw [List.map_cons, List.map_map]
  rfl
section
variable {P : Program} {w : World} {K : PySem.W.Frag} {mg : Str → Option Value} {base : Heap} {SZ RC : Addr}
def spGiven : Sp := fun vs H Q _ => ∃ (p : Int) (n : Nat), vs = [.int p] ∧ PySu202.shape p = some (n, 0) ∧ p ≠ 0 ∧ Q (.int (n : Nat)) H
def spPerform (K : PySem.W.Frag) (RC : Addr) : Sp := fun vs H Q _ => ∃ (A : Addr → Prop) (v : V) (s : Option Su202.Registry) (p : Int) (xs : List Int) (g : Addr) (op : Su202.Operation), vs = [v, .int p, .ref g] ∧ StAt K RC A H v s ∧ (∀ b, A b → H b ≠ none) ∧
  H g = some (.lst (xs.map V.int)) ∧ PySu202.shape p = some (xs.length, 0) ∧ p ≠ 0 ∧ (∀ x ∈ xs, 0 ≤ x) ∧ Su202Neutral.callOf (p :: xs) = some op ∧
  ∀ (H' : Hp) (q : Addr), KeepV v H H' → StAt K RC A H' v (Su202.step s op).1 → H q = none → H' q = some (.lst ((resI (Su202.step s op).2).map V.int)) → Q (.ref q) H'
def spAns (K : PySem.W.Frag) : Sp := fun vs H Q _ => ∃ (a : Addr) (ns : List Int), vs = [.ref a] ∧ SqL K H a (ns.map V.int) ∧ (∀ x ∈ ns, 0 ≤ x) ∧ PySu202.answers_asked ns = true ∧
  ∀ (H' : Hp) (p : Addr), H' p = some (.lst ((PySu202.answers ns).map V.int)) → Q (.ref p) H'
theorem StAt.updF {A : Addr → Prop} {H : Hp} {v : V} {s : Option Su202.Registry} {F : Addr} {xs : List V} {o : HO} (h : StAt K RC A H v s) (hA : A F) (hF : H F = some (.lst xs)) : StAt K RC A (upd H F o) v s := by
  cases s with
  | none => exact h
  | some r =>
    obtain ⟨p, rfl, ⟨dx, pr, pa, ts, us, hR, na, nb⟩, ho⟩ := h
    have n1 : pr ≠ F := fun q => na (q ▸ hA)
    have n2 : pa ≠ F := fun q => nb (q ▸ hA)
    refine ⟨p, rfl, ⟨dx, pr, pa, ts, us, ⟨(upd_ne (ne_of hR.ins hF (by intro q; cases q))).trans hR.ins, ?_, ?_⟩, na, nb⟩, ho⟩
    · exact ((hR.rr.tups.updL hF).rows ((upd_ne n1).trans hR.rr.seq))
    · exact ((hR.ra.tups.updL hF).rows ((upd_ne n2).trans hR.ra.seq))
theorem StAt.same {A : Addr → Prop} {H H' : Hp} {v : V} {s : Option Su202.Registry} (h : StAt K RC A H v s) (e : Same H H') : StAt K RC A H' v s := by
  cases s with
  | none => exact h
  | some r =>
    obtain ⟨p, rfl, hG⟩ := h
    exact ⟨p, rfl, hG.same e⟩
theorem callOf_some {p : Int} {xs : List Int} (h0 : PySu202.shape p = some (xs.length, 0)) : ∃ op, Su202Neutral.callOf (p :: xs) = some op := by
  have h1 := (shape_cases h0).2
  clear h0
  match xs, h1 with
  | [], h1 =>
    have h : p = 0 ∨ p = 14 ∨ p = 16 ∨ p = 17 := by simpa using h1
    rcases h with rfl | rfl | rfl | rfl <;> exact ⟨_, rfl⟩
  | [a], h1 =>
    have h : p = 2 ∨ p = 5 ∨ p = 6 ∨ p = 8 ∨ p = 9 ∨ p = 10 ∨ p = 11 ∨ p = 12 ∨ p = 15 := by simpa using h1
    rcases h with rfl | rfl | rfl | rfl | rfl | rfl | rfl | rfl | rfl <;> exact ⟨_, rfl⟩
  | [a, b], h1 => simp at h1
  | [a, b, c], h1 =>
    have h : p = 7 := by simpa using h1
    subst h
    exact ⟨_, rfl⟩
  | [a, b, c, d], h1 =>
    have h : p = 1 ∨ p = 3 ∨ p = 4 ∨ p = 13 := by simpa using h1
    rcases h with rfl | rfl | rfl | rfl <;> exact ⟨_, rfl⟩
  | a :: b :: c :: d :: e :: r, h1 =>
    exfalso
    simp only [List.length_cons] at h1
    omega
theorem step_reset (s : Option Su202.Registry) : Su202.step s .reset = (some Su202.empty, Su202.ok 0 []) := by
  cases s <;> rfl
/-- what holds between two calls of the list -/
def AnsInv (K : PySem.W.Frag) (RC : Addr) (H : Hp) (a F : Addr) (ns : List Int) (σ : L2.St) (H' : Hp) : Prop :=
  ∃ (v : V) (n4 n5 n6 : Option V) (st : Option Su202.Registry) (i : Nat) (out : List Int) (f : Nat) (cs : List (List (List Int))),
    σ = [some (.ref a), some v, some (.ref F), some (.int (i : Nat)), n4, n5, n6] ∧ Same H H' ∧ StAt K RC (· = F) H' v st ∧ (∀ p, v = .ref p → H p = none) ∧ H' F = some (.lst (out.map V.int)) ∧ i ≤ ns.length ∧
    PyFlat.calls PySu202.shape f (ns.drop i) = some cs ∧ out ++ restOf st cs = PySu202.answers ns
def ansMu (ns : List Int) (σ : L2.St) : Nat := match σ with
  | [_, _, _, some (.int i), _, _, _] => ns.length - i.toNat
  | _ => 0
theorem ans_fin {H H2 : Hp} {a F : Addr} {ns : List Int} {v2 : V} {n4 n5 n6 : Option V} {st2 : Option Su202.Registry} {res out : List Int} {i j f2 : Nat} {cs2 : List (List (List Int))} {x : Int} {τ : L2.St}
    (hF : H F = none) (e : Same H H2) (hv : StAt K RC (· = F) H2 v2 st2) (hvf : ∀ p, v2 = .ref p → H p = none) (hL : H2 F = some (.lst (out.map V.int))) (hj : j ≤ ns.length) (hij : i < j)
    (hc : PyFlat.calls PySu202.shape f2 (ns.drop j) = some cs2) (ho : out ++ (((res.length : Nat) : Int) :: (res ++ restOf st2 cs2)) = PySu202.answers ns) (hx : x = (j : Int)) (hm : ansMu ns τ = ns.length - i) :
    AnsInv K RC H a F ns [some (.ref a), some v2, some (.ref F), some (.int x), n4, n5, n6] (upd (upd H2 F (.lst (out.map V.int ++ [.int ((res.length : Nat) : Int)]))) F (.lst ((out.map V.int ++ [.int ((res.length : Nat) : Int)]) ++ res.map V.int))) ∧
    ansMu ns [some (.ref a), some v2, some (.ref F), some (.int x), n4, n5, n6] < ansMu ns τ := by
  subst hx
  constructor
  · refine ⟨v2, n4, n5, n6, st2, j, out ++ (((res.length : Nat) : Int) :: res), f2, cs2, rfl, ?_, ?_, hvf, ?_, hj, hc, ?_⟩
    · rw [upd_upd]
      exact Same.updN e hF
    · rw [upd_upd]
      exact hv.updF rfl hL
    · rw [upd_same, List.map_append, List.append_assoc]
      rfl
    · rw [List.append_assoc]
      exact ho
  · rw [hm]
    show ns.length - ((j : Int)).toNat < _
    rw [Int.toNat_natCast]
    omega
theorem cut_mid {xs : List Int} {i n : Nat} (h : i + n ≤ xs.length) : cutV (xs.map V.int) (some (i : Int)) (some ((i : Int) + (n : Int))) = ((xs.drop i).take n).map V.int := by
  unfold cutV
  have e : (i : Int) + (n : Int) = ((i + n : Nat) : Int) := rfl
  rw [e, HT.sIx_nat, HT.sIx_nat, List.length_map, Nat.min_eq_left h, Nat.min_eq_left (show i ≤ xs.length by omega), List.map_take, List.map_drop]
  congr 1
  omega
theorem ok_answers {fa : Addr} {fda : FuncData} (D : Fun K "answers" "answers" s_answers fa fda) (C0 : Cons K mg SZ) (I_Registry : IOk P w K mg base RC 1 "Registry" P_R_init (spInit K RC)) (O_given_count : Ok P w K mg base 1 "given_count" P_given_count spGiven)
    (O_perform : Ok P w K mg base 12 "perform" P_perform (spPerform K RC)) : FnOk P w K mg base CX0 13 fa fda P_answers (spAns K) := by
  refine D.ok sc_answers (fun vs H Q E h => ?_) (fun cdv A outer s H vs Q E hr h => ?_)
  · obtain ⟨a, ns, rfl, _⟩ := h
    rfl
  · obtain ⟨a, ns, rfl, hS, hpos, hask, k⟩ := h
    have T := C0
    obtain ⟨cs0, hcs0, hshort⟩ := asked_calls hask
    have hans := answers_eq hcs0
    have C := C0
    refine ⟨_, (pss_cons (ps_set (i := 1) sc_answers.nd rfl (Or.inl rfl) pe_non)
        (pss_cons (ps_set (i := 2) sc_answers.nd rfl (Or.inl rfl) (pe_lst pa_nil))
        (pss_cons (ps_set (i := 3) sc_answers.nd rfl (Or.inl rfl) pe_int)
        (pss_cons (ps_while PassesOwn.never (pt_cmpR op_lt (pv 3) (pe_callB call_len_seq (by rfl) T.len PySem.boot_len (pa_cons (pv 0) pa_nil)) (nomark _))
          (pss_cons (ps_set (i := 4) sc_answers.nd rfl (Or.inl rfl) (pe_ix (ix_listE (K := K) rfl) (pv 0) (pv 3) (fun _ _ => rfl)))
          (pss_cons (ps_aug (i := 3) sc_answers.nd rfl (Or.inl rfl) pe_int ip_add)
          (pss_cons (ps_if (pt_cmpR op_eq (pv 4) (pe_con C.RESET rfl) (nomark _))
            (pss_cons (ps_set (i := 1) sc_answers.nd rfl (Or.inl rfl) (I_Registry.makeA hr rfl (pa_cons (pe_lst pa_nil) (pa_cons (pe_lst pa_nil) (pa_cons pe_int pa_nil)))))
            (pss_one (ps_set (i := 5) sc_answers.nd rfl (Or.inl rfl) (pe_lst (pa_cons pe_int pa_nil)))))
            (pss_cons (ps_set (i := 6) sc_answers.nd rfl (Or.inl rfl) (pe_slice sl_list (pv 0) (po_some (pv 3)) (po_some (pe_op op_add (pv 3) (O_given_count.call hr rfl (pa_cons (pv 4) pa_nil))))))
            (pss_cons (ps_aug (i := 3) sc_answers.nd rfl (Or.inl rfl) (pe_callB call_len_seq (by rfl) T.len PySem.boot_len (pa_cons (pv 6) pa_nil)) ip_add)
            (pss_one (ps_set (i := 5) sc_answers.nd rfl (Or.inl rfl) (O_perform.call hr rfl (pa_cons (pv 1) (pa_cons (pv 4) (pa_cons (pv 6) pa_nil)))))))))
          (pss_cons (ps_expr (pe_bm PySem.F.plainAttrs_list PySem.F.slot_list_append PySem.F.type_list_append mt_append (pv 2) (pa_cons (pe_callB call_len_seq (by rfl) T.len PySem.boot_len (pa_cons (pv 5) pa_nil)) pa_nil)))
          (pss_one (ps_expr (pe_bm PySem.F.plainAttrs_list PySem.F.slot_list_extend PySem.F.type_list_extend mt_extend (pv 2) (pa_cons (pv 5) pa_nil)))))))))
        (pss_one (ps_ret (pv 2))))))), ?_⟩
    refine ⟨Nat.zero_le _, fun F hF => ?_⟩
    have hlen : ∀ (out res : List Int) (l : Int) (r : List Int), out ++ (l :: (res ++ r)) = PySu202.answers ns → out.length + 1 + res.length ≤ 10000000 := fun out res l r e => by
      have h := hshort
      rw [← e, List.length_append, List.length_cons, List.length_append] at h
      omega
    refine while_by (AnsInv K RC H a F ns) (fun σ _ => ansMu ns σ) ⟨.non, none, none, none, none, 0, [], ns.length, cs0, rfl, Same.new hF, rfl, (fun p q => by cases q), upd_same, Nat.zero_le _, hcs0, hans.symm⟩ ?_ ?_
    · rintro σ H1 ⟨v, n4, n5, n6, st, i, out, f, cs, rfl, e, hv, hvf, hL, hi, hc, ho⟩
      refine ⟨_, rfl, _, rfl, a, _, rfl, .inl (e.seq hS), ?_⟩
      rw [List.length_map]
      refine ⟨_, _, rfl, rfl, _, rfl, ?_⟩
      refine ifb (fun c => ?_) (fun c => ?_)
      · have hlt : i < ns.length := by
          have := of_decide_eq_true c
          omega
        obtain ⟨p, hp⟩ : ∃ p, ns[i]? = some p := ⟨ns[i], List.getElem?_eq_getElem hlt⟩
        have hdr : ns.drop i = p :: ns.drop (i + 1) := by
          rw [List.drop_eq_getElem_cons hlt]
          congr 1
          exact Option.some.inj ((List.getElem?_eq_getElem hlt).symm.trans hp)
        rw [hdr] at hc
        obtain ⟨f, rfl⟩ : ∃ g, f = g + 1 := by
          cases f with
          | zero => exact (calls_zero hc).elim
          | succ g => exact ⟨g, rfl⟩
        obtain ⟨⟨n, cs2, hsh, hle, rfl, hrest⟩⟩ := turn hc
        rw [List.length_drop] at hle
        rw [List.drop_drop] at hrest
        have hmu : ansMu ns [some (.ref a), some v, some (.ref F), some (.int (i : Nat)), n4, n5, n6] = ns.length - i := rfl
        refine ⟨_, rfl, _, rfl, a, _, _, _, rfl, rfl, e.seq hS, atI_nat (by rw [List.getElem?_map, hp]; rfl), ?_⟩
        refine ⟨_, rfl, _, _, rfl, rfl, ?_⟩
        refine ⟨_, rfl, rfl, _, rfl, ?_⟩
        refine ifb (fun c2 => ?_) (fun c2 => ?_)
        · have ep : p = 0 := by
            have := of_decide_eq_true c2
            injection this
          subst ep
          obtain rfl : n = 0 := by
            have := (shape_cases hsh).2
            omega
          rw [List.take_zero, rest_cons cs2 callOf_0, step_reset] at ho
          refine ⟨Nat.zero_le _, fun pr hpr => ⟨Nat.zero_le _, fun pa hpa => fun x dx hx hdx nxd => ?_⟩⟩
          have s1 := Same.new (o := .lst []) hpr
          have s2 := Same.new (o := .lst []) hpa
          refine ⟨x, dx, pr, pa, _, rfl, upd_same, fun H2 hk hi2 => ⟨rfl, ?_⟩⟩
          have e3 := same_make hx hdx hk
          have e2 : Same H1 H2 := (s1.trans s2).trans e3
          have h1 : H2 pr = some (.lst []) := e3 _ _ (s2 _ _ upd_same)
          have h2 : H2 pa = some (.lst []) := e3 _ _ upd_same
          have hFx : ∀ y, H1 y = none → ¬ y = F := fun y q z => by
            rw [z, hL] at q
            cases q
          have n1 : H1 pr = none := hpr
          have n2 : H1 pa = none := s1.free hpa
          refine ⟨by show 1 ≤ sizeLine; decide, fun q hq => ?_⟩
          have hL2 := e2 _ _ hL
          have nFq : F ≠ q := ne_of_none hL2 hq
          have sq := Same.new (o := .lst [.int 0]) hq
          have hL3 := sq _ _ hL2
          refine ⟨_, rfl, .inl ⟨rfl, _, SqL.of hL3⟩, _, rfl, q, _, rfl, .inl (SqL.of upd_same), F, _, _, rfl, rfl, hL3, ?_, ?_⟩
          · have := hlen out [0] _ _ ho
            rw [List.length_map]
            exact Nat.lt_of_le_of_lt (show out.length ≤ 10000000 by omega) (by decide)
          refine ⟨_, rfl, .inl ⟨rfl, _, SqL.of upd_same⟩, _, rfl, F, q, _, [.int 0], rfl, rfl, upd_same, (upd_ne nFq.symm).trans upd_same, ?_, ?_⟩
          · have := hlen out [0] _ _ ho
            rw [List.length_append, List.length_map]
            exact Nat.le_trans (show out.length + 1 + 1 ≤ 10000000 from this) (by decide)
          refine ans_fin (res := [0]) (j := i + 1) hF ((e.trans e2).trans sq) (st2 := some Su202.empty) ⟨x, rfl, ⟨⟨dx, pr, pa, [], [], ⟨sq _ _ hi2, ?_, ?_⟩, hFx pr n1, hFx pa n2⟩, ?_⟩⟩ (fun p q => ?_) hL3 hlt (Nat.lt_succ_self i) hrest ho rfl hmu
          · exact TupsAt.nil.rows (sq _ _ h1)
          · exact TupsAt.nil.rows (sq _ _ h2)
          · exact ⟨(fun g h => nomatch h), (fun g h => nomatch h), Nat.zero_le _, Nat.zero_le _⟩
          · cases q
            exact e.free ((s1.trans s2).free hx)
        · have ep : p ≠ 0 := fun q => by
            have := of_decide_eq_false c2
            exact this (by rw [q])
          have e1 : (i : Int) + 1 = ((i + 1 : Nat) : Int) := rfl
          refine ⟨_, rfl, _, rfl, _, rfl, _, rfl, _, rfl, p, n, rfl, hsh, ep, _, _, rfl, rfl, _, rfl, a, _, rfl, e.seq hS, fun g hg => ?_⟩
          have hcut : cutV (ns.map V.int) (some ((i : Int) + 1)) (some ((i : Int) + 1 + (n : Int))) = ((ns.drop (i + 1)).take n).map V.int := cut_mid (i := i + 1) (n := n) (by omega)
          have hxl : ((ns.drop (i + 1)).take n).length = n := by
            rw [List.length_take, List.length_drop]
            omega
          rw [show cutV (ns.map V.int) (some ((fun i j => i + j) (↑i) 1)) (some ((fun i j => i + j) ((fun i j => i + j) (↑i) 1) ↑n)) = _ from hcut]
          generalize hxs : (ns.drop (i + 1)).take n = xs at *
          subst hxl
          have sg := Same.new (o := .lst (xs.map V.int)) hg
          refine ⟨_, rfl, _, rfl, g, _, rfl, .inl (SqL.of upd_same), _, _, rfl, rfl, ?_⟩
          obtain ⟨op, hop⟩ := callOf_some hsh
          rw [rest_cons cs2 hop] at ho
          have hxp : ∀ x ∈ xs, 0 ≤ x := fun x hx => hpos x (by
            rw [← hxs] at hx
            exact List.mem_of_mem_drop (List.mem_of_mem_take hx))
          refine ⟨_, rfl, _, rfl, _, rfl, (· = F), v, st, p, xs, g, op, rfl, hv.same sg, (fun b q z => ?_), upd_same, hsh, ep, hxp, hop, fun H3 q hk hst hq hq3 => ?_⟩
          · rw [q, sg _ _ hL] at z
            cases z
          have vF : ∀ b o, H b = some o → v ≠ .ref b := fun b o z y => by
            rw [hvf b y] at z
            cases z
          have vF2 : v ≠ .ref F := fun y => by
            cases st with
            | none => rw [show v = .non from hv] at y; cases y
            | some r =>
              obtain ⟨pp, rfl, ⟨_, _, _, _, _, hR, _⟩, _⟩ := hv
              cases y
              have z := hR.ins
              rw [hL] at z
              cases z
          have e3 : Same H H3 := fun b o z => hk b o (vF b o z) (sg _ _ (e _ _ z))
          have hL3 := hk F _ vF2 (sg _ _ hL)
          have nFq : F ≠ q := ne_of_none (sg _ _ hL) hq
          refine ⟨_, rfl, .inl ⟨rfl, _, SqL.of hL3⟩, _, rfl, q, _, rfl, .inl (SqL.of hq3), F, _, _, rfl, rfl, hL3, ?_, ?_⟩
          · have := hlen out _ _ _ ho
            rw [List.length_map]
            exact Nat.lt_of_le_of_lt (show out.length ≤ 10000000 by omega) (by decide)
          refine ⟨_, rfl, .inl ⟨rfl, _, SqL.of upd_same⟩, _, rfl, F, q, _, _, rfl, rfl, upd_same, (upd_ne nFq.symm).trans hq3, ?_, ?_⟩
          · have := hlen out _ _ _ ho
            rw [List.length_append, List.length_map, List.length_map]
            exact Nat.le_trans (show out.length + 1 + _ ≤ 10000000 from this) (by decide)
          simp only [List.length_map]
          exact ans_fin (j := i + 1 + xs.length) hF e3 hst hvf hL3 (by omega) (by omega) hrest ho rfl hmu
      · have hge : ns.length ≤ i := by
          have := of_decide_eq_false c
          omega
        rw [List.drop_eq_nil_of_le hge] at hc
        obtain rfl := calls_nil hc
        rw [rest_nil, List.append_nil] at ho
        subst ho
        exact ⟨_, rfl, k H1 F hL⟩
    · rintro σ H1 Q1 Q2 hq ⟨v, hv, v2, hv2, p, ys, e1, e2, i, j, e3, e4, b, e5, q⟩
      exact ⟨v, hv, v2, hv2, p, ys, e1, e2, i, j, e3, e4, b, e5, hq _ _ q⟩
end
end My
namespace My
open PySem PySem.Spec PyProof.Rows L2
section
variable {P : Program} {w : World} {K : PySem.W.Frag} {mg : Str → Option Value} {base : Heap} {SZ RC OP : Addr} {tbl : List (Int × Nat × Str)}
/-- the table has a row for every call but reset, with its count -/
def TblOk (tbl : List (Int × Nat × Str)) : Prop := ∀ p n, PySu202.shape p = some (n, 0) → p ≠ 0 → ∃ x, (p, n, x) ∈ tbl
theorem ok_given_count (D : Def K mg "given_count" "given_count" s_given_count P_given_count) (CO : Ops K mg OP tbl) (ht : TblOk tbl) : Ok P w K mg base 1 "given_count" P_given_count spGiven := by
  refine D.ok sc_given_count (fun vs H Q E h => ?_) (fun f cdv A outer s H vs Q E hr h => ?_)
  · obtain ⟨p, n, rfl, _⟩ := h
    rfl
  · obtain ⟨p, n, rfl, hs, hp, k⟩ := h
    refine ⟨_, (pss_one (ps_ret (pe_ix (ix_tupE (K := K) rfl) (pe_ix (ix_kintE (K := K) rfl) (pe_conR CO.OPERATIONS rfl) (pv 0) (fun _ _ => rfl)) pe_int (fun _ _ => rfl)))), ?_⟩
    obtain ⟨x, hx⟩ := ht p n hs hp
    obtain ⟨t, f, h1, h2, h3⟩ := CO.at_ _ _ _ hx
    exact ⟨_, rfl, OP, p, .ref t, rfl, rfl, h1, t, _, _, _, rfl, rfl, h2 H, atI_nat (j := 0) rfl, k⟩
/-- a row of the table: the def of that name keeps the promise of the call -/
def OpRow (P : Program) (w : World) (K : PySem.W.Frag) (mg : Str → Option Value) (base : Heap) (RC : Addr) (k : Nat) (p : Int) (x : Str) : Prop :=
  ∃ ps sp, Ok P w K mg base k x ps sp ∧ ∀ (xs : List Int) (op : Su202.Operation), Su202Neutral.callOf (p :: xs) = some op → (∀ y ∈ xs, 0 ≤ y) → ∀ (H : Hp) (Q : VK) (A : Addr → Prop) (q : Addr) (r : Su202.Registry),
    RegAt K RC A H q r → (∀ b, A b → H b ≠ none) → Fin K RC H Q A q r op → sp (.ref q :: xs.map V.int) H Q E0
theorem nat_of {x : Int} (h : 0 ≤ x) : ∃ n : Nat, x = (n : Int) := ⟨x.toNat, (Int.toNat_of_nonneg h).symm⟩
theorem row4 {k : Nat} {p : Int} {x : Str} {ps : List Str} {f : Nat → Nat → Nat → Nat → Su202.Operation} (O : Ok P w K mg base k x ps (spOp4 K RC f))
    (h : ∀ xs op, Su202Neutral.callOf (p :: xs) = some op → ∃ a b c d, xs = [a, b, c, d] ∧ op = f a.toNat b.toNat c.toNat d.toNat) : OpRow P w K mg base RC k p x := by
  refine ⟨ps, _, O, fun xs op e hp H Q A q r hG hA hF => ?_⟩
  obtain ⟨a, b, c, d, rfl, rfl⟩ := h xs op e
  obtain ⟨a, rfl⟩ := nat_of (hp a (by simp))
  obtain ⟨b, rfl⟩ := nat_of (hp b (by simp))
  obtain ⟨c, rfl⟩ := nat_of (hp c (by simp))
  obtain ⟨d, rfl⟩ := nat_of (hp d (by simp))
  exact ⟨A, q, r, a, b, c, d, rfl, hG, hA, hF⟩
theorem row3 {k : Nat} {p : Int} {x : Str} {ps : List Str} {f : Nat → Nat → Nat → Su202.Operation} (O : Ok P w K mg base k x ps (spOp3 K RC f))
    (h : ∀ xs op, Su202Neutral.callOf (p :: xs) = some op → ∃ a b c, xs = [a, b, c] ∧ op = f a.toNat b.toNat c.toNat) : OpRow P w K mg base RC k p x := by
  refine ⟨ps, _, O, fun xs op e hp H Q A q r hG hA hF => ?_⟩
  obtain ⟨a, b, c, rfl, rfl⟩ := h xs op e
  obtain ⟨a, rfl⟩ := nat_of (hp a (by simp))
  obtain ⟨b, rfl⟩ := nat_of (hp b (by simp))
  obtain ⟨c, rfl⟩ := nat_of (hp c (by simp))
  exact ⟨A, q, r, a, b, c, rfl, hG, hA, hF⟩
theorem row1 {k : Nat} {p : Int} {x : Str} {ps : List Str} {f : Nat → Su202.Operation} (O : Ok P w K mg base k x ps (spOp1 K RC f))
    (h : ∀ xs op, Su202Neutral.callOf (p :: xs) = some op → ∃ a, xs = [a] ∧ op = f a.toNat) : OpRow P w K mg base RC k p x := by
  refine ⟨ps, _, O, fun xs op e hp H Q A q r hG hA hF => ?_⟩
  obtain ⟨a, rfl, rfl⟩ := h xs op e
  obtain ⟨a, rfl⟩ := nat_of (hp a (by simp))
  exact ⟨A, q, r, a, rfl, hG, hA, hF⟩
theorem row0 {k : Nat} {p : Int} {x : Str} {ps : List Str} {o : Su202.Operation} (O : Ok P w K mg base k x ps (spOp0 K RC o))
    (h : ∀ xs op, Su202Neutral.callOf (p :: xs) = some op → xs = [] ∧ op = o) : OpRow P w K mg base RC k p x := by
  refine ⟨ps, _, O, fun xs op e hp H Q A q r hG hA hF => ?_⟩
  obtain ⟨rfl, rfl⟩ := h xs op e
  exact ⟨A, q, r, rfl, hG, hA, hF⟩
theorem step_some (r : Su202.Registry) (op : Su202.Operation) : Su202.step (some r) op = (some (Su202.execute r op).1, (Su202.execute r op).2) := rfl
theorem step_none {op : Su202.Operation} (h : op ≠ .reset) : Su202.step none op = (none, Su202.error (-11)) := by
  cases op <;> first | rfl | exact absurd rfl h
theorem call_ne {p : Int} {xs : List Int} {op : Su202.Operation} (h : Su202Neutral.callOf (p :: xs) = some op) (hp : p ≠ 0) : op ≠ .reset := by
  rintro rfl
  unfold Su202Neutral.callOf at h
  split at h
  all_goals first
    | (rename_i e; cases e; exact hp rfl)
    | cases h
end
end My
namespace My
open PySem PySem.Spec PyProof.Rows L2
section
variable {P : Program} {w : World} {K : PySem.W.Frag} {mg : Str → Option Value} {base : Heap} {SZ RC OP : Addr} {tbl : List (Int × Nat × Str)}
theorem at_get {xs : List Int} {j : Nat} {x : Int} (h : xs[j]? = some x) : atI (xs.map V.int) ((j : Nat) : Int) = some (.int x) := atI_nat (by rw [List.getElem?_map, h]; rfl)
theorem ok_perform (D : Def K mg "perform" "perform" s_perform P_perform) (C0 : Cons K mg SZ) (C1 : Ops K mg OP tbl) (ht : TblOk tbl)
    (rows : ∀ p n x, (p, n, x) ∈ tbl → OpRow P w K mg base RC 11 p x) : Ok P w K mg base 12 "perform" P_perform (spPerform K RC) := by
  refine D.ok sc_perform (fun vs H Q E h => ?_) (fun f cdv A0 outer s0 H vs Q E hr h => ?_)
  · obtain ⟨A, v, s, p, xs, g, op, rfl, _⟩ := h
    rfl
  · obtain ⟨A, v, s, p, xs, g, op, rfl, hs, hA, hg, hsh, hp, hpos, hop, k⟩ := h
    have T := C0
    have C := C0
    have CO := C1
    refine ⟨_, (pss_cons (ps_if (pt_cmpR op_isN (pv 0) pe_non (nomark _))
          (pss_one (ps_ret (pe_lst (pa_cons (pe_con C.NO_REGISTRY rfl) pa_nil))))
          pss_nil)
        (pss_cons (ps_set (i := 3) sc_perform.nd rfl (Or.inl rfl) (pe_ix (ix_tupE (K := K) rfl) (pe_ix (ix_kintE (K := K) rfl) (pe_conR CO.OPERATIONS rfl) (pv 1) (fun _ _ => rfl)) pe_int (fun _ _ => rfl)))
        (pss_cons (ps_if (pt_cmpR op_eq (pe_callB call_len_seq (by rfl) T.len PySem.boot_len (pa_cons (pv 2) pa_nil)) pe_int (nomark _))
          (pss_one (ps_ret (pe_callF (i := 3) hr rfl (.inl rfl) (pa_cons (pv 0) pa_nil) (Nat.le_refl _))))
          pss_nil)
        (pss_cons (ps_if (pt_cmpR op_eq (pe_callB call_len_seq (by rfl) T.len PySem.boot_len (pa_cons (pv 2) pa_nil)) pe_int (nomark _))
          (pss_one (ps_ret (pe_callF (i := 3) hr rfl (.inl rfl) (pa_cons (pv 0) (pa_cons (pe_ix (ix_listE (K := K) rfl) (pv 2) pe_int (fun _ _ => rfl)) pa_nil)) (Nat.le_refl _))))
          pss_nil)
        (pss_cons (ps_if (pt_cmpR op_eq (pe_callB call_len_seq (by rfl) T.len PySem.boot_len (pa_cons (pv 2) pa_nil)) pe_int (nomark _))
          (pss_one (ps_ret (pe_callF (i := 3) hr rfl (.inl rfl) (pa_cons (pv 0) (pa_cons (pe_ix (ix_listE (K := K) rfl) (pv 2) pe_int (fun _ _ => rfl)) (pa_cons (pe_ix (ix_listE (K := K) rfl) (pv 2) pe_int (fun _ _ => rfl)) (pa_cons (pe_ix (ix_listE (K := K) rfl) (pv 2) pe_int (fun _ _ => rfl)) pa_nil)))) (Nat.le_refl _))))
          pss_nil)
        (pss_one (ps_ret (pe_callF (i := 3) hr rfl (.inl rfl) (pa_cons (pv 0) (pa_cons (pe_ix (ix_listE (K := K) rfl) (pv 2) pe_int (fun _ _ => rfl)) (pa_cons (pe_ix (ix_listE (K := K) rfl) (pv 2) pe_int (fun _ _ => rfl)) (pa_cons (pe_ix (ix_listE (K := K) rfl) (pv 2) pe_int (fun _ _ => rfl)) (pa_cons (pe_ix (ix_listE (K := K) rfl) (pv 2) pe_int (fun _ _ => rfl)) pa_nil))))) (Nat.le_refl _))))))))), ?_⟩
    cases s with
    | none =>
      cases (show v = .non from hs)
      refine ⟨_, rfl, rfl, _, rfl, iteT ⟨(by show 1 ≤ sizeLine; decide), fun q hq => ?_⟩⟩
      rw [step_none (call_ne hop hp)] at k
      exact k _ q (KeepV.of (Same.new hq)) rfl hq upd_same
    | some r =>
      obtain ⟨q, rfl, hG⟩ := hs
      refine ⟨_, rfl, rfl, _, rfl, iteF ?_⟩
      obtain ⟨x, hx⟩ := ht p _ hsh hp
      obtain ⟨t, fx, h1, h2, h3⟩ := C1.at_ _ _ _ hx
      obtain ⟨ps, sp, O, hO⟩ := rows p _ x hx
      obtain ⟨f1, fd, hF, hm, hk, hb⟩ := O.ex
      obtain rfl : f1 = fx := by
        rw [hm] at h3
        cases h3
        rfl
      have hfin : Fin K RC H Q A q r op := fun H' q' hk hr' hq hv => k H' q' (fun b o n h => hk b o (fun z => n (by rw [z])) h) ⟨q, rfl, hr'⟩ hq (by rw [← resV_resI]; exact hv)
      have go := hO xs op hop hpos H Q A q r hG hA hfin
      refine ⟨_, rfl, OP, p, .ref t, rfl, rfl, h1, t, _, _, _, rfl, rfl, h2 H, atI_nat (j := 1) rfl, ?_⟩
      have hn := (shape_cases hsh).2
      refine ⟨_, rfl, g, _, rfl, .inl (SqL.of hg), ?_⟩
      rw [List.length_map]
      refine ⟨rfl, _, rfl, ?_⟩
      refine ifb (fun c => ?_) (fun c => ?_)
      · have c1 : xs.length = 0 := (decide_eq_true_iff.mp (dec_eq.symm.trans c))
        match xs, c1 with
        | [], _ =>
          exact ⟨f1, rfl, hk, _, rfl, fd, ps, sp, hF, hb, go⟩
      have c00 : xs.length ≠ 0 := (decide_eq_false_iff_not.mp (dec_eq.symm.trans c))
      refine ⟨_, rfl, g, _, rfl, .inl (SqL.of hg), ?_⟩
      rw [List.length_map]
      refine ⟨rfl, _, rfl, ?_⟩
      refine ifb (fun c => ?_) (fun c => ?_)
      · have c1 : xs.length = 1 := (decide_eq_true_iff.mp (dec_eq.symm.trans c))
        match xs, c1 with
        | [a], _ =>
          exact ⟨f1, rfl, hk, _, rfl, _, rfl, g, _, _, _, rfl, rfl, SqL.of hg, at_get (j := 0) rfl, fd, ps, sp, hF, hb, go⟩
      have c01 : xs.length ≠ 1 := (decide_eq_false_iff_not.mp (dec_eq.symm.trans c))
      refine ⟨_, rfl, g, _, rfl, .inl (SqL.of hg), ?_⟩
      rw [List.length_map]
      refine ⟨rfl, _, rfl, ?_⟩
      refine ifb (fun c => ?_) (fun c => ?_)
      · have c1 : xs.length = 3 := (decide_eq_true_iff.mp (dec_eq.symm.trans c))
        match xs, c1 with
        | [a, b, d], _ =>
          exact ⟨f1, rfl, hk, _, rfl, _, rfl, g, _, _, _, rfl, rfl, SqL.of hg, at_get (j := 0) rfl, _, rfl, g, _, _, _, rfl, rfl, SqL.of hg, at_get (j := 1) rfl, _, rfl, g, _, _, _, rfl, rfl, SqL.of hg, at_get (j := 2) rfl, fd, ps, sp, hF, hb, go⟩
      · have c03 : xs.length ≠ 3 := (decide_eq_false_iff_not.mp (dec_eq.symm.trans c))
        have c1 : xs.length = 4 := by
          omega
        match xs, c1 with
        | [a, b, d, e], _ =>
          exact ⟨f1, rfl, hk, _, rfl, _, rfl, g, _, _, _, rfl, rfl, SqL.of hg, at_get (j := 0) rfl, _, rfl, g, _, _, _, rfl, rfl, SqL.of hg, at_get (j := 1) rfl, _, rfl, g, _, _, _, rfl, rfl, SqL.of hg, at_get (j := 2) rfl, _, rfl, g, _, _, _, rfl, rfl, SqL.of hg, at_get (j := 3) rfl, fd, ps, sp, hF, hb, go⟩
end
end My
namespace My
open PySem PySem.Spec PyProof.Rows L2
def tbl : List (Int × Nat × Str) := [(1, 4, "add_roa"), (2, 1, "remove_roa"), (3, 4, "announce"), (4, 4, "withdraw"), (5, 1, "set_strict"), (6, 1, "tighten_roas"), (7, 3, "validity"), (8, 1, "destination"), (9, 1, "address_count"), (10, 1, "hijackers"), (11, 1, "vulnerable_addresses"), (12, 1, "preview_tighten"), (13, 4, "preview_announce"), (14, 0, "dropped_announcements"), (15, 1, "valid_prefix_count"), (16, 0, "list_roas"), (17, 0, "list_announcements")]
theorem tbl_ok : TblOk tbl := by
  intro p n h hp
  obtain ⟨_, h⟩ := shape_cases h
  rcases h with ⟨rfl, rfl | rfl | rfl | rfl⟩ | ⟨rfl, rfl | rfl | rfl | rfl⟩ | ⟨rfl, rfl⟩ | ⟨rfl, rfl | rfl | rfl | rfl | rfl | rfl | rfl | rfl | rfl⟩
  · exact absurd rfl hp
  · exact ⟨_, .tail _ (.tail _ (.tail _ (.tail _ (.tail _ (.tail _ (.tail _ (.tail _ (.tail _ (.tail _ (.tail _ (.tail _ (.tail _ (.head _)))))))))))))⟩
  · exact ⟨_, .tail _ (.tail _ (.tail _ (.tail _ (.tail _ (.tail _ (.tail _ (.tail _ (.tail _ (.tail _ (.tail _ (.tail _ (.tail _ (.tail _ (.tail _ (.head _)))))))))))))))⟩
  · exact ⟨_, .tail _ (.tail _ (.tail _ (.tail _ (.tail _ (.tail _ (.tail _ (.tail _ (.tail _ (.tail _ (.tail _ (.tail _ (.tail _ (.tail _ (.tail _ (.tail _ (.head _))))))))))))))))⟩
  · exact ⟨_, .head _⟩
  · exact ⟨_, .tail _ (.tail _ (.head _))⟩
  · exact ⟨_, .tail _ (.tail _ (.tail _ (.head _)))⟩
  · exact ⟨_, .tail _ (.tail _ (.tail _ (.tail _ (.tail _ (.tail _ (.tail _ (.tail _ (.tail _ (.tail _ (.tail _ (.tail _ (.head _))))))))))))⟩
  · exact ⟨_, .tail _ (.tail _ (.tail _ (.tail _ (.tail _ (.tail _ (.head _))))))⟩
  · exact ⟨_, .tail _ (.head _)⟩
  · exact ⟨_, .tail _ (.tail _ (.tail _ (.tail _ (.head _))))⟩
  · exact ⟨_, .tail _ (.tail _ (.tail _ (.tail _ (.tail _ (.head _)))))⟩
  · exact ⟨_, .tail _ (.tail _ (.tail _ (.tail _ (.tail _ (.tail _ (.tail _ (.head _)))))))⟩
  · exact ⟨_, .tail _ (.tail _ (.tail _ (.tail _ (.tail _ (.tail _ (.tail _ (.tail _ (.head _))))))))⟩
  · exact ⟨_, .tail _ (.tail _ (.tail _ (.tail _ (.tail _ (.tail _ (.tail _ (.tail _ (.tail _ (.head _)))))))))⟩
  · exact ⟨_, .tail _ (.tail _ (.tail _ (.tail _ (.tail _ (.tail _ (.tail _ (.tail _ (.tail _ (.tail _ (.head _))))))))))⟩
  · exact ⟨_, .tail _ (.tail _ (.tail _ (.tail _ (.tail _ (.tail _ (.tail _ (.tail _ (.tail _ (.tail _ (.tail _ (.head _)))))))))))⟩
  · exact ⟨_, .tail _ (.tail _ (.tail _ (.tail _ (.tail _ (.tail _ (.tail _ (.tail _ (.tail _ (.tail _ (.tail _ (.tail _ (.tail _ (.tail _ (.head _))))))))))))))⟩
theorem all_mk {P : Program} {w : World} {K : PySem.W.Frag} {h : Heap} {mg : Str → Option Value} {fa RC SZ : Addr} (X : K.In h) (G : h.Ns mainGlobals mg) (hfa : mg "answers" = some (.ref fa))
    {f_all_fields : Addr} {od_all_fields an_all_fields : Option Addr} {sl_all_fields : Array (Option Value)} {oc_all_fields kV_all_fields dc_all_fields pm_all_fields cd_all_fields ct_all_fields : Value}
    (a_all_fields : PySem.W.nsIn K mainGlobals "all_fields" = some (some (.ref f_all_fields))) (l_all_fields : K.lookup f_all_fields = some ⟨oc_all_fields, od_all_fields, .func (PySem.W.fnOf "all_fields" "all_fields" (defArgs s_all_fields) (defBody s_all_fields) (defScope s_all_fields) .none kV_all_fields dc_all_fields pm_all_fields an_all_fields cd_all_fields ct_all_fields), sl_all_fields⟩) (c_all_fields : PySem.W.codeIn K cd_all_fields "all_fields" = true) (k_all_fields : PySem.W.keepIn K (.ref f_all_fields) = true)
    {f_is_member : Addr} {od_is_member an_is_member : Option Addr} {sl_is_member : Array (Option Value)} {oc_is_member kV_is_member dc_is_member pm_is_member cd_is_member ct_is_member : Value}
    (a_is_member : PySem.W.nsIn K mainGlobals "is_member" = some (some (.ref f_is_member))) (l_is_member : K.lookup f_is_member = some ⟨oc_is_member, od_is_member, .func (PySem.W.fnOf "is_member" "is_member" (defArgs s_is_member) (defBody s_is_member) (defScope s_is_member) .none kV_is_member dc_is_member pm_is_member an_is_member cd_is_member ct_is_member), sl_is_member⟩) (c_is_member : PySem.W.codeIn K cd_is_member "is_member" = true) (k_is_member : PySem.W.keepIn K (.ref f_is_member) = true)
    {f_is_address : Addr} {od_is_address an_is_address : Option Addr} {sl_is_address : Array (Option Value)} {oc_is_address kV_is_address dc_is_address pm_is_address cd_is_address ct_is_address : Value}
    (a_is_address : PySem.W.nsIn K mainGlobals "is_address" = some (some (.ref f_is_address))) (l_is_address : K.lookup f_is_address = some ⟨oc_is_address, od_is_address, .func (PySem.W.fnOf "is_address" "is_address" (defArgs s_is_address) (defBody s_is_address) (defScope s_is_address) .none kV_is_address dc_is_address pm_is_address an_is_address cd_is_address ct_is_address), sl_is_address⟩) (c_is_address : PySem.W.codeIn K cd_is_address "is_address" = true) (k_is_address : PySem.W.keepIn K (.ref f_is_address) = true)
    {f_is_prefix : Addr} {od_is_prefix an_is_prefix : Option Addr} {sl_is_prefix : Array (Option Value)} {oc_is_prefix kV_is_prefix dc_is_prefix pm_is_prefix cd_is_prefix ct_is_prefix : Value}
    (a_is_prefix : PySem.W.nsIn K mainGlobals "is_prefix" = some (some (.ref f_is_prefix))) (l_is_prefix : K.lookup f_is_prefix = some ⟨oc_is_prefix, od_is_prefix, .func (PySem.W.fnOf "is_prefix" "is_prefix" (defArgs s_is_prefix) (defBody s_is_prefix) (defScope s_is_prefix) .none kV_is_prefix dc_is_prefix pm_is_prefix an_is_prefix cd_is_prefix ct_is_prefix), sl_is_prefix⟩) (c_is_prefix : PySem.W.codeIn K cd_is_prefix "is_prefix" = true) (k_is_prefix : PySem.W.keepIn K (.ref f_is_prefix) = true)
    {f_prefix_start : Addr} {od_prefix_start an_prefix_start : Option Addr} {sl_prefix_start : Array (Option Value)} {oc_prefix_start kV_prefix_start dc_prefix_start pm_prefix_start cd_prefix_start ct_prefix_start : Value}
    (a_prefix_start : PySem.W.nsIn K mainGlobals "prefix_start" = some (some (.ref f_prefix_start))) (l_prefix_start : K.lookup f_prefix_start = some ⟨oc_prefix_start, od_prefix_start, .func (PySem.W.fnOf "prefix_start" "prefix_start" (defArgs s_prefix_start) (defBody s_prefix_start) (defScope s_prefix_start) .none kV_prefix_start dc_prefix_start pm_prefix_start an_prefix_start cd_prefix_start ct_prefix_start), sl_prefix_start⟩) (c_prefix_start : PySem.W.codeIn K cd_prefix_start "prefix_start" = true) (k_prefix_start : PySem.W.keepIn K (.ref f_prefix_start) = true)
    {f_all_prefixes : Addr} {od_all_prefixes an_all_prefixes : Option Addr} {sl_all_prefixes : Array (Option Value)} {oc_all_prefixes kV_all_prefixes dc_all_prefixes pm_all_prefixes cd_all_prefixes ct_all_prefixes : Value}
    (a_all_prefixes : PySem.W.nsIn K mainGlobals "all_prefixes" = some (some (.ref f_all_prefixes))) (l_all_prefixes : K.lookup f_all_prefixes = some ⟨oc_all_prefixes, od_all_prefixes, .func (PySem.W.fnOf "all_prefixes" "all_prefixes" (defArgs s_all_prefixes) (defBody s_all_prefixes) (defScope s_all_prefixes) .none kV_all_prefixes dc_all_prefixes pm_all_prefixes an_all_prefixes cd_all_prefixes ct_all_prefixes), sl_all_prefixes⟩) (c_all_prefixes : PySem.W.codeIn K cd_all_prefixes "all_prefixes" = true) (k_all_prefixes : PySem.W.keepIn K (.ref f_all_prefixes) = true)
    {f_contains_address : Addr} {od_contains_address an_contains_address : Option Addr} {sl_contains_address : Array (Option Value)} {oc_contains_address kV_contains_address dc_contains_address pm_contains_address cd_contains_address ct_contains_address : Value}
    (a_contains_address : PySem.W.nsIn K mainGlobals "contains_address" = some (some (.ref f_contains_address))) (l_contains_address : K.lookup f_contains_address = some ⟨oc_contains_address, od_contains_address, .func (PySem.W.fnOf "contains_address" "contains_address" (defArgs s_contains_address) (defBody s_contains_address) (defScope s_contains_address) .none kV_contains_address dc_contains_address pm_contains_address an_contains_address cd_contains_address ct_contains_address), sl_contains_address⟩) (c_contains_address : PySem.W.codeIn K cd_contains_address "contains_address" = true) (k_contains_address : PySem.W.keepIn K (.ref f_contains_address) = true)
    {f_contains_prefix : Addr} {od_contains_prefix an_contains_prefix : Option Addr} {sl_contains_prefix : Array (Option Value)} {oc_contains_prefix kV_contains_prefix dc_contains_prefix pm_contains_prefix cd_contains_prefix ct_contains_prefix : Value}
    (a_contains_prefix : PySem.W.nsIn K mainGlobals "contains_prefix" = some (some (.ref f_contains_prefix))) (l_contains_prefix : K.lookup f_contains_prefix = some ⟨oc_contains_prefix, od_contains_prefix, .func (PySem.W.fnOf "contains_prefix" "contains_prefix" (defArgs s_contains_prefix) (defBody s_contains_prefix) (defScope s_contains_prefix) .none kV_contains_prefix dc_contains_prefix pm_contains_prefix an_contains_prefix cd_contains_prefix ct_contains_prefix), sl_contains_prefix⟩) (c_contains_prefix : PySem.W.codeIn K cd_contains_prefix "contains_prefix" = true) (k_contains_prefix : PySem.W.keepIn K (.ref f_contains_prefix) = true)
    {f_is_roa : Addr} {od_is_roa an_is_roa : Option Addr} {sl_is_roa : Array (Option Value)} {oc_is_roa kV_is_roa dc_is_roa pm_is_roa cd_is_roa ct_is_roa : Value}
    (a_is_roa : PySem.W.nsIn K mainGlobals "is_roa" = some (some (.ref f_is_roa))) (l_is_roa : K.lookup f_is_roa = some ⟨oc_is_roa, od_is_roa, .func (PySem.W.fnOf "is_roa" "is_roa" (defArgs s_is_roa) (defBody s_is_roa) (defScope s_is_roa) .none kV_is_roa dc_is_roa pm_is_roa an_is_roa cd_is_roa ct_is_roa), sl_is_roa⟩) (c_is_roa : PySem.W.codeIn K cd_is_roa "is_roa" = true) (k_is_roa : PySem.W.keepIn K (.ref f_is_roa) = true)
    {f_covering_roas : Addr} {od_covering_roas an_covering_roas : Option Addr} {sl_covering_roas : Array (Option Value)} {oc_covering_roas kV_covering_roas dc_covering_roas pm_covering_roas cd_covering_roas ct_covering_roas : Value}
    (a_covering_roas : PySem.W.nsIn K mainGlobals "covering_roas" = some (some (.ref f_covering_roas))) (l_covering_roas : K.lookup f_covering_roas = some ⟨oc_covering_roas, od_covering_roas, .func (PySem.W.fnOf "covering_roas" "covering_roas" (defArgs s_covering_roas) (defBody s_covering_roas) (defScope s_covering_roas) .none kV_covering_roas dc_covering_roas pm_covering_roas an_covering_roas cd_covering_roas ct_covering_roas), sl_covering_roas⟩) (c_covering_roas : PySem.W.codeIn K cd_covering_roas "covering_roas" = true) (k_covering_roas : PySem.W.keepIn K (.ref f_covering_roas) = true)
    {f_authorized_origins : Addr} {od_authorized_origins an_authorized_origins : Option Addr} {sl_authorized_origins : Array (Option Value)} {oc_authorized_origins kV_authorized_origins dc_authorized_origins pm_authorized_origins cd_authorized_origins ct_authorized_origins : Value}
    (a_authorized_origins : PySem.W.nsIn K mainGlobals "authorized_origins" = some (some (.ref f_authorized_origins))) (l_authorized_origins : K.lookup f_authorized_origins = some ⟨oc_authorized_origins, od_authorized_origins, .func (PySem.W.fnOf "authorized_origins" "authorized_origins" (defArgs s_authorized_origins) (defBody s_authorized_origins) (defScope s_authorized_origins) .none kV_authorized_origins dc_authorized_origins pm_authorized_origins an_authorized_origins cd_authorized_origins ct_authorized_origins), sl_authorized_origins⟩) (c_authorized_origins : PySem.W.codeIn K cd_authorized_origins "authorized_origins" = true) (k_authorized_origins : PySem.W.keepIn K (.ref f_authorized_origins) = true)
    {f_validity_code : Addr} {od_validity_code an_validity_code : Option Addr} {sl_validity_code : Array (Option Value)} {oc_validity_code kV_validity_code dc_validity_code pm_validity_code cd_validity_code ct_validity_code : Value}
    (a_validity_code : PySem.W.nsIn K mainGlobals "validity_code" = some (some (.ref f_validity_code))) (l_validity_code : K.lookup f_validity_code = some ⟨oc_validity_code, od_validity_code, .func (PySem.W.fnOf "validity_code" "validity_code" (defArgs s_validity_code) (defBody s_validity_code) (defScope s_validity_code) .none kV_validity_code dc_validity_code pm_validity_code an_validity_code cd_validity_code ct_validity_code), sl_validity_code⟩) (c_validity_code : PySem.W.codeIn K cd_validity_code "validity_code" = true) (k_validity_code : PySem.W.keepIn K (.ref f_validity_code) = true)
    {f_valid_prefixes : Addr} {od_valid_prefixes an_valid_prefixes : Option Addr} {sl_valid_prefixes : Array (Option Value)} {oc_valid_prefixes kV_valid_prefixes dc_valid_prefixes pm_valid_prefixes cd_valid_prefixes ct_valid_prefixes : Value}
    (a_valid_prefixes : PySem.W.nsIn K mainGlobals "valid_prefixes" = some (some (.ref f_valid_prefixes))) (l_valid_prefixes : K.lookup f_valid_prefixes = some ⟨oc_valid_prefixes, od_valid_prefixes, .func (PySem.W.fnOf "valid_prefixes" "valid_prefixes" (defArgs s_valid_prefixes) (defBody s_valid_prefixes) (defScope s_valid_prefixes) .none kV_valid_prefixes dc_valid_prefixes pm_valid_prefixes an_valid_prefixes cd_valid_prefixes ct_valid_prefixes), sl_valid_prefixes⟩) (c_valid_prefixes : PySem.W.codeIn K cd_valid_prefixes "valid_prefixes" = true) (k_valid_prefixes : PySem.W.keepIn K (.ref f_valid_prefixes) = true)
    {f_tightened_roas : Addr} {od_tightened_roas an_tightened_roas : Option Addr} {sl_tightened_roas : Array (Option Value)} {oc_tightened_roas kV_tightened_roas dc_tightened_roas pm_tightened_roas cd_tightened_roas ct_tightened_roas : Value}
    (a_tightened_roas : PySem.W.nsIn K mainGlobals "tightened_roas" = some (some (.ref f_tightened_roas))) (l_tightened_roas : K.lookup f_tightened_roas = some ⟨oc_tightened_roas, od_tightened_roas, .func (PySem.W.fnOf "tightened_roas" "tightened_roas" (defArgs s_tightened_roas) (defBody s_tightened_roas) (defScope s_tightened_roas) .none kV_tightened_roas dc_tightened_roas pm_tightened_roas an_tightened_roas cd_tightened_roas ct_tightened_roas), sl_tightened_roas⟩) (c_tightened_roas : PySem.W.codeIn K cd_tightened_roas "tightened_roas" = true) (k_tightened_roas : PySem.W.keepIn K (.ref f_tightened_roas) = true)
    {f_accepted_origins : Addr} {od_accepted_origins an_accepted_origins : Option Addr} {sl_accepted_origins : Array (Option Value)} {oc_accepted_origins kV_accepted_origins dc_accepted_origins pm_accepted_origins cd_accepted_origins ct_accepted_origins : Value}
    (a_accepted_origins : PySem.W.nsIn K mainGlobals "accepted_origins" = some (some (.ref f_accepted_origins))) (l_accepted_origins : K.lookup f_accepted_origins = some ⟨oc_accepted_origins, od_accepted_origins, .func (PySem.W.fnOf "accepted_origins" "accepted_origins" (defArgs s_accepted_origins) (defBody s_accepted_origins) (defScope s_accepted_origins) .none kV_accepted_origins dc_accepted_origins pm_accepted_origins an_accepted_origins cd_accepted_origins ct_accepted_origins), sl_accepted_origins⟩) (c_accepted_origins : PySem.W.codeIn K cd_accepted_origins "accepted_origins" = true) (k_accepted_origins : PySem.W.keepIn K (.ref f_accepted_origins) = true)
    {f_is_accepted : Addr} {od_is_accepted an_is_accepted : Option Addr} {sl_is_accepted : Array (Option Value)} {oc_is_accepted kV_is_accepted dc_is_accepted pm_is_accepted cd_is_accepted ct_is_accepted : Value}
    (a_is_accepted : PySem.W.nsIn K mainGlobals "is_accepted" = some (some (.ref f_is_accepted))) (l_is_accepted : K.lookup f_is_accepted = some ⟨oc_is_accepted, od_is_accepted, .func (PySem.W.fnOf "is_accepted" "is_accepted" (defArgs s_is_accepted) (defBody s_is_accepted) (defScope s_is_accepted) .none kV_is_accepted dc_is_accepted pm_is_accepted an_is_accepted cd_is_accepted ct_is_accepted), sl_is_accepted⟩) (c_is_accepted : PySem.W.codeIn K cd_is_accepted "is_accepted" = true) (k_is_accepted : PySem.W.keepIn K (.ref f_is_accepted) = true)
    {f_is_own : Addr} {od_is_own an_is_own : Option Addr} {sl_is_own : Array (Option Value)} {oc_is_own kV_is_own dc_is_own pm_is_own cd_is_own ct_is_own : Value}
    (a_is_own : PySem.W.nsIn K mainGlobals "is_own" = some (some (.ref f_is_own))) (l_is_own : K.lookup f_is_own = some ⟨oc_is_own, od_is_own, .func (PySem.W.fnOf "is_own" "is_own" (defArgs s_is_own) (defBody s_is_own) (defScope s_is_own) .none kV_is_own dc_is_own pm_is_own an_is_own cd_is_own ct_is_own), sl_is_own⟩) (c_is_own : PySem.W.codeIn K cd_is_own "is_own" = true) (k_is_own : PySem.W.keepIn K (.ref f_is_own) = true)
    {f_is_preferred : Addr} {od_is_preferred an_is_preferred : Option Addr} {sl_is_preferred : Array (Option Value)} {oc_is_preferred kV_is_preferred dc_is_preferred pm_is_preferred cd_is_preferred ct_is_preferred : Value}
    (a_is_preferred : PySem.W.nsIn K mainGlobals "is_preferred" = some (some (.ref f_is_preferred))) (l_is_preferred : K.lookup f_is_preferred = some ⟨oc_is_preferred, od_is_preferred, .func (PySem.W.fnOf "is_preferred" "is_preferred" (defArgs s_is_preferred) (defBody s_is_preferred) (defScope s_is_preferred) .none kV_is_preferred dc_is_preferred pm_is_preferred an_is_preferred cd_is_preferred ct_is_preferred), sl_is_preferred⟩) (c_is_preferred : PySem.W.codeIn K cd_is_preferred "is_preferred" = true) (k_is_preferred : PySem.W.keepIn K (.ref f_is_preferred) = true)
    {f_replaces : Addr} {od_replaces an_replaces : Option Addr} {sl_replaces : Array (Option Value)} {oc_replaces kV_replaces dc_replaces pm_replaces cd_replaces ct_replaces : Value}
    (a_replaces : PySem.W.nsIn K mainGlobals "replaces" = some (some (.ref f_replaces))) (l_replaces : K.lookup f_replaces = some ⟨oc_replaces, od_replaces, .func (PySem.W.fnOf "replaces" "replaces" (defArgs s_replaces) (defBody s_replaces) (defScope s_replaces) .none kV_replaces dc_replaces pm_replaces an_replaces cd_replaces ct_replaces), sl_replaces⟩) (c_replaces : PySem.W.codeIn K cd_replaces "replaces" = true) (k_replaces : PySem.W.keepIn K (.ref f_replaces) = true)
    {f_selected_announcement : Addr} {od_selected_announcement an_selected_announcement : Option Addr} {sl_selected_announcement : Array (Option Value)} {oc_selected_announcement kV_selected_announcement dc_selected_announcement pm_selected_announcement cd_selected_announcement ct_selected_announcement : Value}
    (a_selected_announcement : PySem.W.nsIn K mainGlobals "selected_announcement" = some (some (.ref f_selected_announcement))) (l_selected_announcement : K.lookup f_selected_announcement = some ⟨oc_selected_announcement, od_selected_announcement, .func (PySem.W.fnOf "selected_announcement" "selected_announcement" (defArgs s_selected_announcement) (defBody s_selected_announcement) (defScope s_selected_announcement) .none kV_selected_announcement dc_selected_announcement pm_selected_announcement an_selected_announcement cd_selected_announcement ct_selected_announcement), sl_selected_announcement⟩) (c_selected_announcement : PySem.W.codeIn K cd_selected_announcement "selected_announcement" = true) (k_selected_announcement : PySem.W.keepIn K (.ref f_selected_announcement) = true)
    {f_announcer_of : Addr} {od_announcer_of an_announcer_of : Option Addr} {sl_announcer_of : Array (Option Value)} {oc_announcer_of kV_announcer_of dc_announcer_of pm_announcer_of cd_announcer_of ct_announcer_of : Value}
    (a_announcer_of : PySem.W.nsIn K mainGlobals "announcer_of" = some (some (.ref f_announcer_of))) (l_announcer_of : K.lookup f_announcer_of = some ⟨oc_announcer_of, od_announcer_of, .func (PySem.W.fnOf "announcer_of" "announcer_of" (defArgs s_announcer_of) (defBody s_announcer_of) (defScope s_announcer_of) .none kV_announcer_of dc_announcer_of pm_announcer_of an_announcer_of cd_announcer_of ct_announcer_of), sl_announcer_of⟩) (c_announcer_of : PySem.W.codeIn K cd_announcer_of "announcer_of" = true) (k_announcer_of : PySem.W.keepIn K (.ref f_announcer_of) = true)
    {f_destinations_by : Addr} {od_destinations_by an_destinations_by : Option Addr} {sl_destinations_by : Array (Option Value)} {oc_destinations_by kV_destinations_by dc_destinations_by pm_destinations_by cd_destinations_by ct_destinations_by : Value}
    (a_destinations_by : PySem.W.nsIn K mainGlobals "destinations_by" = some (some (.ref f_destinations_by))) (l_destinations_by : K.lookup f_destinations_by = some ⟨oc_destinations_by, od_destinations_by, .func (PySem.W.fnOf "destinations_by" "destinations_by" (defArgs s_destinations_by) (defBody s_destinations_by) (defScope s_destinations_by) .none kV_destinations_by dc_destinations_by pm_destinations_by an_destinations_by cd_destinations_by ct_destinations_by), sl_destinations_by⟩) (c_destinations_by : PySem.W.codeIn K cd_destinations_by "destinations_by" = true) (k_destinations_by : PySem.W.keepIn K (.ref f_destinations_by) = true)
    {f_moved_addresses : Addr} {od_moved_addresses an_moved_addresses : Option Addr} {sl_moved_addresses : Array (Option Value)} {oc_moved_addresses kV_moved_addresses dc_moved_addresses pm_moved_addresses cd_moved_addresses ct_moved_addresses : Value}
    (a_moved_addresses : PySem.W.nsIn K mainGlobals "moved_addresses" = some (some (.ref f_moved_addresses))) (l_moved_addresses : K.lookup f_moved_addresses = some ⟨oc_moved_addresses, od_moved_addresses, .func (PySem.W.fnOf "moved_addresses" "moved_addresses" (defArgs s_moved_addresses) (defBody s_moved_addresses) (defScope s_moved_addresses) .none kV_moved_addresses dc_moved_addresses pm_moved_addresses an_moved_addresses cd_moved_addresses ct_moved_addresses), sl_moved_addresses⟩) (c_moved_addresses : PySem.W.codeIn K cd_moved_addresses "moved_addresses" = true) (k_moved_addresses : PySem.W.keepIn K (.ref f_moved_addresses) = true)
    {f_possible_announcements : Addr} {od_possible_announcements an_possible_announcements : Option Addr} {sl_possible_announcements : Array (Option Value)} {oc_possible_announcements kV_possible_announcements dc_possible_announcements pm_possible_announcements cd_possible_announcements ct_possible_announcements : Value}
    (a_possible_announcements : PySem.W.nsIn K mainGlobals "possible_announcements" = some (some (.ref f_possible_announcements))) (l_possible_announcements : K.lookup f_possible_announcements = some ⟨oc_possible_announcements, od_possible_announcements, .func (PySem.W.fnOf "possible_announcements" "possible_announcements" (defArgs s_possible_announcements) (defBody s_possible_announcements) (defScope s_possible_announcements) .none kV_possible_announcements dc_possible_announcements pm_possible_announcements an_possible_announcements cd_possible_announcements ct_possible_announcements), sl_possible_announcements⟩) (c_possible_announcements : PySem.W.codeIn K cd_possible_announcements "possible_announcements" = true) (k_possible_announcements : PySem.W.keepIn K (.ref f_possible_announcements) = true)
    {f_can_attract : Addr} {od_can_attract an_can_attract : Option Addr} {sl_can_attract : Array (Option Value)} {oc_can_attract kV_can_attract dc_can_attract pm_can_attract cd_can_attract ct_can_attract : Value}
    (a_can_attract : PySem.W.nsIn K mainGlobals "can_attract" = some (some (.ref f_can_attract))) (l_can_attract : K.lookup f_can_attract = some ⟨oc_can_attract, od_can_attract, .func (PySem.W.fnOf "can_attract" "can_attract" (defArgs s_can_attract) (defBody s_can_attract) (defScope s_can_attract) .none kV_can_attract dc_can_attract pm_can_attract an_can_attract cd_can_attract ct_can_attract), sl_can_attract⟩) (c_can_attract : PySem.W.codeIn K cd_can_attract "can_attract" = true) (k_can_attract : PySem.W.keepIn K (.ref f_can_attract) = true)
    {f_hijacking_members : Addr} {od_hijacking_members an_hijacking_members : Option Addr} {sl_hijacking_members : Array (Option Value)} {oc_hijacking_members kV_hijacking_members dc_hijacking_members pm_hijacking_members cd_hijacking_members ct_hijacking_members : Value}
    (a_hijacking_members : PySem.W.nsIn K mainGlobals "hijacking_members" = some (some (.ref f_hijacking_members))) (l_hijacking_members : K.lookup f_hijacking_members = some ⟨oc_hijacking_members, od_hijacking_members, .func (PySem.W.fnOf "hijacking_members" "hijacking_members" (defArgs s_hijacking_members) (defBody s_hijacking_members) (defScope s_hijacking_members) .none kV_hijacking_members dc_hijacking_members pm_hijacking_members an_hijacking_members cd_hijacking_members ct_hijacking_members), sl_hijacking_members⟩) (c_hijacking_members : PySem.W.codeIn K cd_hijacking_members "hijacking_members" = true) (k_hijacking_members : PySem.W.keepIn K (.ref f_hijacking_members) = true)
    {f_vulnerable_of : Addr} {od_vulnerable_of an_vulnerable_of : Option Addr} {sl_vulnerable_of : Array (Option Value)} {oc_vulnerable_of kV_vulnerable_of dc_vulnerable_of pm_vulnerable_of cd_vulnerable_of ct_vulnerable_of : Value}
    (a_vulnerable_of : PySem.W.nsIn K mainGlobals "vulnerable_of" = some (some (.ref f_vulnerable_of))) (l_vulnerable_of : K.lookup f_vulnerable_of = some ⟨oc_vulnerable_of, od_vulnerable_of, .func (PySem.W.fnOf "vulnerable_of" "vulnerable_of" (defArgs s_vulnerable_of) (defBody s_vulnerable_of) (defScope s_vulnerable_of) .none kV_vulnerable_of dc_vulnerable_of pm_vulnerable_of an_vulnerable_of cd_vulnerable_of ct_vulnerable_of), sl_vulnerable_of⟩) (c_vulnerable_of : PySem.W.codeIn K cd_vulnerable_of "vulnerable_of" = true) (k_vulnerable_of : PySem.W.keepIn K (.ref f_vulnerable_of) = true)
    {f_add_roa : Addr} {od_add_roa an_add_roa : Option Addr} {sl_add_roa : Array (Option Value)} {oc_add_roa kV_add_roa dc_add_roa pm_add_roa cd_add_roa ct_add_roa : Value}
    (a_add_roa : PySem.W.nsIn K mainGlobals "add_roa" = some (some (.ref f_add_roa))) (l_add_roa : K.lookup f_add_roa = some ⟨oc_add_roa, od_add_roa, .func (PySem.W.fnOf "add_roa" "add_roa" (defArgs s_add_roa) (defBody s_add_roa) (defScope s_add_roa) .none kV_add_roa dc_add_roa pm_add_roa an_add_roa cd_add_roa ct_add_roa), sl_add_roa⟩) (c_add_roa : PySem.W.codeIn K cd_add_roa "add_roa" = true) (k_add_roa : PySem.W.keepIn K (.ref f_add_roa) = true)
    {f_remove_roa : Addr} {od_remove_roa an_remove_roa : Option Addr} {sl_remove_roa : Array (Option Value)} {oc_remove_roa kV_remove_roa dc_remove_roa pm_remove_roa cd_remove_roa ct_remove_roa : Value}
    (a_remove_roa : PySem.W.nsIn K mainGlobals "remove_roa" = some (some (.ref f_remove_roa))) (l_remove_roa : K.lookup f_remove_roa = some ⟨oc_remove_roa, od_remove_roa, .func (PySem.W.fnOf "remove_roa" "remove_roa" (defArgs s_remove_roa) (defBody s_remove_roa) (defScope s_remove_roa) .none kV_remove_roa dc_remove_roa pm_remove_roa an_remove_roa cd_remove_roa ct_remove_roa), sl_remove_roa⟩) (c_remove_roa : PySem.W.codeIn K cd_remove_roa "remove_roa" = true) (k_remove_roa : PySem.W.keepIn K (.ref f_remove_roa) = true)
    {f_announce : Addr} {od_announce an_announce : Option Addr} {sl_announce : Array (Option Value)} {oc_announce kV_announce dc_announce pm_announce cd_announce ct_announce : Value}
    (a_announce : PySem.W.nsIn K mainGlobals "announce" = some (some (.ref f_announce))) (l_announce : K.lookup f_announce = some ⟨oc_announce, od_announce, .func (PySem.W.fnOf "announce" "announce" (defArgs s_announce) (defBody s_announce) (defScope s_announce) .none kV_announce dc_announce pm_announce an_announce cd_announce ct_announce), sl_announce⟩) (c_announce : PySem.W.codeIn K cd_announce "announce" = true) (k_announce : PySem.W.keepIn K (.ref f_announce) = true)
    {f_withdraw : Addr} {od_withdraw an_withdraw : Option Addr} {sl_withdraw : Array (Option Value)} {oc_withdraw kV_withdraw dc_withdraw pm_withdraw cd_withdraw ct_withdraw : Value}
    (a_withdraw : PySem.W.nsIn K mainGlobals "withdraw" = some (some (.ref f_withdraw))) (l_withdraw : K.lookup f_withdraw = some ⟨oc_withdraw, od_withdraw, .func (PySem.W.fnOf "withdraw" "withdraw" (defArgs s_withdraw) (defBody s_withdraw) (defScope s_withdraw) .none kV_withdraw dc_withdraw pm_withdraw an_withdraw cd_withdraw ct_withdraw), sl_withdraw⟩) (c_withdraw : PySem.W.codeIn K cd_withdraw "withdraw" = true) (k_withdraw : PySem.W.keepIn K (.ref f_withdraw) = true)
    {f_set_strict : Addr} {od_set_strict an_set_strict : Option Addr} {sl_set_strict : Array (Option Value)} {oc_set_strict kV_set_strict dc_set_strict pm_set_strict cd_set_strict ct_set_strict : Value}
    (a_set_strict : PySem.W.nsIn K mainGlobals "set_strict" = some (some (.ref f_set_strict))) (l_set_strict : K.lookup f_set_strict = some ⟨oc_set_strict, od_set_strict, .func (PySem.W.fnOf "set_strict" "set_strict" (defArgs s_set_strict) (defBody s_set_strict) (defScope s_set_strict) .none kV_set_strict dc_set_strict pm_set_strict an_set_strict cd_set_strict ct_set_strict), sl_set_strict⟩) (c_set_strict : PySem.W.codeIn K cd_set_strict "set_strict" = true) (k_set_strict : PySem.W.keepIn K (.ref f_set_strict) = true)
    {f_tighten_roas : Addr} {od_tighten_roas an_tighten_roas : Option Addr} {sl_tighten_roas : Array (Option Value)} {oc_tighten_roas kV_tighten_roas dc_tighten_roas pm_tighten_roas cd_tighten_roas ct_tighten_roas : Value}
    (a_tighten_roas : PySem.W.nsIn K mainGlobals "tighten_roas" = some (some (.ref f_tighten_roas))) (l_tighten_roas : K.lookup f_tighten_roas = some ⟨oc_tighten_roas, od_tighten_roas, .func (PySem.W.fnOf "tighten_roas" "tighten_roas" (defArgs s_tighten_roas) (defBody s_tighten_roas) (defScope s_tighten_roas) .none kV_tighten_roas dc_tighten_roas pm_tighten_roas an_tighten_roas cd_tighten_roas ct_tighten_roas), sl_tighten_roas⟩) (c_tighten_roas : PySem.W.codeIn K cd_tighten_roas "tighten_roas" = true) (k_tighten_roas : PySem.W.keepIn K (.ref f_tighten_roas) = true)
    {f_validity : Addr} {od_validity an_validity : Option Addr} {sl_validity : Array (Option Value)} {oc_validity kV_validity dc_validity pm_validity cd_validity ct_validity : Value}
    (a_validity : PySem.W.nsIn K mainGlobals "validity" = some (some (.ref f_validity))) (l_validity : K.lookup f_validity = some ⟨oc_validity, od_validity, .func (PySem.W.fnOf "validity" "validity" (defArgs s_validity) (defBody s_validity) (defScope s_validity) .none kV_validity dc_validity pm_validity an_validity cd_validity ct_validity), sl_validity⟩) (c_validity : PySem.W.codeIn K cd_validity "validity" = true) (k_validity : PySem.W.keepIn K (.ref f_validity) = true)
    {f_destination : Addr} {od_destination an_destination : Option Addr} {sl_destination : Array (Option Value)} {oc_destination kV_destination dc_destination pm_destination cd_destination ct_destination : Value}
    (a_destination : PySem.W.nsIn K mainGlobals "destination" = some (some (.ref f_destination))) (l_destination : K.lookup f_destination = some ⟨oc_destination, od_destination, .func (PySem.W.fnOf "destination" "destination" (defArgs s_destination) (defBody s_destination) (defScope s_destination) .none kV_destination dc_destination pm_destination an_destination cd_destination ct_destination), sl_destination⟩) (c_destination : PySem.W.codeIn K cd_destination "destination" = true) (k_destination : PySem.W.keepIn K (.ref f_destination) = true)
    {f_address_count : Addr} {od_address_count an_address_count : Option Addr} {sl_address_count : Array (Option Value)} {oc_address_count kV_address_count dc_address_count pm_address_count cd_address_count ct_address_count : Value}
    (a_address_count : PySem.W.nsIn K mainGlobals "address_count" = some (some (.ref f_address_count))) (l_address_count : K.lookup f_address_count = some ⟨oc_address_count, od_address_count, .func (PySem.W.fnOf "address_count" "address_count" (defArgs s_address_count) (defBody s_address_count) (defScope s_address_count) .none kV_address_count dc_address_count pm_address_count an_address_count cd_address_count ct_address_count), sl_address_count⟩) (c_address_count : PySem.W.codeIn K cd_address_count "address_count" = true) (k_address_count : PySem.W.keepIn K (.ref f_address_count) = true)
    {f_hijackers : Addr} {od_hijackers an_hijackers : Option Addr} {sl_hijackers : Array (Option Value)} {oc_hijackers kV_hijackers dc_hijackers pm_hijackers cd_hijackers ct_hijackers : Value}
    (a_hijackers : PySem.W.nsIn K mainGlobals "hijackers" = some (some (.ref f_hijackers))) (l_hijackers : K.lookup f_hijackers = some ⟨oc_hijackers, od_hijackers, .func (PySem.W.fnOf "hijackers" "hijackers" (defArgs s_hijackers) (defBody s_hijackers) (defScope s_hijackers) .none kV_hijackers dc_hijackers pm_hijackers an_hijackers cd_hijackers ct_hijackers), sl_hijackers⟩) (c_hijackers : PySem.W.codeIn K cd_hijackers "hijackers" = true) (k_hijackers : PySem.W.keepIn K (.ref f_hijackers) = true)
    {f_vulnerable_addresses : Addr} {od_vulnerable_addresses an_vulnerable_addresses : Option Addr} {sl_vulnerable_addresses : Array (Option Value)} {oc_vulnerable_addresses kV_vulnerable_addresses dc_vulnerable_addresses pm_vulnerable_addresses cd_vulnerable_addresses ct_vulnerable_addresses : Value}
    (a_vulnerable_addresses : PySem.W.nsIn K mainGlobals "vulnerable_addresses" = some (some (.ref f_vulnerable_addresses))) (l_vulnerable_addresses : K.lookup f_vulnerable_addresses = some ⟨oc_vulnerable_addresses, od_vulnerable_addresses, .func (PySem.W.fnOf "vulnerable_addresses" "vulnerable_addresses" (defArgs s_vulnerable_addresses) (defBody s_vulnerable_addresses) (defScope s_vulnerable_addresses) .none kV_vulnerable_addresses dc_vulnerable_addresses pm_vulnerable_addresses an_vulnerable_addresses cd_vulnerable_addresses ct_vulnerable_addresses), sl_vulnerable_addresses⟩) (c_vulnerable_addresses : PySem.W.codeIn K cd_vulnerable_addresses "vulnerable_addresses" = true) (k_vulnerable_addresses : PySem.W.keepIn K (.ref f_vulnerable_addresses) = true)
    {f_preview_tighten : Addr} {od_preview_tighten an_preview_tighten : Option Addr} {sl_preview_tighten : Array (Option Value)} {oc_preview_tighten kV_preview_tighten dc_preview_tighten pm_preview_tighten cd_preview_tighten ct_preview_tighten : Value}
    (a_preview_tighten : PySem.W.nsIn K mainGlobals "preview_tighten" = some (some (.ref f_preview_tighten))) (l_preview_tighten : K.lookup f_preview_tighten = some ⟨oc_preview_tighten, od_preview_tighten, .func (PySem.W.fnOf "preview_tighten" "preview_tighten" (defArgs s_preview_tighten) (defBody s_preview_tighten) (defScope s_preview_tighten) .none kV_preview_tighten dc_preview_tighten pm_preview_tighten an_preview_tighten cd_preview_tighten ct_preview_tighten), sl_preview_tighten⟩) (c_preview_tighten : PySem.W.codeIn K cd_preview_tighten "preview_tighten" = true) (k_preview_tighten : PySem.W.keepIn K (.ref f_preview_tighten) = true)
    {f_preview_announce : Addr} {od_preview_announce an_preview_announce : Option Addr} {sl_preview_announce : Array (Option Value)} {oc_preview_announce kV_preview_announce dc_preview_announce pm_preview_announce cd_preview_announce ct_preview_announce : Value}
    (a_preview_announce : PySem.W.nsIn K mainGlobals "preview_announce" = some (some (.ref f_preview_announce))) (l_preview_announce : K.lookup f_preview_announce = some ⟨oc_preview_announce, od_preview_announce, .func (PySem.W.fnOf "preview_announce" "preview_announce" (defArgs s_preview_announce) (defBody s_preview_announce) (defScope s_preview_announce) .none kV_preview_announce dc_preview_announce pm_preview_announce an_preview_announce cd_preview_announce ct_preview_announce), sl_preview_announce⟩) (c_preview_announce : PySem.W.codeIn K cd_preview_announce "preview_announce" = true) (k_preview_announce : PySem.W.keepIn K (.ref f_preview_announce) = true)
    {f_dropped_announcements : Addr} {od_dropped_announcements an_dropped_announcements : Option Addr} {sl_dropped_announcements : Array (Option Value)} {oc_dropped_announcements kV_dropped_announcements dc_dropped_announcements pm_dropped_announcements cd_dropped_announcements ct_dropped_announcements : Value}
    (a_dropped_announcements : PySem.W.nsIn K mainGlobals "dropped_announcements" = some (some (.ref f_dropped_announcements))) (l_dropped_announcements : K.lookup f_dropped_announcements = some ⟨oc_dropped_announcements, od_dropped_announcements, .func (PySem.W.fnOf "dropped_announcements" "dropped_announcements" (defArgs s_dropped_announcements) (defBody s_dropped_announcements) (defScope s_dropped_announcements) .none kV_dropped_announcements dc_dropped_announcements pm_dropped_announcements an_dropped_announcements cd_dropped_announcements ct_dropped_announcements), sl_dropped_announcements⟩) (c_dropped_announcements : PySem.W.codeIn K cd_dropped_announcements "dropped_announcements" = true) (k_dropped_announcements : PySem.W.keepIn K (.ref f_dropped_announcements) = true)
    {f_valid_prefix_count : Addr} {od_valid_prefix_count an_valid_prefix_count : Option Addr} {sl_valid_prefix_count : Array (Option Value)} {oc_valid_prefix_count kV_valid_prefix_count dc_valid_prefix_count pm_valid_prefix_count cd_valid_prefix_count ct_valid_prefix_count : Value}
    (a_valid_prefix_count : PySem.W.nsIn K mainGlobals "valid_prefix_count" = some (some (.ref f_valid_prefix_count))) (l_valid_prefix_count : K.lookup f_valid_prefix_count = some ⟨oc_valid_prefix_count, od_valid_prefix_count, .func (PySem.W.fnOf "valid_prefix_count" "valid_prefix_count" (defArgs s_valid_prefix_count) (defBody s_valid_prefix_count) (defScope s_valid_prefix_count) .none kV_valid_prefix_count dc_valid_prefix_count pm_valid_prefix_count an_valid_prefix_count cd_valid_prefix_count ct_valid_prefix_count), sl_valid_prefix_count⟩) (c_valid_prefix_count : PySem.W.codeIn K cd_valid_prefix_count "valid_prefix_count" = true) (k_valid_prefix_count : PySem.W.keepIn K (.ref f_valid_prefix_count) = true)
    {f_list_roas : Addr} {od_list_roas an_list_roas : Option Addr} {sl_list_roas : Array (Option Value)} {oc_list_roas kV_list_roas dc_list_roas pm_list_roas cd_list_roas ct_list_roas : Value}
    (a_list_roas : PySem.W.nsIn K mainGlobals "list_roas" = some (some (.ref f_list_roas))) (l_list_roas : K.lookup f_list_roas = some ⟨oc_list_roas, od_list_roas, .func (PySem.W.fnOf "list_roas" "list_roas" (defArgs s_list_roas) (defBody s_list_roas) (defScope s_list_roas) .none kV_list_roas dc_list_roas pm_list_roas an_list_roas cd_list_roas ct_list_roas), sl_list_roas⟩) (c_list_roas : PySem.W.codeIn K cd_list_roas "list_roas" = true) (k_list_roas : PySem.W.keepIn K (.ref f_list_roas) = true)
    {f_list_announcements : Addr} {od_list_announcements an_list_announcements : Option Addr} {sl_list_announcements : Array (Option Value)} {oc_list_announcements kV_list_announcements dc_list_announcements pm_list_announcements cd_list_announcements ct_list_announcements : Value}
    (a_list_announcements : PySem.W.nsIn K mainGlobals "list_announcements" = some (some (.ref f_list_announcements))) (l_list_announcements : K.lookup f_list_announcements = some ⟨oc_list_announcements, od_list_announcements, .func (PySem.W.fnOf "list_announcements" "list_announcements" (defArgs s_list_announcements) (defBody s_list_announcements) (defScope s_list_announcements) .none kV_list_announcements dc_list_announcements pm_list_announcements an_list_announcements cd_list_announcements ct_list_announcements), sl_list_announcements⟩) (c_list_announcements : PySem.W.codeIn K cd_list_announcements "list_announcements" = true) (k_list_announcements : PySem.W.keepIn K (.ref f_list_announcements) = true)
    {f_given_count : Addr} {od_given_count an_given_count : Option Addr} {sl_given_count : Array (Option Value)} {oc_given_count kV_given_count dc_given_count pm_given_count cd_given_count ct_given_count : Value}
    (a_given_count : PySem.W.nsIn K mainGlobals "given_count" = some (some (.ref f_given_count))) (l_given_count : K.lookup f_given_count = some ⟨oc_given_count, od_given_count, .func (PySem.W.fnOf "given_count" "given_count" (defArgs s_given_count) (defBody s_given_count) (defScope s_given_count) .none kV_given_count dc_given_count pm_given_count an_given_count cd_given_count ct_given_count), sl_given_count⟩) (c_given_count : PySem.W.codeIn K cd_given_count "given_count" = true) (k_given_count : PySem.W.keepIn K (.ref f_given_count) = true)
    {f_perform : Addr} {od_perform an_perform : Option Addr} {sl_perform : Array (Option Value)} {oc_perform kV_perform dc_perform pm_perform cd_perform ct_perform : Value}
    (a_perform : PySem.W.nsIn K mainGlobals "perform" = some (some (.ref f_perform))) (l_perform : K.lookup f_perform = some ⟨oc_perform, od_perform, .func (PySem.W.fnOf "perform" "perform" (defArgs s_perform) (defBody s_perform) (defScope s_perform) .none kV_perform dc_perform pm_perform an_perform cd_perform ct_perform), sl_perform⟩) (c_perform : PySem.W.codeIn K cd_perform "perform" = true) (k_perform : PySem.W.keepIn K (.ref f_perform) = true)
    {f_R_init : Addr} {od_R_init an_R_init : Option Addr} {sl_R_init : Array (Option Value)} {oc_R_init kV_R_init dc_R_init pm_R_init cd_R_init ct_R_init : Value}
    (a_R_init : PySem.W.findIn K (.ref RC) "__init__" = some (some (.ref f_R_init))) (i_R_init : PySem.W.isFn K (.ref f_R_init) = true) (l_R_init : K.lookup f_R_init = some ⟨oc_R_init, od_R_init, .func (PySem.W.fnOf "__init__" "Registry.__init__" (defArgs s_R_init) (defBody s_R_init) (defScope s_R_init) .none kV_R_init dc_R_init pm_R_init an_R_init cd_R_init ct_R_init), sl_R_init⟩) (c_R_init : PySem.W.codeIn K cd_R_init "Registry.__init__" = true) (k_R_init : PySem.W.keepIn K (.ref f_R_init) = true)
    {f_R_accepted : Addr} {od_R_accepted an_R_accepted : Option Addr} {sl_R_accepted : Array (Option Value)} {oc_R_accepted kV_R_accepted dc_R_accepted pm_R_accepted cd_R_accepted ct_R_accepted : Value}
    (a_R_accepted : PySem.W.findIn K (.ref RC) "accepted" = some (some (.ref f_R_accepted))) (i_R_accepted : PySem.W.isFn K (.ref f_R_accepted) = true) (l_R_accepted : K.lookup f_R_accepted = some ⟨oc_R_accepted, od_R_accepted, .func (PySem.W.fnOf "accepted" "Registry.accepted" (defArgs s_R_accepted) (defBody s_R_accepted) (defScope s_R_accepted) .none kV_R_accepted dc_R_accepted pm_R_accepted an_R_accepted cd_R_accepted ct_R_accepted), sl_R_accepted⟩) (c_R_accepted : PySem.W.codeIn K cd_R_accepted "Registry.accepted" = true) (k_R_accepted : PySem.W.keepIn K (.ref f_R_accepted) = true)
    {f_R_dropped : Addr} {od_R_dropped an_R_dropped : Option Addr} {sl_R_dropped : Array (Option Value)} {oc_R_dropped kV_R_dropped dc_R_dropped pm_R_dropped cd_R_dropped ct_R_dropped : Value}
    (a_R_dropped : PySem.W.findIn K (.ref RC) "dropped" = some (some (.ref f_R_dropped))) (i_R_dropped : PySem.W.isFn K (.ref f_R_dropped) = true) (l_R_dropped : K.lookup f_R_dropped = some ⟨oc_R_dropped, od_R_dropped, .func (PySem.W.fnOf "dropped" "Registry.dropped" (defArgs s_R_dropped) (defBody s_R_dropped) (defScope s_R_dropped) .none kV_R_dropped dc_R_dropped pm_R_dropped an_R_dropped cd_R_dropped ct_R_dropped), sl_R_dropped⟩) (c_R_dropped : PySem.W.codeIn K cd_R_dropped "Registry.dropped" = true) (k_R_dropped : PySem.W.keepIn K (.ref f_R_dropped) = true)
    {f_R_destinations : Addr} {od_R_destinations an_R_destinations : Option Addr} {sl_R_destinations : Array (Option Value)} {oc_R_destinations kV_R_destinations dc_R_destinations pm_R_destinations cd_R_destinations ct_R_destinations : Value}
    (a_R_destinations : PySem.W.findIn K (.ref RC) "destinations" = some (some (.ref f_R_destinations))) (i_R_destinations : PySem.W.isFn K (.ref f_R_destinations) = true) (l_R_destinations : K.lookup f_R_destinations = some ⟨oc_R_destinations, od_R_destinations, .func (PySem.W.fnOf "destinations" "Registry.destinations" (defArgs s_R_destinations) (defBody s_R_destinations) (defScope s_R_destinations) .none kV_R_destinations dc_R_destinations pm_R_destinations an_R_destinations cd_R_destinations ct_R_destinations), sl_R_destinations⟩) (c_R_destinations : PySem.W.codeIn K cd_R_destinations "Registry.destinations" = true) (k_R_destinations : PySem.W.keepIn K (.ref f_R_destinations) = true)
    {f_R_with_roas : Addr} {od_R_with_roas an_R_with_roas : Option Addr} {sl_R_with_roas : Array (Option Value)} {oc_R_with_roas kV_R_with_roas dc_R_with_roas pm_R_with_roas cd_R_with_roas ct_R_with_roas : Value}
    (a_R_with_roas : PySem.W.findIn K (.ref RC) "with_roas" = some (some (.ref f_R_with_roas))) (i_R_with_roas : PySem.W.isFn K (.ref f_R_with_roas) = true) (l_R_with_roas : K.lookup f_R_with_roas = some ⟨oc_R_with_roas, od_R_with_roas, .func (PySem.W.fnOf "with_roas" "Registry.with_roas" (defArgs s_R_with_roas) (defBody s_R_with_roas) (defScope s_R_with_roas) .none kV_R_with_roas dc_R_with_roas pm_R_with_roas an_R_with_roas cd_R_with_roas ct_R_with_roas), sl_R_with_roas⟩) (c_R_with_roas : PySem.W.codeIn K cd_R_with_roas "Registry.with_roas" = true) (k_R_with_roas : PySem.W.keepIn K (.ref f_R_with_roas) = true)
    {f_R_with_announcements : Addr} {od_R_with_announcements an_R_with_announcements : Option Addr} {sl_R_with_announcements : Array (Option Value)} {oc_R_with_announcements kV_R_with_announcements dc_R_with_announcements pm_R_with_announcements cd_R_with_announcements ct_R_with_announcements : Value}
    (a_R_with_announcements : PySem.W.findIn K (.ref RC) "with_announcements" = some (some (.ref f_R_with_announcements))) (i_R_with_announcements : PySem.W.isFn K (.ref f_R_with_announcements) = true) (l_R_with_announcements : K.lookup f_R_with_announcements = some ⟨oc_R_with_announcements, od_R_with_announcements, .func (PySem.W.fnOf "with_announcements" "Registry.with_announcements" (defArgs s_R_with_announcements) (defBody s_R_with_announcements) (defScope s_R_with_announcements) .none kV_R_with_announcements dc_R_with_announcements pm_R_with_announcements an_R_with_announcements cd_R_with_announcements ct_R_with_announcements), sl_R_with_announcements⟩) (c_R_with_announcements : PySem.W.codeIn K cd_R_with_announcements "Registry.with_announcements" = true) (k_R_with_announcements : PySem.W.keepIn K (.ref f_R_with_announcements) = true)
    {f_R_with_strict : Addr} {od_R_with_strict an_R_with_strict : Option Addr} {sl_R_with_strict : Array (Option Value)} {oc_R_with_strict kV_R_with_strict dc_R_with_strict pm_R_with_strict cd_R_with_strict ct_R_with_strict : Value}
    (a_R_with_strict : PySem.W.findIn K (.ref RC) "with_strict" = some (some (.ref f_R_with_strict))) (i_R_with_strict : PySem.W.isFn K (.ref f_R_with_strict) = true) (l_R_with_strict : K.lookup f_R_with_strict = some ⟨oc_R_with_strict, od_R_with_strict, .func (PySem.W.fnOf "with_strict" "Registry.with_strict" (defArgs s_R_with_strict) (defBody s_R_with_strict) (defScope s_R_with_strict) .none kV_R_with_strict dc_R_with_strict pm_R_with_strict an_R_with_strict cd_R_with_strict ct_R_with_strict), sl_R_with_strict⟩) (c_R_with_strict : PySem.W.codeIn K cd_R_with_strict "Registry.with_strict" = true) (k_R_with_strict : PySem.W.keepIn K (.ref f_R_with_strict) = true)
    {f_R_moved_by : Addr} {od_R_moved_by an_R_moved_by : Option Addr} {sl_R_moved_by : Array (Option Value)} {oc_R_moved_by kV_R_moved_by dc_R_moved_by pm_R_moved_by cd_R_moved_by ct_R_moved_by : Value}
    (a_R_moved_by : PySem.W.findIn K (.ref RC) "moved_by" = some (some (.ref f_R_moved_by))) (i_R_moved_by : PySem.W.isFn K (.ref f_R_moved_by) = true) (l_R_moved_by : K.lookup f_R_moved_by = some ⟨oc_R_moved_by, od_R_moved_by, .func (PySem.W.fnOf "moved_by" "Registry.moved_by" (defArgs s_R_moved_by) (defBody s_R_moved_by) (defScope s_R_moved_by) .none kV_R_moved_by dc_R_moved_by pm_R_moved_by an_R_moved_by cd_R_moved_by ct_R_moved_by), sl_R_moved_by⟩) (c_R_moved_by : PySem.W.codeIn K cd_R_moved_by "Registry.moved_by" = true) (k_R_moved_by : PySem.W.keepIn K (.ref f_R_moved_by) = true)
    {f_R_change_to : Addr} {od_R_change_to an_R_change_to : Option Addr} {sl_R_change_to : Array (Option Value)} {oc_R_change_to kV_R_change_to dc_R_change_to pm_R_change_to cd_R_change_to ct_R_change_to : Value}
    (a_R_change_to : PySem.W.findIn K (.ref RC) "change_to" = some (some (.ref f_R_change_to))) (i_R_change_to : PySem.W.isFn K (.ref f_R_change_to) = true) (l_R_change_to : K.lookup f_R_change_to = some ⟨oc_R_change_to, od_R_change_to, .func (PySem.W.fnOf "change_to" "Registry.change_to" (defArgs s_R_change_to) (defBody s_R_change_to) (defScope s_R_change_to) .none kV_R_change_to dc_R_change_to pm_R_change_to an_R_change_to cd_R_change_to ct_R_change_to), sl_R_change_to⟩) (c_R_change_to : PySem.W.codeIn K cd_R_change_to "Registry.change_to" = true) (k_R_change_to : PySem.W.keepIn K (.ref f_R_change_to) = true)
    {f_answers : Addr} {od_answers an_answers : Option Addr} {sl_answers : Array (Option Value)} {oc_answers kV_answers dc_answers pm_answers cd_answers ct_answers : Value}
    (a_answers : PySem.W.nsIn K mainGlobals "answers" = some (some (.ref f_answers))) (l_answers : K.lookup f_answers = some ⟨oc_answers, od_answers, .func (PySem.W.fnOf "answers" "answers" (defArgs s_answers) (defBody s_answers) (defScope s_answers) .none kV_answers dc_answers pm_answers an_answers cd_answers ct_answers), sl_answers⟩) (c_answers : PySem.W.codeIn K cd_answers "answers" = true) (k_answers : PySem.W.keepIn K (.ref f_answers) = true)
    {t_ADDRESS : Tok} (q_ADDRESS : PySem.W.nsIn K mainGlobals "ADDRESS" = some (some (.int (0) t_ADDRESS)))
    {t_LENGTH : Tok} (q_LENGTH : PySem.W.nsIn K mainGlobals "LENGTH" = some (some (.int (1) t_LENGTH)))
    {t_MAX_LENGTH : Tok} (q_MAX_LENGTH : PySem.W.nsIn K mainGlobals "MAX_LENGTH" = some (some (.int (2) t_MAX_LENGTH)))
    {t_ANNOUNCER : Tok} (q_ANNOUNCER : PySem.W.nsIn K mainGlobals "ANNOUNCER" = some (some (.int (2) t_ANNOUNCER)))
    {t_ORIGIN : Tok} (q_ORIGIN : PySem.W.nsIn K mainGlobals "ORIGIN" = some (some (.int (3) t_ORIGIN)))
    {t_ADDRESS_COUNT : Tok} (q_ADDRESS_COUNT : PySem.W.nsIn K mainGlobals "ADDRESS_COUNT" = some (some (.int (64) t_ADDRESS_COUNT)))
    {t_LONGEST : Tok} (q_LONGEST : PySem.W.nsIn K mainGlobals "LONGEST" = some (some (.int (6) t_LONGEST)))
    {t_MEMBER_COUNT : Tok} (q_MEMBER_COUNT : PySem.W.nsIn K mainGlobals "MEMBER_COUNT" = some (some (.int (8) t_MEMBER_COUNT)))
    {t_ROA_LIMIT : Tok} (q_ROA_LIMIT : PySem.W.nsIn K mainGlobals "ROA_LIMIT" = some (some (.int (12) t_ROA_LIMIT)))
    {t_ANNOUNCEMENT_LIMIT : Tok} (q_ANNOUNCEMENT_LIMIT : PySem.W.nsIn K mainGlobals "ANNOUNCEMENT_LIMIT" = some (some (.int (16) t_ANNOUNCEMENT_LIMIT)))
    {t_NOT_FOUND : Tok} (q_NOT_FOUND : PySem.W.nsIn K mainGlobals "NOT_FOUND" = some (some (.int (0) t_NOT_FOUND)))
    {t_VALID : Tok} (q_VALID : PySem.W.nsIn K mainGlobals "VALID" = some (some (.int (1) t_VALID)))
    {t_INVALID : Tok} (q_INVALID : PySem.W.nsIn K mainGlobals "INVALID" = some (some (.int (2) t_INVALID)))
    {t_NO_REGISTRY : Tok} (q_NO_REGISTRY : PySem.W.nsIn K mainGlobals "NO_REGISTRY" = some (some (.int (-11) t_NO_REGISTRY)))
    {t_NOT_THERE : Tok} (q_NOT_THERE : PySem.W.nsIn K mainGlobals "NOT_THERE" = some (some (.int (-2) t_NOT_THERE)))
    {t_NO_ANNOUNCEMENT : Tok} (q_NO_ANNOUNCEMENT : PySem.W.nsIn K mainGlobals "NO_ANNOUNCEMENT" = some (some (.int (-6) t_NO_ANNOUNCEMENT)))
    {t_EXISTS : Tok} (q_EXISTS : PySem.W.nsIn K mainGlobals "EXISTS" = some (some (.int (-17) t_EXISTS)))
    {t_BAD_ARGUMENT : Tok} (q_BAD_ARGUMENT : PySem.W.nsIn K mainGlobals "BAD_ARGUMENT" = some (some (.int (-22) t_BAD_ARGUMENT)))
    {t_LIMIT_REACHED : Tok} (q_LIMIT_REACHED : PySem.W.nsIn K mainGlobals "LIMIT_REACHED" = some (some (.int (-28) t_LIMIT_REACHED)))
    {t_NO_DESTINATION : Tok} (q_NO_DESTINATION : PySem.W.nsIn K mainGlobals "NO_DESTINATION" = some (some (.int (-33) t_NO_DESTINATION)))
    {t_RESET : Tok} (q_RESET : PySem.W.nsIn K mainGlobals "RESET" = some (some (.int (0) t_RESET)))
    {OP : Addr} {es_op : Array DictEntry} {n_op : Nat} (a_op : PySem.W.nsIn K mainGlobals "OPERATIONS" = some (some (.ref OP))) (l_op : K.lookup OP = some ⟨.type "dict", none, .dict es_op n_op, #[]⟩) (h_op : es_op.toList.all intKey = true)
    {p_1 : Addr} {dp_1 : Option Addr} {ip_1 : Array Value} {np_1 : Nat} {sp_1 : Array (Option Value)} (b_1 : findBy Value.isInt es_op 1 = some (.ref p_1)) (e_1 : K.lookup p_1 = some ⟨.type "tuple", dp_1, .seq ip_1 np_1, sp_1⟩) (v_1 : ip_1.toList.map absV = [some (.int 4), some (.ref f_add_roa)])
    {p_2 : Addr} {dp_2 : Option Addr} {ip_2 : Array Value} {np_2 : Nat} {sp_2 : Array (Option Value)} (b_2 : findBy Value.isInt es_op 2 = some (.ref p_2)) (e_2 : K.lookup p_2 = some ⟨.type "tuple", dp_2, .seq ip_2 np_2, sp_2⟩) (v_2 : ip_2.toList.map absV = [some (.int 1), some (.ref f_remove_roa)])
    {p_3 : Addr} {dp_3 : Option Addr} {ip_3 : Array Value} {np_3 : Nat} {sp_3 : Array (Option Value)} (b_3 : findBy Value.isInt es_op 3 = some (.ref p_3)) (e_3 : K.lookup p_3 = some ⟨.type "tuple", dp_3, .seq ip_3 np_3, sp_3⟩) (v_3 : ip_3.toList.map absV = [some (.int 4), some (.ref f_announce)])
    {p_4 : Addr} {dp_4 : Option Addr} {ip_4 : Array Value} {np_4 : Nat} {sp_4 : Array (Option Value)} (b_4 : findBy Value.isInt es_op 4 = some (.ref p_4)) (e_4 : K.lookup p_4 = some ⟨.type "tuple", dp_4, .seq ip_4 np_4, sp_4⟩) (v_4 : ip_4.toList.map absV = [some (.int 4), some (.ref f_withdraw)])
    {p_5 : Addr} {dp_5 : Option Addr} {ip_5 : Array Value} {np_5 : Nat} {sp_5 : Array (Option Value)} (b_5 : findBy Value.isInt es_op 5 = some (.ref p_5)) (e_5 : K.lookup p_5 = some ⟨.type "tuple", dp_5, .seq ip_5 np_5, sp_5⟩) (v_5 : ip_5.toList.map absV = [some (.int 1), some (.ref f_set_strict)])
    {p_6 : Addr} {dp_6 : Option Addr} {ip_6 : Array Value} {np_6 : Nat} {sp_6 : Array (Option Value)} (b_6 : findBy Value.isInt es_op 6 = some (.ref p_6)) (e_6 : K.lookup p_6 = some ⟨.type "tuple", dp_6, .seq ip_6 np_6, sp_6⟩) (v_6 : ip_6.toList.map absV = [some (.int 1), some (.ref f_tighten_roas)])
    {p_7 : Addr} {dp_7 : Option Addr} {ip_7 : Array Value} {np_7 : Nat} {sp_7 : Array (Option Value)} (b_7 : findBy Value.isInt es_op 7 = some (.ref p_7)) (e_7 : K.lookup p_7 = some ⟨.type "tuple", dp_7, .seq ip_7 np_7, sp_7⟩) (v_7 : ip_7.toList.map absV = [some (.int 3), some (.ref f_validity)])
    {p_8 : Addr} {dp_8 : Option Addr} {ip_8 : Array Value} {np_8 : Nat} {sp_8 : Array (Option Value)} (b_8 : findBy Value.isInt es_op 8 = some (.ref p_8)) (e_8 : K.lookup p_8 = some ⟨.type "tuple", dp_8, .seq ip_8 np_8, sp_8⟩) (v_8 : ip_8.toList.map absV = [some (.int 1), some (.ref f_destination)])
    {p_9 : Addr} {dp_9 : Option Addr} {ip_9 : Array Value} {np_9 : Nat} {sp_9 : Array (Option Value)} (b_9 : findBy Value.isInt es_op 9 = some (.ref p_9)) (e_9 : K.lookup p_9 = some ⟨.type "tuple", dp_9, .seq ip_9 np_9, sp_9⟩) (v_9 : ip_9.toList.map absV = [some (.int 1), some (.ref f_address_count)])
    {p_10 : Addr} {dp_10 : Option Addr} {ip_10 : Array Value} {np_10 : Nat} {sp_10 : Array (Option Value)} (b_10 : findBy Value.isInt es_op 10 = some (.ref p_10)) (e_10 : K.lookup p_10 = some ⟨.type "tuple", dp_10, .seq ip_10 np_10, sp_10⟩) (v_10 : ip_10.toList.map absV = [some (.int 1), some (.ref f_hijackers)])
    {p_11 : Addr} {dp_11 : Option Addr} {ip_11 : Array Value} {np_11 : Nat} {sp_11 : Array (Option Value)} (b_11 : findBy Value.isInt es_op 11 = some (.ref p_11)) (e_11 : K.lookup p_11 = some ⟨.type "tuple", dp_11, .seq ip_11 np_11, sp_11⟩) (v_11 : ip_11.toList.map absV = [some (.int 1), some (.ref f_vulnerable_addresses)])
    {p_12 : Addr} {dp_12 : Option Addr} {ip_12 : Array Value} {np_12 : Nat} {sp_12 : Array (Option Value)} (b_12 : findBy Value.isInt es_op 12 = some (.ref p_12)) (e_12 : K.lookup p_12 = some ⟨.type "tuple", dp_12, .seq ip_12 np_12, sp_12⟩) (v_12 : ip_12.toList.map absV = [some (.int 1), some (.ref f_preview_tighten)])
    {p_13 : Addr} {dp_13 : Option Addr} {ip_13 : Array Value} {np_13 : Nat} {sp_13 : Array (Option Value)} (b_13 : findBy Value.isInt es_op 13 = some (.ref p_13)) (e_13 : K.lookup p_13 = some ⟨.type "tuple", dp_13, .seq ip_13 np_13, sp_13⟩) (v_13 : ip_13.toList.map absV = [some (.int 4), some (.ref f_preview_announce)])
    {p_14 : Addr} {dp_14 : Option Addr} {ip_14 : Array Value} {np_14 : Nat} {sp_14 : Array (Option Value)} (b_14 : findBy Value.isInt es_op 14 = some (.ref p_14)) (e_14 : K.lookup p_14 = some ⟨.type "tuple", dp_14, .seq ip_14 np_14, sp_14⟩) (v_14 : ip_14.toList.map absV = [some (.int 0), some (.ref f_dropped_announcements)])
    {p_15 : Addr} {dp_15 : Option Addr} {ip_15 : Array Value} {np_15 : Nat} {sp_15 : Array (Option Value)} (b_15 : findBy Value.isInt es_op 15 = some (.ref p_15)) (e_15 : K.lookup p_15 = some ⟨.type "tuple", dp_15, .seq ip_15 np_15, sp_15⟩) (v_15 : ip_15.toList.map absV = [some (.int 1), some (.ref f_valid_prefix_count)])
    {p_16 : Addr} {dp_16 : Option Addr} {ip_16 : Array Value} {np_16 : Nat} {sp_16 : Array (Option Value)} (b_16 : findBy Value.isInt es_op 16 = some (.ref p_16)) (e_16 : K.lookup p_16 = some ⟨.type "tuple", dp_16, .seq ip_16 np_16, sp_16⟩) (v_16 : ip_16.toList.map absV = [some (.int 0), some (.ref f_list_roas)])
    {p_17 : Addr} {dp_17 : Option Addr} {ip_17 : Array Value} {np_17 : Nat} {sp_17 : Array (Option Value)} (b_17 : findBy Value.isInt es_op 17 = some (.ref p_17)) (e_17 : K.lookup p_17 = some ⟨.type "tuple", dp_17, .seq ip_17 np_17, sp_17⟩) (v_17 : ip_17.toList.map absV = [some (.int 0), some (.ref f_list_announcements)])
    (aRC : PySem.W.nsIn K mainGlobals "Registry" = some (some (.ref RC)))
    (pg : PySem.W.plainGet K RC Str.empty = true) (hd : PySem.W.hasDictIn K RC = true) (po : PySem.W.plainOver K RC = true) (sa : PySem.W.findIn K (.ref RC) "__setattr__" = some (some (.builtin "object.__setattr__"))) (mkRC : PySem.W.makesIn K RC = true) (kcRC : PySem.W.keepIn K (.ref RC) = true)
    (nR : PySem.W.findIn K (.ref RC) "roas" = some none) (nA : PySem.W.findIn K (.ref RC) "announcements" = some none) (nS : PySem.W.findIn K (.ref RC) "strict" = some none)
    {d_sz : Option Addr} {its_sz : Array Value} {n_sz : Nat} {sl_sz : Array (Option Value)}
    (aSZ : PySem.W.nsIn K mainGlobals "SIZES" = some (some (.ref SZ))) (lSZ : K.lookup SZ = some ⟨.type "tuple", d_sz, .seq its_sz n_sz, sl_sz⟩) (vSZ : its_sz.toList.map absV = [some (.int 64), some (.int 32), some (.int 16), some (.int 8), some (.int 4), some (.int 2), some (.int 1)])
    (zL : PySem.W.nsIn K mainGlobals "len" = some none) (zR : PySem.W.nsIn K mainGlobals "range" = some none) (zI : PySem.W.nsIn K mainGlobals "list" = some none) :
    ∃ fd : FuncData, (∀ (s : Shared) (us : List Value), us.length = (["calls"] : List Str).length → BindsTo s fd ⟨us, []⟩ ((["calls"] : List Str).zip us)) ∧ ∀ base : Heap, K.In base → base.Ns mainGlobals mg → FnOk P w K mg base CX0 13 fa fd ["calls"] (spAns K) := by
  have e := hfa.symm.trans (PySem.W.mg_of X G a_answers)
  cases e
  have cl : Cls K RC := ⟨pg, hd, po, sa⟩
  have T0 : RCls K RC := ⟨cl, nR, nA, nS⟩
  have C0 : Cons K mg SZ := ⟨⟨_, PySem.W.mg_of X G q_ADDRESS⟩, ⟨_, PySem.W.mg_of X G q_LENGTH⟩, ⟨_, PySem.W.mg_of X G q_MAX_LENGTH⟩, ⟨_, PySem.W.mg_of X G q_ANNOUNCER⟩, ⟨_, PySem.W.mg_of X G q_ORIGIN⟩, ⟨_, PySem.W.mg_of X G q_ADDRESS_COUNT⟩, ⟨_, PySem.W.mg_of X G q_LONGEST⟩, ⟨_, PySem.W.mg_of X G q_MEMBER_COUNT⟩, ⟨_, PySem.W.mg_of X G q_ROA_LIMIT⟩, ⟨_, PySem.W.mg_of X G q_ANNOUNCEMENT_LIMIT⟩, ⟨_, PySem.W.mg_of X G q_NO_REGISTRY⟩, ⟨_, PySem.W.mg_of X G q_NOT_THERE⟩, ⟨_, PySem.W.mg_of X G q_NO_ANNOUNCEMENT⟩, ⟨_, PySem.W.mg_of X G q_EXISTS⟩, ⟨_, PySem.W.mg_of X G q_BAD_ARGUMENT⟩, ⟨_, PySem.W.mg_of X G q_LIMIT_REACHED⟩, ⟨_, PySem.W.mg_of X G q_NO_DESTINATION⟩,
    ⟨_, PySem.W.mg_of X G q_NOT_FOUND⟩, ⟨_, PySem.W.mg_of X G q_VALID⟩, ⟨_, PySem.W.mg_of X G q_INVALID⟩, ⟨_, PySem.W.mg_of X G q_RESET⟩, PySem.W.mg_of X G aSZ, fun H => .inr ⟨_, its_sz, n_sz, lSZ, rfl, rfl, by rw [← Array.length_toList, ← List.length_map (f := absV), vSZ]; decide, vals_of _ _ vSZ⟩, PySem.W.mg_none_of X G zL, PySem.W.mg_none_of X G zR, PySem.W.mg_none_of X G zI⟩
  refine ⟨PySem.W.fnOf "answers" "answers" (defArgs s_answers) (defBody s_answers) (defScope s_answers) .none kV_answers dc_answers pm_answers an_answers cd_answers ct_answers, fun s us hu => match us, hu with | [_], _ => .of_eq rfl, fun base _ _ => ?_⟩
  have O1 := ok_is_member (P := P) (w := w) (base := base) (⟨_, _, (fun_mk (st := s_is_member) l_is_member c_is_member k_is_member), PySem.W.mg_of X G a_is_member, (fun_mk (st := s_is_member) l_is_member c_is_member k_is_member).binds (ps := P_is_member) (fun _ _ _ _ _ _ us hl => match us, hl with | [_], _ => rfl)⟩ : Def K mg "is_member" "is_member" s_is_member P_is_member) C0
  have O2 := ok_is_address (P := P) (w := w) (base := base) (⟨_, _, (fun_mk (st := s_is_address) l_is_address c_is_address k_is_address), PySem.W.mg_of X G a_is_address, (fun_mk (st := s_is_address) l_is_address c_is_address k_is_address).binds (ps := P_is_address) (fun _ _ _ _ _ _ us hl => match us, hl with | [_], _ => rfl)⟩ : Def K mg "is_address" "is_address" s_is_address P_is_address) C0
  have O3 := ok_is_prefix (⟨_, _, (fun_mk (st := s_is_prefix) l_is_prefix c_is_prefix k_is_prefix), PySem.W.mg_of X G a_is_prefix, (fun_mk (st := s_is_prefix) l_is_prefix c_is_prefix k_is_prefix).binds (ps := P_is_prefix) (fun _ _ _ _ _ _ us hl => match us, hl with | [_, _], _ => rfl)⟩ : Def K mg "is_prefix" "is_prefix" s_is_prefix P_is_prefix) C0 O2
  have O4 := ok_contains_address (P := P) (w := w) (base := base) (⟨_, _, (fun_mk (st := s_contains_address) l_contains_address c_contains_address k_contains_address), PySem.W.mg_of X G a_contains_address, (fun_mk (st := s_contains_address) l_contains_address c_contains_address k_contains_address).binds (ps := P_contains_address) (fun _ _ _ _ _ _ us hl => match us, hl with | [_, _, _], _ => rfl)⟩ : Def K mg "contains_address" "contains_address" s_contains_address P_contains_address) C0
  have O5 := ok_contains_prefix (⟨_, _, (fun_mk (st := s_contains_prefix) l_contains_prefix c_contains_prefix k_contains_prefix), PySem.W.mg_of X G a_contains_prefix, (fun_mk (st := s_contains_prefix) l_contains_prefix c_contains_prefix k_contains_prefix).binds (ps := P_contains_prefix) (fun _ _ _ _ _ _ us hl => match us, hl with | [_, _, _, _], _ => rfl)⟩ : Def K mg "contains_prefix" "contains_prefix" s_contains_prefix P_contains_prefix) O4
  have O6 := ok_is_roa (⟨_, _, (fun_mk (st := s_is_roa) l_is_roa c_is_roa k_is_roa), PySem.W.mg_of X G a_is_roa, (fun_mk (st := s_is_roa) l_is_roa c_is_roa k_is_roa).binds (ps := P_is_roa) (fun _ _ _ _ _ _ us hl => match us, hl with | [_, _, _], _ => rfl)⟩ : Def K mg "is_roa" "is_roa" s_is_roa P_is_roa) C0 O3
  have O7 := ok_prefix_start (P := P) (w := w) (base := base) (⟨_, _, (fun_mk (st := s_prefix_start) l_prefix_start c_prefix_start k_prefix_start), PySem.W.mg_of X G a_prefix_start, (fun_mk (st := s_prefix_start) l_prefix_start c_prefix_start k_prefix_start).binds (ps := P_prefix_start) (fun _ _ _ _ _ _ us hl => match us, hl with | [_, _], _ => rfl)⟩ : Def K mg "prefix_start" "prefix_start" s_prefix_start P_prefix_start) C0
  have O8 := ok_all_prefixes (P := P) (w := w) (base := base) (⟨_, _, (fun_mk (st := s_all_prefixes) l_all_prefixes c_all_prefixes k_all_prefixes), PySem.W.mg_of X G a_all_prefixes, (fun_mk (st := s_all_prefixes) l_all_prefixes c_all_prefixes k_all_prefixes).binds (ps := P_all_prefixes) (fun _ _ _ _ _ _ us hl => match us, hl with | [], _ => rfl)⟩ : Def K mg "all_prefixes" "all_prefixes" s_all_prefixes P_all_prefixes) C0
  have O9 := ok_covering_roas (⟨_, _, (fun_mk (st := s_covering_roas) l_covering_roas c_covering_roas k_covering_roas), PySem.W.mg_of X G a_covering_roas, (fun_mk (st := s_covering_roas) l_covering_roas c_covering_roas k_covering_roas).binds (ps := P_covering_roas) (fun _ _ _ _ _ _ us hl => match us, hl with | [_, _, _], _ => rfl)⟩ : Def K mg "covering_roas" "covering_roas" s_covering_roas P_covering_roas) C0 O5
  have O10 := ok_authorized_origins (P := P) (w := w) (base := base) (⟨_, _, (fun_mk (st := s_authorized_origins) l_authorized_origins c_authorized_origins k_authorized_origins), PySem.W.mg_of X G a_authorized_origins, (fun_mk (st := s_authorized_origins) l_authorized_origins c_authorized_origins k_authorized_origins).binds (ps := P_authorized_origins) (fun _ _ _ _ _ _ us hl => match us, hl with | [_, _], _ => rfl)⟩ : Def K mg "authorized_origins" "authorized_origins" s_authorized_origins P_authorized_origins) C0
  have O11 := ok_validity_code (⟨_, _, (fun_mk (st := s_validity_code) l_validity_code c_validity_code k_validity_code), PySem.W.mg_of X G a_validity_code, (fun_mk (st := s_validity_code) l_validity_code c_validity_code k_validity_code).binds (ps := P_validity_code) (fun _ _ _ _ _ _ us hl => match us, hl with | [_, _, _, _], _ => rfl)⟩ : Def K mg "validity_code" "validity_code" s_validity_code P_validity_code) C0 O9 O10
  have O12 := ok_valid_prefixes (⟨_, _, (fun_mk (st := s_valid_prefixes) l_valid_prefixes c_valid_prefixes k_valid_prefixes), PySem.W.mg_of X G a_valid_prefixes, (fun_mk (st := s_valid_prefixes) l_valid_prefixes c_valid_prefixes k_valid_prefixes).binds (ps := P_valid_prefixes) (fun _ _ _ _ _ _ us hl => match us, hl with | [_, _], _ => rfl)⟩ : Def K mg "valid_prefixes" "valid_prefixes" s_valid_prefixes P_valid_prefixes) C0 O8 O11
  have O13 := ok_tightened_roas (⟨_, _, (fun_mk (st := s_tightened_roas) l_tightened_roas c_tightened_roas k_tightened_roas), PySem.W.mg_of X G a_tightened_roas, (fun_mk (st := s_tightened_roas) l_tightened_roas c_tightened_roas k_tightened_roas).binds (ps := P_tightened_roas) (fun _ _ _ _ _ _ us hl => match us, hl with | [_, _, _], _ => rfl)⟩ : Def K mg "tightened_roas" "tightened_roas" s_tightened_roas P_tightened_roas) C0 O11
  have O14 := ok_accepted_origins (⟨_, _, (fun_mk (st := s_accepted_origins) l_accepted_origins c_accepted_origins k_accepted_origins), PySem.W.mg_of X G a_accepted_origins, (fun_mk (st := s_accepted_origins) l_accepted_origins c_accepted_origins k_accepted_origins).binds (ps := P_accepted_origins) (fun _ _ _ _ _ _ us hl => match us, hl with | [_, _, _, _], _ => rfl)⟩ : Def K mg "accepted_origins" "accepted_origins" s_accepted_origins P_accepted_origins) C0 O9 O10
  have O15 := ok_is_accepted (⟨_, _, (fun_mk (st := s_is_accepted) l_is_accepted c_is_accepted k_is_accepted), PySem.W.mg_of X G a_is_accepted, (fun_mk (st := s_is_accepted) l_is_accepted c_is_accepted k_is_accepted).binds (ps := P_is_accepted) (fun _ _ _ _ _ _ us hl => match us, hl with | [_, _, _], _ => rfl)⟩ : Def K mg "is_accepted" "is_accepted" s_is_accepted P_is_accepted) C0 O14
  have O16 := ok_is_own (P := P) (w := w) (base := base) (⟨_, _, (fun_mk (st := s_is_own) l_is_own c_is_own k_is_own), PySem.W.mg_of X G a_is_own, (fun_mk (st := s_is_own) l_is_own c_is_own k_is_own).binds (ps := P_is_own) (fun _ _ _ _ _ _ us hl => match us, hl with | [_], _ => rfl)⟩ : Def K mg "is_own" "is_own" s_is_own P_is_own) C0
  have O17 := ok_is_preferred (⟨_, _, (fun_mk (st := s_is_preferred) l_is_preferred c_is_preferred k_is_preferred), PySem.W.mg_of X G a_is_preferred, (fun_mk (st := s_is_preferred) l_is_preferred c_is_preferred k_is_preferred).binds (ps := P_is_preferred) (fun _ _ _ _ _ _ us hl => match us, hl with | [_, _], _ => rfl)⟩ : Def K mg "is_preferred" "is_preferred" s_is_preferred P_is_preferred) C0 O16
  have O18 := ok_replaces (⟨_, _, (fun_mk (st := s_replaces) l_replaces c_replaces k_replaces), PySem.W.mg_of X G a_replaces, (fun_mk (st := s_replaces) l_replaces c_replaces k_replaces).binds (ps := P_replaces) (fun _ _ _ _ _ _ us hl => match us, hl with | [_, _], _ => rfl)⟩ : Def K mg "replaces" "replaces" s_replaces P_replaces) O17
  have O19 := ok_selected_announcement (⟨_, _, (fun_mk (st := s_selected_announcement) l_selected_announcement c_selected_announcement k_selected_announcement), PySem.W.mg_of X G a_selected_announcement, (fun_mk (st := s_selected_announcement) l_selected_announcement c_selected_announcement k_selected_announcement).binds (ps := P_selected_announcement) (fun _ _ _ _ _ _ us hl => match us, hl with | [_, _], _ => rfl)⟩ : Def K mg "selected_announcement" "selected_announcement" s_selected_announcement P_selected_announcement) C0 O4 O18
  have O20 := ok_announcer_of (P := P) (w := w) (base := base) (⟨_, _, (fun_mk (st := s_announcer_of) l_announcer_of c_announcer_of k_announcer_of), PySem.W.mg_of X G a_announcer_of, (fun_mk (st := s_announcer_of) l_announcer_of c_announcer_of k_announcer_of).binds (ps := P_announcer_of) (fun _ _ _ _ _ _ us hl => match us, hl with | [_], _ => rfl)⟩ : Def K mg "announcer_of" "announcer_of" s_announcer_of P_announcer_of) C0
  have O21 := ok_destinations_by (⟨_, _, (fun_mk (st := s_destinations_by) l_destinations_by c_destinations_by k_destinations_by), PySem.W.mg_of X G a_destinations_by, (fun_mk (st := s_destinations_by) l_destinations_by c_destinations_by k_destinations_by).binds (ps := P_destinations_by) (fun _ _ _ _ _ _ us hl => match us, hl with | [_], _ => rfl)⟩ : Def K mg "destinations_by" "destinations_by" s_destinations_by P_destinations_by) C0 O19 O20
  have O22 := ok_moved_addresses (P := P) (w := w) (base := base) (⟨_, _, (fun_mk (st := s_moved_addresses) l_moved_addresses c_moved_addresses k_moved_addresses), PySem.W.mg_of X G a_moved_addresses, (fun_mk (st := s_moved_addresses) l_moved_addresses c_moved_addresses k_moved_addresses).binds (ps := P_moved_addresses) (fun _ _ _ _ _ _ us hl => match us, hl with | [_, _], _ => rfl)⟩ : Def K mg "moved_addresses" "moved_addresses" s_moved_addresses P_moved_addresses) C0
  have O23 := ok_all_fields (P := P) (w := w) (base := base) (⟨_, _, (fun_mk (st := s_all_fields) l_all_fields c_all_fields k_all_fields), PySem.W.mg_of X G a_all_fields, (fun_mk (st := s_all_fields) l_all_fields c_all_fields k_all_fields).binds (ps := P_all_fields) (fun _ _ _ _ _ _ us hl => match us, hl with | [_], _ => rfl)⟩ : Def K mg "all_fields" "all_fields" s_all_fields P_all_fields)
  have I0 := ok_R_init (P := P) (w := w) (base := base) (⟨_, _, (fun_mk (st := s_R_init) l_R_init c_R_init k_R_init), ⟨mkRC, a_R_init, i_R_init, kcRC⟩, PySem.W.mg_of X G aRC, (fun_mk (st := s_R_init) l_R_init c_R_init k_R_init).binds (ps := P_R_init) (fun _ _ _ _ _ _ us hl => match us, hl with | [_, _, _, _], _ => rfl)⟩ : IDef K mg RC "Registry" "Registry.__init__" s_R_init P_R_init) T0
  have M1 := ok_R_accepted (⟨cl, _, _, (fun_mk (st := s_R_accepted) l_R_accepted c_R_accepted k_R_accepted), ⟨a_R_accepted, i_R_accepted, k_R_accepted⟩, (fun_mk (st := s_R_accepted) l_R_accepted c_R_accepted k_R_accepted).binds (ps := P_R_accepted) (fun _ _ _ _ _ _ us hl => match us, hl with | [_], _ => rfl)⟩ : MDef K RC "accepted" "Registry.accepted" s_R_accepted P_R_accepted) T0 O15
  have M2 := ok_R_dropped (⟨cl, _, _, (fun_mk (st := s_R_dropped) l_R_dropped c_R_dropped k_R_dropped), ⟨a_R_dropped, i_R_dropped, k_R_dropped⟩, (fun_mk (st := s_R_dropped) l_R_dropped c_R_dropped k_R_dropped).binds (ps := P_R_dropped) (fun _ _ _ _ _ _ us hl => match us, hl with | [_], _ => rfl)⟩ : MDef K RC "dropped" "Registry.dropped" s_R_dropped P_R_dropped) T0 O15
  have M3 := ok_R_destinations (⟨cl, _, _, (fun_mk (st := s_R_destinations) l_R_destinations c_R_destinations k_R_destinations), ⟨a_R_destinations, i_R_destinations, k_R_destinations⟩, (fun_mk (st := s_R_destinations) l_R_destinations c_R_destinations k_R_destinations).binds (ps := P_R_destinations) (fun _ _ _ _ _ _ us hl => match us, hl with | [_], _ => rfl)⟩ : MDef K RC "destinations" "Registry.destinations" s_R_destinations P_R_destinations) T0 M1 O21
  have M4 := ok_R_moved_by (⟨cl, _, _, (fun_mk (st := s_R_moved_by) l_R_moved_by c_R_moved_by k_R_moved_by), ⟨a_R_moved_by, i_R_moved_by, k_R_moved_by⟩, (fun_mk (st := s_R_moved_by) l_R_moved_by c_R_moved_by k_R_moved_by).binds (ps := P_R_moved_by) (fun _ _ _ _ _ _ us hl => match us, hl with | [_, _], _ => rfl)⟩ : MDef K RC "moved_by" "Registry.moved_by" s_R_moved_by P_R_moved_by) T0 M3 O22
  have M5 := ok_R_change_to (⟨cl, _, _, (fun_mk (st := s_R_change_to) l_R_change_to c_R_change_to k_R_change_to), ⟨a_R_change_to, i_R_change_to, k_R_change_to⟩, (fun_mk (st := s_R_change_to) l_R_change_to c_R_change_to k_R_change_to).binds (ps := P_R_change_to) (fun _ _ _ _ _ _ us hl => match us, hl with | [_, _], _ => rfl)⟩ : MDef K RC "change_to" "Registry.change_to" s_R_change_to P_R_change_to) C0 T0 M4
  have M6 := ok_R_with_roas (⟨cl, _, _, (fun_mk (st := s_R_with_roas) l_R_with_roas c_R_with_roas k_R_with_roas), ⟨a_R_with_roas, i_R_with_roas, k_R_with_roas⟩, (fun_mk (st := s_R_with_roas) l_R_with_roas c_R_with_roas k_R_with_roas).binds (ps := P_R_with_roas) (fun _ _ _ _ _ _ us hl => match us, hl with | [_, _], _ => rfl)⟩ : MDef K RC "with_roas" "Registry.with_roas" s_R_with_roas P_R_with_roas) T0 I0
  have M7 := ok_R_with_announcements (⟨cl, _, _, (fun_mk (st := s_R_with_announcements) l_R_with_announcements c_R_with_announcements k_R_with_announcements), ⟨a_R_with_announcements, i_R_with_announcements, k_R_with_announcements⟩, (fun_mk (st := s_R_with_announcements) l_R_with_announcements c_R_with_announcements k_R_with_announcements).binds (ps := P_R_with_announcements) (fun _ _ _ _ _ _ us hl => match us, hl with | [_, _], _ => rfl)⟩ : MDef K RC "with_announcements" "Registry.with_announcements" s_R_with_announcements P_R_with_announcements) T0 I0
  have M8 := ok_R_with_strict (⟨cl, _, _, (fun_mk (st := s_R_with_strict) l_R_with_strict c_R_with_strict k_R_with_strict), ⟨a_R_with_strict, i_R_with_strict, k_R_with_strict⟩, (fun_mk (st := s_R_with_strict) l_R_with_strict c_R_with_strict k_R_with_strict).binds (ps := P_R_with_strict) (fun _ _ _ _ _ _ us hl => match us, hl with | [_, _], _ => rfl)⟩ : MDef K RC "with_strict" "Registry.with_strict" s_R_with_strict P_R_with_strict) T0 I0
  have J1 := ok_possible_announcements (⟨_, _, (fun_mk (st := s_possible_announcements) l_possible_announcements c_possible_announcements k_possible_announcements), PySem.W.mg_of X G a_possible_announcements, (fun_mk (st := s_possible_announcements) l_possible_announcements c_possible_announcements k_possible_announcements).binds (ps := P_possible_announcements) (fun _ _ _ _ _ _ us hl => match us, hl with | [_, _, _], _ => rfl)⟩ : Def K mg "possible_announcements" "possible_announcements" s_possible_announcements P_possible_announcements) C0 T0 O7 O14
  have J2 := ok_can_attract (⟨_, _, (fun_mk (st := s_can_attract) l_can_attract c_can_attract k_can_attract), PySem.W.mg_of X G a_can_attract, (fun_mk (st := s_can_attract) l_can_attract c_can_attract k_can_attract).binds (ps := P_can_attract) (fun _ _ _ _ _ _ us hl => match us, hl with | [_, _, _], _ => rfl)⟩ : Def K mg "can_attract" "can_attract" s_can_attract P_can_attract) C0 O18
  have J3 := ok_hijacking_members (⟨_, _, (fun_mk (st := s_hijacking_members) l_hijacking_members c_hijacking_members k_hijacking_members), PySem.W.mg_of X G a_hijacking_members, (fun_mk (st := s_hijacking_members) l_hijacking_members c_hijacking_members k_hijacking_members).binds (ps := P_hijacking_members) (fun _ _ _ _ _ _ us hl => match us, hl with | [_, _, _], _ => rfl)⟩ : Def K mg "hijacking_members" "hijacking_members" s_hijacking_members P_hijacking_members) C0 J1 O20 J2
  have J4 := ok_vulnerable_of (⟨_, _, (fun_mk (st := s_vulnerable_of) l_vulnerable_of c_vulnerable_of k_vulnerable_of), PySem.W.mg_of X G a_vulnerable_of, (fun_mk (st := s_vulnerable_of) l_vulnerable_of c_vulnerable_of k_vulnerable_of).binds (ps := P_vulnerable_of) (fun _ _ _ _ _ _ us hl => match us, hl with | [_, _], _ => rfl)⟩ : Def K mg "vulnerable_of" "vulnerable_of" s_vulnerable_of P_vulnerable_of) C0 M1 O19 O20 J3
  have Q1 := ok_add_roa (⟨_, _, (fun_mk (st := s_add_roa) l_add_roa c_add_roa k_add_roa), PySem.W.mg_of X G a_add_roa, (fun_mk (st := s_add_roa) l_add_roa c_add_roa k_add_roa).binds (ps := P_add_roa) (fun _ _ _ _ _ _ us hl => match us, hl with | [_, _, _, _, _], _ => rfl)⟩ : Def K mg "add_roa" "add_roa" s_add_roa P_add_roa) C0 T0 O1 O6 M6 M5
  have Q2 := ok_remove_roa (⟨_, _, (fun_mk (st := s_remove_roa) l_remove_roa c_remove_roa k_remove_roa), PySem.W.mg_of X G a_remove_roa, (fun_mk (st := s_remove_roa) l_remove_roa c_remove_roa k_remove_roa).binds (ps := P_remove_roa) (fun _ _ _ _ _ _ us hl => match us, hl with | [_, _], _ => rfl)⟩ : Def K mg "remove_roa" "remove_roa" s_remove_roa P_remove_roa) C0 T0 M6 M5
  have Q3 := ok_announce (⟨_, _, (fun_mk (st := s_announce) l_announce c_announce k_announce), PySem.W.mg_of X G a_announce, (fun_mk (st := s_announce) l_announce c_announce k_announce).binds (ps := P_announce) (fun _ _ _ _ _ _ us hl => match us, hl with | [_, _, _, _, _], _ => rfl)⟩ : Def K mg "announce" "announce" s_announce P_announce) C0 T0 O1 O3 O11 M7 M5
  have Q4 := ok_withdraw (⟨_, _, (fun_mk (st := s_withdraw) l_withdraw c_withdraw k_withdraw), PySem.W.mg_of X G a_withdraw, (fun_mk (st := s_withdraw) l_withdraw c_withdraw k_withdraw).binds (ps := P_withdraw) (fun _ _ _ _ _ _ us hl => match us, hl with | [_, _, _, _, _], _ => rfl)⟩ : Def K mg "withdraw" "withdraw" s_withdraw P_withdraw) C0 T0 O1 M7 M5
  have Q5 := ok_set_strict (⟨_, _, (fun_mk (st := s_set_strict) l_set_strict c_set_strict k_set_strict), PySem.W.mg_of X G a_set_strict, (fun_mk (st := s_set_strict) l_set_strict c_set_strict k_set_strict).binds (ps := P_set_strict) (fun _ _ _ _ _ _ us hl => match us, hl with | [_, _], _ => rfl)⟩ : Def K mg "set_strict" "set_strict" s_set_strict P_set_strict) C0 T0 M8 M5
  have Q6 := ok_tighten_roas (⟨_, _, (fun_mk (st := s_tighten_roas) l_tighten_roas c_tighten_roas k_tighten_roas), PySem.W.mg_of X G a_tighten_roas, (fun_mk (st := s_tighten_roas) l_tighten_roas c_tighten_roas k_tighten_roas).binds (ps := P_tighten_roas) (fun _ _ _ _ _ _ us hl => match us, hl with | [_, _], _ => rfl)⟩ : Def K mg "tighten_roas" "tighten_roas" s_tighten_roas P_tighten_roas) C0 T0 O1 O13 M6 M5
  have Q7 := ok_validity (⟨_, _, (fun_mk (st := s_validity) l_validity c_validity k_validity), PySem.W.mg_of X G a_validity, (fun_mk (st := s_validity) l_validity c_validity k_validity).binds (ps := P_validity) (fun _ _ _ _ _ _ us hl => match us, hl with | [_, _, _, _], _ => rfl)⟩ : Def K mg "validity" "validity" s_validity P_validity) C0 T0 O1 O3 O11
  have Q8 := ok_destination (⟨_, _, (fun_mk (st := s_destination) l_destination c_destination k_destination), PySem.W.mg_of X G a_destination, (fun_mk (st := s_destination) l_destination c_destination k_destination).binds (ps := P_destination) (fun _ _ _ _ _ _ us hl => match us, hl with | [_, _], _ => rfl)⟩ : Def K mg "destination" "destination" s_destination P_destination) C0 T0 O2 O19 M1
  have Q9 := ok_address_count (⟨_, _, (fun_mk (st := s_address_count) l_address_count c_address_count k_address_count), PySem.W.mg_of X G a_address_count, (fun_mk (st := s_address_count) l_address_count c_address_count k_address_count).binds (ps := P_address_count) (fun _ _ _ _ _ _ us hl => match us, hl with | [_, _], _ => rfl)⟩ : Def K mg "address_count" "address_count" s_address_count P_address_count) C0 T0 O1 M3
  have Q10 := ok_hijackers (⟨_, _, (fun_mk (st := s_hijackers) l_hijackers c_hijackers k_hijackers), PySem.W.mg_of X G a_hijackers, (fun_mk (st := s_hijackers) l_hijackers c_hijackers k_hijackers).binds (ps := P_hijackers) (fun _ _ _ _ _ _ us hl => match us, hl with | [_, _], _ => rfl)⟩ : Def K mg "hijackers" "hijackers" s_hijackers P_hijackers) C0 T0 O2 O19 M1 J3
  have Q11 := ok_vulnerable_addresses (⟨_, _, (fun_mk (st := s_vulnerable_addresses) l_vulnerable_addresses c_vulnerable_addresses k_vulnerable_addresses), PySem.W.mg_of X G a_vulnerable_addresses, (fun_mk (st := s_vulnerable_addresses) l_vulnerable_addresses c_vulnerable_addresses k_vulnerable_addresses).binds (ps := P_vulnerable_addresses) (fun _ _ _ _ _ _ us hl => match us, hl with | [_, _], _ => rfl)⟩ : Def K mg "vulnerable_addresses" "vulnerable_addresses" s_vulnerable_addresses P_vulnerable_addresses) C0 T0 O1 J4
  have Q12 := ok_preview_tighten (⟨_, _, (fun_mk (st := s_preview_tighten) l_preview_tighten c_preview_tighten k_preview_tighten), PySem.W.mg_of X G a_preview_tighten, (fun_mk (st := s_preview_tighten) l_preview_tighten c_preview_tighten k_preview_tighten).binds (ps := P_preview_tighten) (fun _ _ _ _ _ _ us hl => match us, hl with | [_, _], _ => rfl)⟩ : Def K mg "preview_tighten" "preview_tighten" s_preview_tighten P_preview_tighten) C0 T0 O1 O13 M6 J4 M4
  have Q13 := ok_preview_announce (⟨_, _, (fun_mk (st := s_preview_announce) l_preview_announce c_preview_announce k_preview_announce), PySem.W.mg_of X G a_preview_announce, (fun_mk (st := s_preview_announce) l_preview_announce c_preview_announce k_preview_announce).binds (ps := P_preview_announce) (fun _ _ _ _ _ _ us hl => match us, hl with | [_, _, _, _, _], _ => rfl)⟩ : Def K mg "preview_announce" "preview_announce" s_preview_announce P_preview_announce) C0 T0 O1 O3 M7 M4
  have Q14 := ok_dropped_announcements (⟨_, _, (fun_mk (st := s_dropped_announcements) l_dropped_announcements c_dropped_announcements k_dropped_announcements), PySem.W.mg_of X G a_dropped_announcements, (fun_mk (st := s_dropped_announcements) l_dropped_announcements c_dropped_announcements k_dropped_announcements).binds (ps := P_dropped_announcements) (fun _ _ _ _ _ _ us hl => match us, hl with | [_], _ => rfl)⟩ : Def K mg "dropped_announcements" "dropped_announcements" s_dropped_announcements P_dropped_announcements) C0 T0 M2 O23
  have Q15 := ok_valid_prefix_count (⟨_, _, (fun_mk (st := s_valid_prefix_count) l_valid_prefix_count c_valid_prefix_count k_valid_prefix_count), PySem.W.mg_of X G a_valid_prefix_count, (fun_mk (st := s_valid_prefix_count) l_valid_prefix_count c_valid_prefix_count k_valid_prefix_count).binds (ps := P_valid_prefix_count) (fun _ _ _ _ _ _ us hl => match us, hl with | [_, _], _ => rfl)⟩ : Def K mg "valid_prefix_count" "valid_prefix_count" s_valid_prefix_count P_valid_prefix_count) C0 T0 O1 O12
  have Q16 := ok_list_roas (⟨_, _, (fun_mk (st := s_list_roas) l_list_roas c_list_roas k_list_roas), PySem.W.mg_of X G a_list_roas, (fun_mk (st := s_list_roas) l_list_roas c_list_roas k_list_roas).binds (ps := P_list_roas) (fun _ _ _ _ _ _ us hl => match us, hl with | [_], _ => rfl)⟩ : Def K mg "list_roas" "list_roas" s_list_roas P_list_roas) C0 T0 O23
  have Q17 := ok_list_announcements (⟨_, _, (fun_mk (st := s_list_announcements) l_list_announcements c_list_announcements k_list_announcements), PySem.W.mg_of X G a_list_announcements, (fun_mk (st := s_list_announcements) l_list_announcements c_list_announcements k_list_announcements).binds (ps := P_list_announcements) (fun _ _ _ _ _ _ us hl => match us, hl with | [_], _ => rfl)⟩ : Def K mg "list_announcements" "list_announcements" s_list_announcements P_list_announcements) C0 T0 O23
  have CO : Ops K mg OP tbl := ⟨PySem.W.mg_of X G a_op, fun i n x h => (show ∀ q ∈ tbl, ∃ t f, KIx K OP q.1 (.ref t) ∧ (∀ H, SqT K H t [.int (q.2.1 : Nat), .ref f]) ∧ mg q.2.2 = some (.ref f) from
      List.forall_mem_cons.mpr ⟨⟨p_1, f_add_roa, kix_of l_op h_op b_1, sqT_of e_1 v_1 (by show 2 ≤ sizeLine; decide), PySem.W.mg_of X G a_add_roa⟩,
      List.forall_mem_cons.mpr ⟨⟨p_2, f_remove_roa, kix_of l_op h_op b_2, sqT_of e_2 v_2 (by show 2 ≤ sizeLine; decide), PySem.W.mg_of X G a_remove_roa⟩,
      List.forall_mem_cons.mpr ⟨⟨p_3, f_announce, kix_of l_op h_op b_3, sqT_of e_3 v_3 (by show 2 ≤ sizeLine; decide), PySem.W.mg_of X G a_announce⟩,
      List.forall_mem_cons.mpr ⟨⟨p_4, f_withdraw, kix_of l_op h_op b_4, sqT_of e_4 v_4 (by show 2 ≤ sizeLine; decide), PySem.W.mg_of X G a_withdraw⟩,
      List.forall_mem_cons.mpr ⟨⟨p_5, f_set_strict, kix_of l_op h_op b_5, sqT_of e_5 v_5 (by show 2 ≤ sizeLine; decide), PySem.W.mg_of X G a_set_strict⟩,
      List.forall_mem_cons.mpr ⟨⟨p_6, f_tighten_roas, kix_of l_op h_op b_6, sqT_of e_6 v_6 (by show 2 ≤ sizeLine; decide), PySem.W.mg_of X G a_tighten_roas⟩,
      List.forall_mem_cons.mpr ⟨⟨p_7, f_validity, kix_of l_op h_op b_7, sqT_of e_7 v_7 (by show 2 ≤ sizeLine; decide), PySem.W.mg_of X G a_validity⟩,
      List.forall_mem_cons.mpr ⟨⟨p_8, f_destination, kix_of l_op h_op b_8, sqT_of e_8 v_8 (by show 2 ≤ sizeLine; decide), PySem.W.mg_of X G a_destination⟩,
      List.forall_mem_cons.mpr ⟨⟨p_9, f_address_count, kix_of l_op h_op b_9, sqT_of e_9 v_9 (by show 2 ≤ sizeLine; decide), PySem.W.mg_of X G a_address_count⟩,
      List.forall_mem_cons.mpr ⟨⟨p_10, f_hijackers, kix_of l_op h_op b_10, sqT_of e_10 v_10 (by show 2 ≤ sizeLine; decide), PySem.W.mg_of X G a_hijackers⟩,
      List.forall_mem_cons.mpr ⟨⟨p_11, f_vulnerable_addresses, kix_of l_op h_op b_11, sqT_of e_11 v_11 (by show 2 ≤ sizeLine; decide), PySem.W.mg_of X G a_vulnerable_addresses⟩,
      List.forall_mem_cons.mpr ⟨⟨p_12, f_preview_tighten, kix_of l_op h_op b_12, sqT_of e_12 v_12 (by show 2 ≤ sizeLine; decide), PySem.W.mg_of X G a_preview_tighten⟩,
      List.forall_mem_cons.mpr ⟨⟨p_13, f_preview_announce, kix_of l_op h_op b_13, sqT_of e_13 v_13 (by show 2 ≤ sizeLine; decide), PySem.W.mg_of X G a_preview_announce⟩,
      List.forall_mem_cons.mpr ⟨⟨p_14, f_dropped_announcements, kix_of l_op h_op b_14, sqT_of e_14 v_14 (by show 2 ≤ sizeLine; decide), PySem.W.mg_of X G a_dropped_announcements⟩,
      List.forall_mem_cons.mpr ⟨⟨p_15, f_valid_prefix_count, kix_of l_op h_op b_15, sqT_of e_15 v_15 (by show 2 ≤ sizeLine; decide), PySem.W.mg_of X G a_valid_prefix_count⟩,
      List.forall_mem_cons.mpr ⟨⟨p_16, f_list_roas, kix_of l_op h_op b_16, sqT_of e_16 v_16 (by show 2 ≤ sizeLine; decide), PySem.W.mg_of X G a_list_roas⟩,
      List.forall_mem_cons.mpr ⟨⟨p_17, f_list_announcements, kix_of l_op h_op b_17, sqT_of e_17 v_17 (by show 2 ≤ sizeLine; decide), PySem.W.mg_of X G a_list_announcements⟩,
      List.forall_mem_nil _⟩⟩⟩⟩⟩⟩⟩⟩⟩⟩⟩⟩⟩⟩⟩⟩⟩) (i, n, x) h⟩
  have R1 := ok_given_count (P := P) (w := w) (base := base) (⟨_, _, (fun_mk (st := s_given_count) l_given_count c_given_count k_given_count), PySem.W.mg_of X G a_given_count, (fun_mk (st := s_given_count) l_given_count c_given_count k_given_count).binds (ps := P_given_count) (fun _ _ _ _ _ _ us hl => match us, hl with | [_], _ => rfl)⟩ : Def K mg "given_count" "given_count" s_given_count P_given_count) CO tbl_ok
  have rows : ∀ q ∈ tbl, OpRow P w K mg base RC 11 q.1 q.2.2 := List.forall_mem_cons.mpr ⟨row4 (Q1.mono (by decide)) call_1,
      List.forall_mem_cons.mpr ⟨row1 (Q2.mono (by decide)) call_2,
      List.forall_mem_cons.mpr ⟨row4 (Q3.mono (by decide)) call_3,
      List.forall_mem_cons.mpr ⟨row4 (Q4.mono (by decide)) call_4,
      List.forall_mem_cons.mpr ⟨row1 (Q5.mono (by decide)) call_5,
      List.forall_mem_cons.mpr ⟨row1 (Q6.mono (by decide)) call_6,
      List.forall_mem_cons.mpr ⟨row3 (Q7.mono (by decide)) call_7,
      List.forall_mem_cons.mpr ⟨row1 (Q8.mono (by decide)) call_8,
      List.forall_mem_cons.mpr ⟨row1 (Q9.mono (by decide)) call_9,
      List.forall_mem_cons.mpr ⟨row1 (Q10.mono (by decide)) call_10,
      List.forall_mem_cons.mpr ⟨row1 (Q11.mono (by decide)) call_11,
      List.forall_mem_cons.mpr ⟨row1 (Q12.mono (by decide)) call_12,
      List.forall_mem_cons.mpr ⟨row4 (Q13.mono (by decide)) call_13,
      List.forall_mem_cons.mpr ⟨row0 (Q14.mono (by decide)) call_14,
      List.forall_mem_cons.mpr ⟨row1 (Q15.mono (by decide)) call_15,
      List.forall_mem_cons.mpr ⟨row0 (Q16.mono (by decide)) call_16,
      List.forall_mem_cons.mpr ⟨row0 (Q17.mono (by decide)) call_17,
      List.forall_mem_nil _⟩⟩⟩⟩⟩⟩⟩⟩⟩⟩⟩⟩⟩⟩⟩⟩⟩
  have R2 := ok_perform (P := P) (w := w) (base := base) (RC := RC) (⟨_, _, (fun_mk (st := s_perform) l_perform c_perform k_perform), PySem.W.mg_of X G a_perform, (fun_mk (st := s_perform) l_perform c_perform k_perform).binds (ps := P_perform) (fun _ _ _ _ _ _ us hl => match us, hl with | [_, _, _], _ => rfl)⟩ : Def K mg "perform" "perform" s_perform P_perform) C0 CO tbl_ok fun p n x h => rows (p, n, x) h
  exact ok_answers (fun_mk (st := s_answers) l_answers c_answers k_answers) C0 I0 R1 R2
end My
open PySem PySem.W PyProof.Rows
set_option maxRecDepth 100000 in
set_option maxHeartbeats 8000000 in
theorem PySem.Challenge.cw_originways_s01_answers_holds : PySem.Challenge.rw_originways_s01_answers.Holds := by
  w_on; k_headS; (case hw => exact ⟨[.list [.int 0]], by decide +kernel, by decide +kernel⟩)
  k_fillS
  refine L2.walk_specK (r := PySem.Challenge.rw_originways_s01_answers) (k := 13) (CX := L2.CX0) (ps := ["calls"]) (sp := My.spAns) (by decide +kernel) rfl rfl ⟨rfl, by decide, by decide⟩ (fun w h Y => PySem.W.kIn_of Y) ?F ?S (fun _ _ _ _ z => z)
  case F =>
    intro w mg fa h Y KX G hmg
    refine' My.all_mk KX G hmg ?a_all_fields ?l_all_fields ?c_all_fields ?k_all_fields ?a_is_member ?l_is_member ?c_is_member ?k_is_member ?a_is_address ?l_is_address ?c_is_address ?k_is_address ?a_is_prefix ?l_is_prefix ?c_is_prefix ?k_is_prefix ?a_prefix_start ?l_prefix_start ?c_prefix_start ?k_prefix_start ?a_all_prefixes ?l_all_prefixes ?c_all_prefixes ?k_all_prefixes ?a_contains_address ?l_contains_address ?c_contains_address ?k_contains_address ?a_contains_prefix ?l_contains_prefix ?c_contains_prefix ?k_contains_prefix ?a_is_roa ?l_is_roa ?c_is_roa ?k_is_roa ?a_covering_roas ?l_covering_roas ?c_covering_roas ?k_covering_roas ?a_authorized_origins ?l_authorized_origins ?c_authorized_origins ?k_authorized_origins ?a_validity_code ?l_validity_code ?c_validity_code ?k_validity_code ?a_valid_prefixes ?l_valid_prefixes ?c_valid_prefixes ?k_valid_prefixes ?a_tightened_roas ?l_tightened_roas ?c_tightened_roas ?k_tightened_roas ?a_accepted_origins ?l_accepted_origins ?c_accepted_origins ?k_accepted_origins ?a_is_accepted ?l_is_accepted ?c_is_accepted ?k_is_accepted ?a_is_own ?l_is_own ?c_is_own ?k_is_own ?a_is_preferred ?l_is_preferred ?c_is_preferred ?k_is_preferred ?a_replaces ?l_replaces ?c_replaces ?k_replaces ?a_selected_announcement ?l_selected_announcement ?c_selected_announcement ?k_selected_announcement ?a_announcer_of ?l_announcer_of ?c_announcer_of ?k_announcer_of ?a_destinations_by ?l_destinations_by ?c_destinations_by ?k_destinations_by ?a_moved_addresses ?l_moved_addresses ?c_moved_addresses ?k_moved_addresses ?a_possible_announcements ?l_possible_announcements ?c_possible_announcements ?k_possible_announcements ?a_can_attract ?l_can_attract ?c_can_attract ?k_can_attract ?a_hijacking_members ?l_hijacking_members ?c_hijacking_members ?k_hijacking_members ?a_vulnerable_of ?l_vulnerable_of ?c_vulnerable_of ?k_vulnerable_of ?a_add_roa ?l_add_roa ?c_add_roa ?k_add_roa ?a_remove_roa ?l_remove_roa ?c_remove_roa ?k_remove_roa ?a_announce ?l_announce ?c_announce ?k_announce ?a_withdraw ?l_withdraw ?c_withdraw ?k_withdraw ?a_set_strict ?l_set_strict ?c_set_strict ?k_set_strict ?a_tighten_roas ?l_tighten_roas ?c_tighten_roas ?k_tighten_roas ?a_validity ?l_validity ?c_validity ?k_validity ?a_destination ?l_destination ?c_destination ?k_destination ?a_address_count ?l_address_count ?c_address_count ?k_address_count ?a_hijackers ?l_hijackers ?c_hijackers ?k_hijackers ?a_vulnerable_addresses ?l_vulnerable_addresses ?c_vulnerable_addresses ?k_vulnerable_addresses ?a_preview_tighten ?l_preview_tighten ?c_preview_tighten ?k_preview_tighten ?a_preview_announce ?l_preview_announce ?c_preview_announce ?k_preview_announce ?a_dropped_announcements ?l_dropped_announcements ?c_dropped_announcements ?k_dropped_announcements ?a_valid_prefix_count ?l_valid_prefix_count ?c_valid_prefix_count ?k_valid_prefix_count ?a_list_roas ?l_list_roas ?c_list_roas ?k_list_roas ?a_list_announcements ?l_list_announcements ?c_list_announcements ?k_list_announcements ?a_given_count ?l_given_count ?c_given_count ?k_given_count ?a_perform ?l_perform ?c_perform ?k_perform ?a_R_init ?i_R_init ?l_R_init ?c_R_init ?k_R_init ?a_R_accepted ?i_R_accepted ?l_R_accepted ?c_R_accepted ?k_R_accepted ?a_R_dropped ?i_R_dropped ?l_R_dropped ?c_R_dropped ?k_R_dropped ?a_R_destinations ?i_R_destinations ?l_R_destinations ?c_R_destinations ?k_R_destinations ?a_R_with_roas ?i_R_with_roas ?l_R_with_roas ?c_R_with_roas ?k_R_with_roas ?a_R_with_announcements ?i_R_with_announcements ?l_R_with_announcements ?c_R_with_announcements ?k_R_with_announcements ?a_R_with_strict ?i_R_with_strict ?l_R_with_strict ?c_R_with_strict ?k_R_with_strict ?a_R_moved_by ?i_R_moved_by ?l_R_moved_by ?c_R_moved_by ?k_R_moved_by ?a_R_change_to ?i_R_change_to ?l_R_change_to ?c_R_change_to ?k_R_change_to ?a_answers ?l_answers ?c_answers ?k_answers ?q_ADDRESS ?q_LENGTH ?q_MAX_LENGTH ?q_ANNOUNCER ?q_ORIGIN ?q_ADDRESS_COUNT ?q_LONGEST ?q_MEMBER_COUNT ?q_ROA_LIMIT ?q_ANNOUNCEMENT_LIMIT ?q_NOT_FOUND ?q_VALID ?q_INVALID ?q_NO_REGISTRY ?q_NOT_THERE ?q_NO_ANNOUNCEMENT ?q_EXISTS ?q_BAD_ARGUMENT ?q_LIMIT_REACHED ?q_NO_DESTINATION ?q_RESET ?a_op ?l_op ?h_op ?b_1 ?e_1 ?v_1 ?b_2 ?e_2 ?v_2 ?b_3 ?e_3 ?v_3 ?b_4 ?e_4 ?v_4 ?b_5 ?e_5 ?v_5 ?b_6 ?e_6 ?v_6 ?b_7 ?e_7 ?v_7 ?b_8 ?e_8 ?v_8 ?b_9 ?e_9 ?v_9 ?b_10 ?e_10 ?v_10 ?b_11 ?e_11 ?v_11 ?b_12 ?e_12 ?v_12 ?b_13 ?e_13 ?v_13 ?b_14 ?e_14 ?v_14 ?b_15 ?e_15 ?v_15 ?b_16 ?e_16 ?v_16 ?b_17 ?e_17 ?v_17 ?aRC ?pg ?hd ?po ?sa ?mkRC ?kcRC ?nR ?nA ?nS ?aSZ ?lSZ ?vSZ ?zL ?zR ?zI
    (case aRC => k_is); (case aSZ => k_is)
    (case a_all_fields => k_is)
    (case l_all_fields => k_is)
    (case c_all_fields => k_is)
    (case k_all_fields => k_is)
    (case a_is_member => k_is)
    (case l_is_member => k_is)
    (case c_is_member => k_is)
    (case k_is_member => k_is)
    (case a_is_address => k_is)
    (case l_is_address => k_is)
    (case c_is_address => k_is)
    (case k_is_address => k_is)
    (case a_is_prefix => k_is)
    (case l_is_prefix => k_is)
    (case c_is_prefix => k_is)
    (case k_is_prefix => k_is)
    (case a_prefix_start => k_is)
    (case l_prefix_start => k_is)
    (case c_prefix_start => k_is)
    (case k_prefix_start => k_is)
    (case a_all_prefixes => k_is)
    (case l_all_prefixes => k_is)
    (case c_all_prefixes => k_is)
    (case k_all_prefixes => k_is)
    (case a_contains_address => k_is)
    (case l_contains_address => k_is)
    (case c_contains_address => k_is)
    (case k_contains_address => k_is)
    (case a_contains_prefix => k_is)
    (case l_contains_prefix => k_is)
    (case c_contains_prefix => k_is)
    (case k_contains_prefix => k_is)
    (case a_is_roa => k_is)
    (case l_is_roa => k_is)
    (case c_is_roa => k_is)
    (case k_is_roa => k_is)
    (case a_covering_roas => k_is)
    (case l_covering_roas => k_is)
    (case c_covering_roas => k_is)
    (case k_covering_roas => k_is)
    (case a_authorized_origins => k_is)
    (case l_authorized_origins => k_is)
    (case c_authorized_origins => k_is)
    (case k_authorized_origins => k_is)
    (case a_validity_code => k_is)
    (case l_validity_code => k_is)
    (case c_validity_code => k_is)
    (case k_validity_code => k_is)
    (case a_valid_prefixes => k_is)
    (case l_valid_prefixes => k_is)
    (case c_valid_prefixes => k_is)
    (case k_valid_prefixes => k_is)
    (case a_tightened_roas => k_is)
    (case l_tightened_roas => k_is)
    (case c_tightened_roas => k_is)
    (case k_tightened_roas => k_is)
    (case a_accepted_origins => k_is)
    (case l_accepted_origins => k_is)
    (case c_accepted_origins => k_is)
    (case k_accepted_origins => k_is)
    (case a_is_accepted => k_is)
    (case l_is_accepted => k_is)
    (case c_is_accepted => k_is)
    (case k_is_accepted => k_is)
    (case a_is_own => k_is)
    (case l_is_own => k_is)
    (case c_is_own => k_is)
    (case k_is_own => k_is)
    (case a_is_preferred => k_is)
    (case l_is_preferred => k_is)
    (case c_is_preferred => k_is)
    (case k_is_preferred => k_is)
    (case a_replaces => k_is)
    (case l_replaces => k_is)
    (case c_replaces => k_is)
    (case k_replaces => k_is)
    (case a_selected_announcement => k_is)
    (case l_selected_announcement => k_is)
    (case c_selected_announcement => k_is)
    (case k_selected_announcement => k_is)
    (case a_announcer_of => k_is)
    (case l_announcer_of => k_is)
    (case c_announcer_of => k_is)
    (case k_announcer_of => k_is)
    (case a_destinations_by => k_is)
    (case l_destinations_by => k_is)
    (case c_destinations_by => k_is)
    (case k_destinations_by => k_is)
    (case a_moved_addresses => k_is)
    (case l_moved_addresses => k_is)
    (case c_moved_addresses => k_is)
    (case k_moved_addresses => k_is)
    (case a_possible_announcements => k_is)
    (case l_possible_announcements => k_is)
    (case c_possible_announcements => k_is)
    (case k_possible_announcements => k_is)
    (case a_can_attract => k_is)
    (case l_can_attract => k_is)
    (case c_can_attract => k_is)
    (case k_can_attract => k_is)
    (case a_hijacking_members => k_is)
    (case l_hijacking_members => k_is)
    (case c_hijacking_members => k_is)
    (case k_hijacking_members => k_is)
    (case a_vulnerable_of => k_is)
    (case l_vulnerable_of => k_is)
    (case c_vulnerable_of => k_is)
    (case k_vulnerable_of => k_is)
    (case a_add_roa => k_is)
    (case l_add_roa => k_is)
    (case c_add_roa => k_is)
    (case k_add_roa => k_is)
    (case a_remove_roa => k_is)
    (case l_remove_roa => k_is)
    (case c_remove_roa => k_is)
    (case k_remove_roa => k_is)
    (case a_announce => k_is)
    (case l_announce => k_is)
    (case c_announce => k_is)
    (case k_announce => k_is)
    (case a_withdraw => k_is)
    (case l_withdraw => k_is)
    (case c_withdraw => k_is)
    (case k_withdraw => k_is)
    (case a_set_strict => k_is)
    (case l_set_strict => k_is)
    (case c_set_strict => k_is)
    (case k_set_strict => k_is)
    (case a_tighten_roas => k_is)
    (case l_tighten_roas => k_is)
    (case c_tighten_roas => k_is)
    (case k_tighten_roas => k_is)
    (case a_validity => k_is)
    (case l_validity => k_is)
    (case c_validity => k_is)
    (case k_validity => k_is)
    (case a_destination => k_is)
    (case l_destination => k_is)
    (case c_destination => k_is)
    (case k_destination => k_is)
    (case a_address_count => k_is)
    (case l_address_count => k_is)
    (case c_address_count => k_is)
    (case k_address_count => k_is)
    (case a_hijackers => k_is)
    (case l_hijackers => k_is)
    (case c_hijackers => k_is)
    (case k_hijackers => k_is)
    (case a_vulnerable_addresses => k_is)
    (case l_vulnerable_addresses => k_is)
    (case c_vulnerable_addresses => k_is)
    (case k_vulnerable_addresses => k_is)
    (case a_preview_tighten => k_is)
    (case l_preview_tighten => k_is)
    (case c_preview_tighten => k_is)
    (case k_preview_tighten => k_is)
    (case a_preview_announce => k_is)
    (case l_preview_announce => k_is)
    (case c_preview_announce => k_is)
    (case k_preview_announce => k_is)
    (case a_dropped_announcements => k_is)
    (case l_dropped_announcements => k_is)
    (case c_dropped_announcements => k_is)
    (case k_dropped_announcements => k_is)
    (case a_valid_prefix_count => k_is)
    (case l_valid_prefix_count => k_is)
    (case c_valid_prefix_count => k_is)
    (case k_valid_prefix_count => k_is)
    (case a_list_roas => k_is)
    (case l_list_roas => k_is)
    (case c_list_roas => k_is)
    (case k_list_roas => k_is)
    (case a_list_announcements => k_is)
    (case l_list_announcements => k_is)
    (case c_list_announcements => k_is)
    (case k_list_announcements => k_is)
    (case a_given_count => k_is)
    (case l_given_count => k_is)
    (case c_given_count => k_is)
    (case k_given_count => k_is)
    (case a_perform => k_is)
    (case l_perform => k_is)
    (case c_perform => k_is)
    (case k_perform => k_is)
    (case a_R_init => k_is)
    (case i_R_init => k_is)
    (case l_R_init => k_is)
    (case c_R_init => k_is)
    (case k_R_init => k_is)
    (case a_R_accepted => k_is)
    (case i_R_accepted => k_is)
    (case l_R_accepted => k_is)
    (case c_R_accepted => k_is)
    (case k_R_accepted => k_is)
    (case a_R_dropped => k_is)
    (case i_R_dropped => k_is)
    (case l_R_dropped => k_is)
    (case c_R_dropped => k_is)
    (case k_R_dropped => k_is)
    (case a_R_destinations => k_is)
    (case i_R_destinations => k_is)
    (case l_R_destinations => k_is)
    (case c_R_destinations => k_is)
    (case k_R_destinations => k_is)
    (case a_R_with_roas => k_is)
    (case i_R_with_roas => k_is)
    (case l_R_with_roas => k_is)
    (case c_R_with_roas => k_is)
    (case k_R_with_roas => k_is)
    (case a_R_with_announcements => k_is)
    (case i_R_with_announcements => k_is)
    (case l_R_with_announcements => k_is)
    (case c_R_with_announcements => k_is)
    (case k_R_with_announcements => k_is)
    (case a_R_with_strict => k_is)
    (case i_R_with_strict => k_is)
    (case l_R_with_strict => k_is)
    (case c_R_with_strict => k_is)
    (case k_R_with_strict => k_is)
    (case a_R_moved_by => k_is)
    (case i_R_moved_by => k_is)
    (case l_R_moved_by => k_is)
    (case c_R_moved_by => k_is)
    (case k_R_moved_by => k_is)
    (case a_R_change_to => k_is)
    (case i_R_change_to => k_is)
    (case l_R_change_to => k_is)
    (case c_R_change_to => k_is)
    (case k_R_change_to => k_is)
    (case a_answers => k_is)
    (case l_answers => k_is)
    (case c_answers => k_is)
    (case k_answers => k_is)
    (case q_ADDRESS => k_is)
    (case q_LENGTH => k_is)
    (case q_MAX_LENGTH => k_is)
    (case q_ANNOUNCER => k_is)
    (case q_ORIGIN => k_is)
    (case q_ADDRESS_COUNT => k_is)
    (case q_LONGEST => k_is)
    (case q_MEMBER_COUNT => k_is)
    (case q_ROA_LIMIT => k_is)
    (case q_ANNOUNCEMENT_LIMIT => k_is)
    (case q_NOT_FOUND => k_is)
    (case q_VALID => k_is)
    (case q_INVALID => k_is)
    (case q_NO_REGISTRY => k_is)
    (case q_NOT_THERE => k_is)
    (case q_NO_ANNOUNCEMENT => k_is)
    (case q_EXISTS => k_is)
    (case q_BAD_ARGUMENT => k_is)
    (case q_LIMIT_REACHED => k_is)
    (case q_NO_DESTINATION => k_is)
    (case q_RESET => k_is)
    (case a_op => k_is)
    (case l_op => k_is)
    (case h_op => rfl)
    (case b_1 => rfl)
    (case e_1 => k_is)
    (case v_1 => rfl)
    (case b_2 => rfl)
    (case e_2 => k_is)
    (case v_2 => rfl)
    (case b_3 => rfl)
    (case e_3 => k_is)
    (case v_3 => rfl)
    (case b_4 => rfl)
    (case e_4 => k_is)
    (case v_4 => rfl)
    (case b_5 => rfl)
    (case e_5 => k_is)
    (case v_5 => rfl)
    (case b_6 => rfl)
    (case e_6 => k_is)
    (case v_6 => rfl)
    (case b_7 => rfl)
    (case e_7 => k_is)
    (case v_7 => rfl)
    (case b_8 => rfl)
    (case e_8 => k_is)
    (case v_8 => rfl)
    (case b_9 => rfl)
    (case e_9 => k_is)
    (case v_9 => rfl)
    (case b_10 => rfl)
    (case e_10 => k_is)
    (case v_10 => rfl)
    (case b_11 => rfl)
    (case e_11 => k_is)
    (case v_11 => rfl)
    (case b_12 => rfl)
    (case e_12 => k_is)
    (case v_12 => rfl)
    (case b_13 => rfl)
    (case e_13 => k_is)
    (case v_13 => rfl)
    (case b_14 => rfl)
    (case e_14 => k_is)
    (case v_14 => rfl)
    (case b_15 => rfl)
    (case e_15 => k_is)
    (case v_15 => rfl)
    (case b_16 => rfl)
    (case e_16 => k_is)
    (case v_16 => rfl)
    (case b_17 => rfl)
    (case e_17 => k_is)
    (case v_17 => rfl)
    (case pg => k_is); (case hd => k_is); (case po => k_is); (case sa => k_is); (case mkRC => k_is); (case kcRC => k_is); (case nR => k_is); (case nA => k_is); (case nS => k_is)
    (case lSZ => k_is); (case vSZ => rfl); (case zL => k_is); (case zR => k_is); (case zI => k_is)
  case S =>
    intro K H xs a hO hwi hask hx
    cases hx with
    | cons h1 h2 =>
      cases h2
      cases h1 with
      | lst hs ha =>
        have e := L2.ints_dw a.1 _ ha
        subst e
        have q : ((Codec.inLen 0 2100 a.1 && a.1.all (Codec.inInt 0 4294967295)) && true) = true := hwi
        rw [Bool.and_eq_true, Bool.and_eq_true] at q
        refine ⟨_, a.1, rfl, hs, fun x hx => ?_, hask, fun H' p hp => .lst (L2.SqL.of hp) (L2.dw_ints _)⟩
        exact (Codec.inInt_iff.mp (List.all_eq_true.mp q.1.2 x hx)).1
#print axioms PySem.Challenge.cw_originways_s01_answers_holds
