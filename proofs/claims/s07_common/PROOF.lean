import PyProof.Rows.All
import Wide.All
import OpenK.AllK
import Wide.FinOn
import Open.SpecLaws
import KE.OsGo
import HandS.ForSpec
import HandS.Comp
import HandS.Iter
import HandS.Walk
import KE.LtSeq
import KE.KEqDeep
import HandS.Conv
import HandS.Set
import HandS.Strs
import HandS.SetFor
import HandS.SortInts
import PySem.Challenge.RW_notnought_s07_common
set_option Elab.async false
set_option linter.all false
set_option maxRecDepth 100000
set_option maxHeartbeats 4000000
namespace Nn
open Kzt1 (Term okField okPoly total lexBefore before put norm cut readPoly)
/-! ## lists of numbers, by the first place that differs -/
def lex : List Nat → List Nat → Bool
  | _, [] => false
  | [], _ :: _ => true
  | x :: xs, y :: ys => if x = y then lex xs ys else decide (x < y)
theorem lex_nil_cons (y : Nat) (ys : List Nat) : lex [] (y :: ys) = true := rfl
theorem lex_cons (x y : Nat) (xs ys : List Nat) : lex (x :: xs) (y :: ys) = if x = y then lex xs ys else decide (x < y) := rfl
theorem lex_irrefl : ∀ l, lex l l = false
  | [] => rfl
  | x :: xs => by rw [lex_cons, if_pos rfl]; exact lex_irrefl xs
theorem lex_trans : ∀ {a b c : List Nat}, lex a b = true → lex b c = true → lex a c = true
  | _, [], _, h, _ => by
    cases ‹List Nat› <;> simp [lex] at h
  | _, _ :: _, [], _, h => by simp [lex] at h
  | [], _ :: _, _ :: _, _, _ => rfl
  | x :: xs, y :: ys, z :: zs, h1, h2 => by
    rw [lex_cons] at h1 h2 ⊢
    by_cases e1 : x = y
    · subst e1
      rw [if_pos rfl] at h1
      by_cases e2 : x = z
      · rw [if_pos e2] at h2 ⊢
        exact lex_trans h1 h2
      · rw [if_neg e2] at h2 ⊢
        exact h2
    · rw [if_neg e1] at h1
      have l1 : x < y := of_decide_eq_true h1
      by_cases e2 : y = z
      · subst e2
        rw [if_neg e1]
        exact h1
      · rw [if_neg e2] at h2
        have l2 : y < z := of_decide_eq_true h2
        rw [if_neg (by omega)]
        exact decide_eq_true (by omega)
theorem lex_asymm {a b : List Nat} (h : lex a b = true) : lex b a = false := by
  cases e : lex b a with
  | false => rfl
  | true =>
    have := lex_trans h e
    rw [lex_irrefl] at this
    cases this
theorem lex_tri : ∀ {a b : List Nat}, a ≠ b → lex a b = false → lex b a = true
  | [], [], h, _ => absurd rfl h
  | [], _ :: _, _, h => by simp [lex] at h
  | _ :: _, [], _, _ => rfl
  | x :: xs, y :: ys, h, h1 => by
    rw [lex_cons] at h1 ⊢
    by_cases e : x = y
    · subst e
      rw [if_pos rfl] at h1 ⊢
      exact lex_tri (fun z => h (by rw [z])) h1
    · rw [if_neg e] at h1
      have : ¬ x < y := of_decide_eq_false h1
      rw [if_neg (Ne.symm e)]
      exact decide_eq_true (by omega)
def place (e : List Nat) : List Nat := total e :: e
theorem lexBefore_eq : ∀ {a b : List Nat}, a.length = b.length → lexBefore a b = lex a b
  | [], [], _ => rfl
  | [], _ :: _, h => by simp at h
  | _ :: _, [], h => by simp at h
  | x :: xs, y :: ys, h => by
    have ih := lexBefore_eq (a := xs) (b := ys) (by simpa using h)
    rw [lex_cons]
    show (decide (x < y) || (x == y && lexBefore xs ys)) = _
    rw [ih]
    by_cases e : x = y
    · subst e; simp
    · rw [if_neg e]; simp [e]
theorem before_eq {a b : List Nat} (h : a.length = b.length) : before a b = lex (place a) (place b) := by
  unfold before place
  rw [lexBefore_eq h, lex_cons]
  by_cases e : total a = total b
  · rw [if_pos e, e]; simp
  · rw [if_neg e]; simp [e]
/-! ## terms in their order -/
def Ord (l : List Term) : Prop := l.Pairwise fun t u => lex (place t.e) (place u.e) = true
theorem put_mem {p : Nat} {t : Term} : ∀ {a : List Term} {u : Term}, u ∈ put p t a → u.e = t.e ∨ ∃ v ∈ a, u.e = v.e
  | [], u, h => by
    unfold put at h
    split at h
    · cases h
    · rw [List.mem_singleton] at h; subst h; exact .inl rfl
  | v :: l, u, h => by
    unfold put at h
    split at h
    · split at h
      · exact .inr ⟨u, List.mem_cons_of_mem _ h, rfl⟩
      · rcases List.mem_cons.mp h with h | h
        · subst h; exact .inr ⟨v, List.mem_cons_self, rfl⟩
        · exact .inr ⟨u, List.mem_cons_of_mem _ h, rfl⟩
    · split at h
      · split at h
        · exact .inr ⟨u, h, rfl⟩
        · rcases List.mem_cons.mp h with h | h
          · subst h; exact .inl rfl
          · exact .inr ⟨u, h, rfl⟩
      · rcases List.mem_cons.mp h with h | h
        · subst h; exact .inr ⟨_, List.mem_cons_self, rfl⟩
        · rcases put_mem h with h | ⟨w, hw, e⟩
          · exact .inl h
          · exact .inr ⟨w, List.mem_cons_of_mem _ hw, e⟩
theorem put_ord {p n : Nat} {t : Term} (ht : t.e.length = n) : ∀ {a : List Term}, (∀ u ∈ a, u.e.length = n) → Ord a → Ord (put p t a)
  | [], _, _ => by
    unfold put
    split
    · exact List.Pairwise.nil
    · exact List.pairwise_singleton _ _
  | u :: l, hl, ho => by
    have hu : u.e.length = n := hl u List.mem_cons_self
    have hl' : ∀ v ∈ l, v.e.length = n := fun v hv => hl v (List.mem_cons_of_mem _ hv)
    have ho' := List.pairwise_cons.mp ho
    unfold put
    split
    · split
      · exact ho'.2
      · exact List.pairwise_cons.mpr ⟨ho'.1, ho'.2⟩
    · rename_i ne
      split
      · rename_i hb
        rw [before_eq (by rw [ht, hu])] at hb
        split
        · exact ho
        · refine List.pairwise_cons.mpr ⟨fun v hv => ?_, ho⟩
          rcases List.mem_cons.mp hv with hv | hv
          · subst hv; exact hb
          · exact lex_trans hb (ho'.1 v hv)
      · rename_i hb
        rw [before_eq (by rw [ht, hu]), Bool.not_eq_true] at hb
        have hlt : lex (place u.e) (place t.e) = true := lex_tri (fun z => ne (List.cons.inj z).2) hb
        refine List.pairwise_cons.mpr ⟨fun v hv => ?_, put_ord ht hl' ho'.2⟩
        rcases put_mem hv with hv | ⟨w, hw, e⟩
        · rw [hv]; exact hlt
        · rw [e]; exact ho'.1 w hw
theorem norm_ord {p n : Nat} : ∀ (f a : List Term), (∀ u ∈ f, u.e.length = n) → (∀ u ∈ a, u.e.length = n) → Ord a → Ord (f.foldl (fun a t => put p t a) a)
  | [], _, _, _, h => h
  | t :: f, a, hf, ha, h => by
    rw [List.foldl_cons]
    have ht := hf t List.mem_cons_self
    refine norm_ord f _ (fun u hu => hf u (List.mem_cons_of_mem _ hu)) (fun u hu => ?_) (put_ord ht ha h)
    rcases put_mem hu with e | ⟨w, hw, e⟩
    · rw [e]; exact ht
    · rw [e]; exact ha w hw
theorem put_last {p : Nat} {t : Term} (hc : 1 ≤ t.c) (hp : t.c < p) : ∀ {a : List Term}, (∀ u ∈ a, u.e.length = t.e.length) → (∀ u ∈ a, lex (place u.e) (place t.e) = true) → put p t a = a ++ [t]
  | [], _, _ => by
    unfold put
    rw [Nat.mod_eq_of_lt hp, if_neg (by omega)]
    rfl
  | u :: l, hl, h => by
    have hu := h u List.mem_cons_self
    have ne : t.e ≠ u.e := fun z => by rw [z, lex_irrefl] at hu; cases hu
    unfold put
    rw [if_neg ne, before_eq (hl u List.mem_cons_self).symm, lex_asymm hu, if_neg Bool.false_ne_true,
      put_last hc hp (fun v hv => hl v (List.mem_cons_of_mem _ hv)) (fun v hv => h v (List.mem_cons_of_mem _ hv))]
    rfl
theorem norm_same {p n : Nat} : ∀ (f a : List Term), (∀ u ∈ a ++ f, u.e.length = n ∧ 1 ≤ u.c ∧ u.c < p) → Ord (a ++ f) → f.foldl (fun a t => put p t a) a = a ++ f
  | [], a, _, _ => by simp
  | t :: f, a, hf, h => by
    have ht := hf t (by simp)
    rw [List.foldl_cons, put_last ht.2.1 ht.2.2 (fun u hu => by rw [(hf u (by simp [hu])).1, ht.1]) (fun u hu => ?_)]
    · have e : a ++ t :: f = (a ++ [t]) ++ f := by simp
      rw [e] at hf h ⊢
      exact norm_same f (a ++ [t]) hf h
    · exact (List.pairwise_append.mp h).2.2 u hu t List.mem_cons_self
theorem okPoly_iff {p n : Nat} {f : List Term} (hn : ∀ u ∈ f, u.e.length = n) : okPoly p n f = true ↔ (∀ u ∈ f, 1 ≤ u.c ∧ u.c < p ∧ ∀ x ∈ u.e, x ≤ 12) ∧ Ord f := by
  unfold okPoly
  rw [Bool.and_eq_true, List.all_eq_true]
  constructor
  · rintro ⟨h1, h2⟩
    have e : norm p f = f := by simpa using h2
    refine ⟨fun u hu => ?_, ?_⟩
    · have := h1 u hu
      simp only [Bool.and_eq_true, decide_eq_true_eq, List.all_eq_true] at this
      exact ⟨this.1.1.1, this.1.1.2, this.2⟩
    · have := norm_ord (p := p) (n := n) f [] hn (by simp) List.Pairwise.nil
      unfold norm at e
      rw [e] at this
      exact this
  · rintro ⟨h1, h2⟩
    refine ⟨fun u hu => ?_, ?_⟩
    · have := h1 u hu
      simp only [Bool.and_eq_true, decide_eq_true_eq, List.all_eq_true]
      exact ⟨⟨⟨this.1, this.2.1⟩, by simpa using hn u hu⟩, this.2.2⟩
    · have : norm p f = f := norm_same (n := n) f [] (fun u hu => ⟨hn u (by simpa using hu), (h1 u (by simpa using hu)).1, (h1 u (by simpa using hu)).2.1⟩) h2
      rw [this]
      simp
/-! ## the polynomial's row, cut -/
def chunk (k : Nat) (F : List Nat) (i : Nat) : List Nat := (F.drop (i * k)).take k
def chunks (k : Nat) (F : List Nat) : List (List Nat) := (List.range (F.length / k)).map (chunk k F)
def tm (t : List Nat) : Term := ⟨t.headD 0, t.tail⟩
theorem chunks_length (k : Nat) (F : List Nat) : (chunks k F).length = F.length / k := by simp [chunks]
theorem chunks_nil (k : Nat) : chunks k [] = [] := by simp [chunks]
theorem chunks_cons {k : Nat} {F : List Nat} (hk : 0 < k) (h : k ≤ F.length) : chunks k F = F.take k :: chunks k (F.drop k) := by
  unfold chunks
  have e : F.length / k = (F.drop k).length / k + 1 := by
    rw [List.length_drop, Nat.sub_eq_iff_eq_add h |>.mpr (by rw [Nat.sub_add_cancel h] : F.length = (F.length - k) + k)]
    have : F.length = (F.length - k) + k := by omega
    rw [this, Nat.add_div_right _ hk]
    simp
  rw [e, List.range_succ_eq_map, List.map_cons, List.map_map]
  congr 1
  · simp [chunk]
  · apply List.map_congr_left
    intro i _
    show ((F.drop ((i + 1) * k)).take k) = (((F.drop k).drop (i * k)).take k)
    rw [List.drop_drop, Nat.succ_mul, Nat.add_comm k]
theorem chunks_len {k : Nat} {F : List Nat} (hk : 0 < k) (h : F.length % k = 0) : ∀ t ∈ chunks k F, t.length = k := by
  intro t ht
  obtain ⟨i, hi, rfl⟩ := List.mem_map.mp ht
  have hi := List.mem_range.mp hi
  unfold chunk
  rw [List.length_take, List.length_drop]
  have h1 : F.length = k * (F.length / k) := by have := Nat.div_add_mod F.length k; omega
  have h2 : (i + 1) * k ≤ (F.length / k) * k := Nat.mul_le_mul_right k hi
  rw [Nat.mul_comm (F.length / k) k, ← h1, Nat.succ_mul] at h2
  omega
theorem cut_some {n : Nat} : ∀ (m fuel : Nat) (F : List Nat), F.length = m * (n + 1) → m ≤ fuel → cut n fuel F = some ((chunks (n + 1) F).map tm)
  | 0, fuel, F, h, _ => by
    have : F = [] := List.eq_nil_of_length_eq_zero (by simpa using h)
    subst this
    rw [chunks_nil]
    cases fuel <;> rfl
  | m + 1, 0, F, _, hf => absurd hf (by omega)
  | m + 1, fuel + 1, [], h, _ => by
    rw [Nat.succ_mul] at h
    simp at h
  | m + 1, fuel + 1, c :: l, h, hf => by
    rw [Nat.succ_mul, List.length_cons] at h
    have hl : ¬ l.length < n := by omega
    have ih := cut_some (n := n) m fuel (l.drop n) (by rw [List.length_drop]; omega) (by omega)
    show (if l.length < n then none else (cut n fuel (l.drop n)).map fun r => ⟨c, l.take n⟩ :: r) = _
    rw [if_neg hl, ih, chunks_cons (F := c :: l) (by omega) (by rw [List.length_cons]; omega)]
    rfl
theorem cut_none {n : Nat} : ∀ (fuel : Nat) (F : List Nat), F.length % (n + 1) ≠ 0 → cut n fuel F = none
  | fuel, [], h => by simp at h
  | 0, _ :: _, _ => rfl
  | fuel + 1, c :: l, h => by
    show (if l.length < n then none else (cut n fuel (l.drop n)).map fun r => ⟨c, l.take n⟩ :: r) = _
    by_cases hl : l.length < n
    · rw [if_pos hl]
    · rw [if_neg hl, cut_none fuel (l.drop n) ?_]
      · rfl
      · rw [List.length_drop]
        rw [List.length_cons, show l.length + 1 = (l.length - n) + (n + 1) by omega, Nat.add_mod_right] at h
        exact h
/-! ## the program's own look at a polynomial -/
def okTerm (p : Nat) (t : List Nat) : Bool := decide (1 ≤ t.headD 0) && (decide (t.headD 0 < p) && decide (∀ x ∈ t.tail, x ≤ 12))
def goPoly (p : Nat) : List Nat → List (List Nat) → Bool
  | _, [] => true
  | b, t :: ts => if okTerm p t = true ∧ lex b (place t.tail) = true then goPoly p (place t.tail) ts else false
def polyOk (p n : Nat) (F : List Nat) : Bool := F.length % (n + 1) == 0 && goPoly p [] (chunks (n + 1) F)
theorem goPoly_iff {p : Nat} : ∀ (ts : List (List Nat)) (b : List Nat), goPoly p b ts = true ↔ (∀ t ∈ ts, okTerm p t = true ∧ lex b (place t.tail) = true) ∧ ts.Pairwise fun t u => lex (place t.tail) (place u.tail) = true
  | [], b => by simp [goPoly]
  | t :: ts, b => by
    unfold goPoly
    rw [List.pairwise_cons]
    constructor
    · intro h
      split at h
      · rename_i c
        obtain ⟨h1, h2⟩ := (goPoly_iff ts _).mp h
        refine ⟨fun u hu => ?_, fun u hu => (h1 u hu).2, h2⟩
        rcases List.mem_cons.mp hu with hu | hu
        · subst hu; exact c
        · exact ⟨(h1 u hu).1, lex_trans c.2 (h1 u hu).2⟩
      · cases h
    · rintro ⟨h1, h2, h3⟩
      rw [if_pos (h1 t List.mem_cons_self)]
      exact (goPoly_iff ts _).mpr ⟨fun u hu => ⟨(h1 u (List.mem_cons_of_mem _ hu)).1, h2 u hu⟩, h3⟩
theorem read_poly {p n : Nat} (F : List Nat) : readPoly p n F = if polyOk p n F = true then some ((chunks (n + 1) F).map tm) else none := by
  unfold readPoly polyOk
  by_cases h : F.length % (n + 1) = 0
  · have e : F.length = (F.length / (n + 1)) * (n + 1) := by
      have := Nat.div_add_mod F.length (n + 1)
      rw [Nat.mul_comm]; omega
    rw [cut_some (F.length / (n + 1)) F.length F e (Nat.div_le_self _ _)]
    have hn : ∀ u ∈ (chunks (n + 1) F).map tm, u.e.length = n := by
      intro u hu
      obtain ⟨t, ht, rfl⟩ := List.mem_map.mp hu
      have := chunks_len (k := n + 1) (by omega) h t ht
      show t.tail.length = n
      rw [List.length_tail]; omega
    have key : okPoly p n ((chunks (n + 1) F).map tm) = goPoly p [] (chunks (n + 1) F) := by
      rw [Bool.eq_iff_iff, okPoly_iff hn, goPoly_iff]
      unfold Ord
      rw [List.pairwise_map]
      constructor
      · rintro ⟨h1, h2⟩
        refine ⟨fun t ht => ⟨?_, rfl⟩, h2⟩
        have := h1 (tm t) (List.mem_map_of_mem ht)
        unfold okTerm
        simp only [Bool.and_eq_true, decide_eq_true_eq]
        exact this
      · rintro ⟨h1, h2⟩
        refine ⟨fun u hu => ?_, h2⟩
        obtain ⟨t, ht, rfl⟩ := List.mem_map.mp hu
        have := (h1 t ht).1
        unfold okTerm at this
        simp only [Bool.and_eq_true, decide_eq_true_eq] at this
        exact this
    show (if okPoly p n _ = true then some _ else none) = _
    rw [key, h]
    simp
  · rw [cut_none F.length F h]
    have : (F.length % (n + 1) == 0) = false := by simpa using h
    rw [this]
    rfl
/-! ## coefficient -/
def factor (ts : List (List Nat)) (T : List Nat) : Nat := match ts.find? fun t => t.tail == T with
  | some t => t.headD 0
  | none => 0
theorem coefficient_eq (ts : List (List Nat)) (T : List Nat) : Kzt4.coefficient (ts.map tm) T = factor ts T := by
  unfold Kzt4.coefficient factor
  induction ts with
  | nil => rfl
  | cons t ts ih =>
    rw [List.map_cons, List.find?_cons, List.find?_cons]
    show (match (match t.tail == T with | true => some (tm t) | false => _) with | some u => u.c | none => 0) = _
    cases e : (t.tail == T) with
    | true => rfl
    | false => exact ih
def coefAns (p n : Nat) (F T : List Nat) : Int := if okField p n = true ∧ polyOk p n F = true ∧ T.length = n then (factor (chunks (n + 1) F) T : Nat) else -22
theorem coef_spec (p n : Nat) (F T : List Nat) : Kzt4Neutral.f [[0, (p : Int), (n : Int)], Kzt4Neutral.ints F, Kzt4Neutral.ints T] = [coefAns p n F T] := by
  have eN : ∀ l : List Nat, Kzt4Neutral.natsOf (Kzt4Neutral.ints l) = l := fun l => by
    unfold Kzt4Neutral.natsOf Kzt4Neutral.ints
    rw [List.map_map]
    exact List.map_id'' (fun _ => rfl) l
  show (let a := Kzt4.answer (.coefficient p n (Kzt4Neutral.natsOf (Kzt4Neutral.ints F)) (Kzt4Neutral.natsOf (Kzt4Neutral.ints T))); a.value :: a.nums) = _
  rw [eN, eN]
  unfold coefAns Kzt4.answer
  simp only []
  rw [read_poly]
  cases h1 : okField p n with
  | false => simp [Kzt1.say]
  | true =>
    cases h2 : polyOk p n F with
    | false => simp [Kzt1.say]
    | true =>
      by_cases h3 : T.length = n
      · simp [h3, Kzt1.say, coefficient_eq]
      · simp [h3, Kzt1.say]
end Nn
namespace Nn
open Kzt1 (Term okField rising value powMod)
open Kzt4 (readGrid grid)
/-! ## a grid's rows -/
def rowsOf : List Nat → List (List Nat)
  | [] => []
  | m :: l => (m :: l.take m) :: rowsOf (l.drop m)
termination_by l => l.length
decreasing_by simp only [List.length_drop, List.length_cons]; omega
theorem rowsOf_nil : rowsOf [] = [] := by rw [rowsOf]
theorem rowsOf_cons (m : Nat) (l : List Nat) : rowsOf (m :: l) = (m :: l.take m) :: rowsOf (l.drop m) := by rw [rowsOf]
theorem rowsOf_length : ∀ (k : Nat) (l : List Nat), l.length ≤ k → (rowsOf l).length ≤ l.length
  | _, [], _ => by rw [rowsOf_nil]; exact Nat.le_refl _
  | 0, _ :: _, h => by simp at h
  | k + 1, m :: l, h => by
    rw [List.length_cons] at h
    rw [rowsOf_cons, List.length_cons, List.length_cons]
    have := rowsOf_length k (l.drop m) (by rw [List.length_drop]; omega)
    rw [List.length_drop] at this
    omega
theorem rowsOf_ne : ∀ (k : Nat) (l : List Nat), l.length ≤ k → ∀ r ∈ rowsOf l, r ≠ [] ∧ r.length ≤ l.length
  | _, [], _ => by rw [rowsOf_nil]; intro r hr; cases hr
  | 0, _ :: _, h => by simp at h
  | k + 1, m :: l, h => by
    rw [List.length_cons] at h
    rw [rowsOf_cons]
    intro r hr
    rcases List.mem_cons.mp hr with hr | hr
    · subst hr
      refine ⟨List.cons_ne_nil _ _, ?_⟩
      rw [List.length_cons, List.length_cons, List.length_take]
      omega
    · have := rowsOf_ne k (l.drop m) (by rw [List.length_drop]; omega) r hr
      rw [List.length_drop] at this
      refine ⟨this.1, ?_⟩
      rw [List.length_cons]
      omega
/-- rising, below p, from above b on -/
def goRise (p : Nat) : Int → List Nat → Bool
  | _, [] => true
  | b, x :: xs => if (x : Int) ≤ b ∨ p ≤ x then false else goRise p (x : Int) xs
def isRising (p : Nat) (r : List Nat) : Bool := goRise p (-1) r && decide (0 < r.length)
def rowOk (p : Nat) (r : List Nat) : Bool := decide (r.tail.length = r.headD 0) && isRising p r.tail
def gridOk (p n : Nat) (G : List Nat) : Bool := decide ((rowsOf G).length = n) && (rowsOf G).all (rowOk p)
theorem goRise_iff {p : Nat} : ∀ (xs : List Nat) (b : Int), goRise p b xs = true ↔ ((∀ x ∈ xs.head?, b < (x : Int)) ∧ rising xs = true ∧ ∀ x ∈ xs, x < p)
  | [], b => by simp [goRise, rising]
  | [x], b => by
    unfold goRise
    by_cases h : (x : Int) ≤ b ∨ p ≤ x
    · rw [if_pos h]
      simp [rising]
      intro h1
      omega
    · rw [if_neg h]
      simp [rising, goRise]
      omega
  | x :: y :: l, b => by
    unfold goRise
    have ih := goRise_iff (p := p) (y :: l) (x : Int)
    by_cases h : (x : Int) ≤ b ∨ p ≤ x
    · rw [if_pos h]
      simp only [List.head?_cons, Option.mem_some_iff, List.mem_cons]
      constructor
      · intro z; cases z
      · rintro ⟨h1, _, h3⟩
        have := h1 x rfl
        have := h3 x (.inl rfl)
        omega
    · rw [if_neg h, ih]
      simp only [List.head?_cons, Option.mem_some_iff, List.mem_cons]
      show _ ↔ _ ∧ (decide (x < y) && rising (y :: l)) = true ∧ _
      rw [Bool.and_eq_true, decide_eq_true_eq]
      constructor
      · rintro ⟨h1, h2, h3⟩
        have h1' := h1 y rfl
        refine ⟨fun z hz => ?_, ⟨by omega, h2⟩, fun z hz => ?_⟩
        · subst hz; omega
        · rcases hz with hz | hz
          · subst hz; omega
          · exact h3 z hz
      · rintro ⟨h1, ⟨h2, h3⟩, h4⟩
        refine ⟨fun z hz => ?_, h3, fun z hz => h4 z (.inr hz)⟩
        subst hz; omega
theorem isRising_iff {p : Nat} (r : List Nat) : isRising p r = true ↔ ¬ (r.isEmpty = true ∨ rising r = false ∨ (r.any fun x => decide (p ≤ x)) = true) := by
  unfold isRising
  rw [Bool.and_eq_true, goRise_iff, decide_eq_true_eq]
  simp only [List.any_eq_true, decide_eq_true_eq, not_or, Bool.not_eq_true, Bool.not_eq_false, not_exists, not_and, Nat.not_le]
  constructor
  · rintro ⟨⟨_, h2, h3⟩, h4⟩
    refine ⟨?_, h2, h3⟩
    cases r with
    | nil => simp at h4
    | cons x l => rfl
  · rintro ⟨h1, h2, h3⟩
    refine ⟨⟨fun x _ => by omega, h2, h3⟩, ?_⟩
    cases r with
    | nil => cases h1
    | cons x l => simp
theorem read_grid {p : Nat} : ∀ (n : Nat) (G : List Nat), readGrid p n G = if gridOk p n G = true then some ((rowsOf G).map List.tail) else none
  | 0, [] => by
    have : gridOk p 0 [] = true := by unfold gridOk; rw [rowsOf_nil]; rfl
    rw [if_pos this, rowsOf_nil]
    rfl
  | 0, m :: l => by
    have : gridOk p 0 (m :: l) = false := by unfold gridOk; rw [rowsOf_cons]; simp
    rw [this]
    rfl
  | n + 1, [] => by
    have : gridOk p (n + 1) [] = false := by unfold gridOk; rw [rowsOf_nil]; simp
    rw [this]
    rfl
  | n + 1, m :: l => by
    have e : gridOk p (n + 1) (m :: l) = (rowOk p (m :: l.take m) && gridOk p n (l.drop m)) := by
      unfold gridOk
      rw [rowsOf_cons, List.all_cons, List.length_cons]
      have : decide ((rowsOf (l.drop m)).length + 1 = n + 1) = decide ((rowsOf (l.drop m)).length = n) := by simp
      rw [this]
      cases rowOk p (m :: l.take m) <;> simp
    rw [e, rowsOf_cons, List.map_cons]
    have ih := read_grid (p := p) n (l.drop m)
    show (if l.length < m then none else if (l.take m).isEmpty ∨ rising (l.take m) = false ∨ ((l.take m).any fun x => decide (p ≤ x)) = true then none else (readGrid p n (l.drop m)).map fun g => l.take m :: g) = _
    by_cases h1 : l.length < m
    · rw [if_pos h1]
      have : rowOk p (m :: l.take m) = false := by
        unfold rowOk
        have : ¬ ((m :: l.take m).tail.length = (m :: l.take m).headD 0) := by
          show ¬ ((l.take m).length = m)
          rw [List.length_take]
          omega
        rw [decide_eq_false this]
        rfl
      rw [this]
      rfl
    · rw [if_neg h1]
      have e1 : rowOk p (m :: l.take m) = isRising p (l.take m) := by
        unfold rowOk
        have : ((m :: l.take m).tail.length = (m :: l.take m).headD 0) := by
          show ((l.take m).length = m)
          rw [List.length_take]
          omega
        rw [decide_eq_true this]
        rfl
      rw [e1]
      cases h2 : isRising p (l.take m) with
      | false =>
        have := mt (isRising_iff (p := p) (l.take m)).mpr (by rw [h2]; exact Bool.false_ne_true)
        rw [if_pos (Classical.not_not.mp this)]
        rfl
      | true =>
        rw [if_neg ((isRising_iff (p := p) (l.take m)).mp h2), ih, Bool.true_and]
        cases gridOk p n (l.drop m) <;> rfl
/-! ## the grid's points -/
def longer (r : List Nat) (pts : List (List Nat)) : List (List Nat) := pts.flatMap fun pt => r.map fun x => pt ++ [x]
def pointsOf (rows : List (List Nat)) : List (List Nat) := rows.foldl (fun pts r => longer r pts) [[]]
theorem points_from : ∀ (rows : List (List Nat)) (pts : List (List Nat)), rows.foldl (fun pts r => longer r pts) pts = pts.flatMap fun pt => (grid rows).map fun y => pt ++ y
  | [], pts => by
    show pts = pts.flatMap fun pt => [pt ++ []]
    simp
  | r :: rows, pts => by
    rw [List.foldl_cons, points_from rows]
    show (longer r pts).flatMap (fun pt => (grid rows).map fun y => pt ++ y) = pts.flatMap fun pt => (r.flatMap fun x => (grid rows).map fun y => x :: y).map fun y => pt ++ y
    unfold longer
    rw [List.flatMap_assoc]
    congr 1
    funext pt
    rw [List.map_flatMap, List.flatMap_map]
    congr 1
    funext x
    rw [List.map_map]
    apply List.map_congr_left
    intro y _
    simp
theorem pointsOf_eq (rows : List (List Nat)) : pointsOf rows = grid rows := by
  unfold pointsOf
  rw [points_from]
  simp
theorem grid_len : ∀ (rows : List (List Nat)), ∀ x ∈ grid rows, x.length = rows.length
  | [], x, h => by
    have : x = [] := by simpa [grid] using h
    subst this
    rfl
  | r :: rows, x, h => by
    obtain ⟨y, _, h⟩ := List.mem_flatMap.mp h
    obtain ⟨z, hz, rfl⟩ := List.mem_map.mp h
    rw [List.length_cons, List.length_cons, grid_len rows z hz]
/-! ## values -/
def termVal (p : Nat) (t pt : List Nat) : Nat := (pt.zip t.tail).foldl (fun v y => v * powMod p y.1 y.2 % p) (t.headD 0)
def valAt (p : Nat) (ts : List (List Nat)) (pt : List Nat) : Nat := ts.foldl (fun v t => (v + termVal p t pt) % p) 0
theorem termVal_from {p : Nat} : ∀ (e pt : List Nat) (v : Nat), (pt.zip e).foldl (fun v y => v * powMod p y.1 y.2 % p) v = (e.zip pt).foldl (fun v y => v * powMod p y.2 y.1 % p) v
  | [], pt, v => by simp
  | _ :: _, [], v => by simp
  | k :: e, x :: pt, v => by
    rw [List.zip_cons_cons, List.zip_cons_cons, List.foldl_cons, List.foldl_cons]
    exact termVal_from e pt _
theorem termVal_eq {p : Nat} {t : List Nat} (pt : List Nat) : termVal p t pt = ((tm t).e.zip pt).foldl (fun v y => v * powMod p y.2 y.1 % p) (tm t).c := termVal_from t.tail pt _
theorem valAt_from {p : Nat} (g : List Nat → Nat) : ∀ (ts : List (List Nat)) (v s : Nat), v = s % p → ts.foldl (fun v t => (v + g t) % p) v = ((ts.map g).foldl (· + ·) s) % p
  | [], v, s, h => h
  | t :: ts, v, s, h => by
    rw [List.foldl_cons, List.map_cons, List.foldl_cons]
    exact valAt_from g ts _ _ (by rw [h, Nat.mod_add_mod])
theorem valAt_eq {p : Nat} {ts : List (List Nat)} (pt : List Nat) : valAt p ts pt = value p (ts.map tm) pt := by
  unfold valAt value
  rw [valAt_from (fun t => termVal p t pt) ts 0 0 (by simp), List.map_map]
  congr 2
  apply List.map_congr_left
  intro t ht
  exact termVal_eq pt
/-! ## somewhere -/
def someAns (p n : Nat) (F G : List Nat) : List Int := if okField p n = true ∧ polyOk p n F = true ∧ gridOk p n G = true then
  (match (pointsOf ((rowsOf G).map List.tail)).find? fun x => valAt p (chunks (n + 1) F) x != 0 with
    | some x => (n : Int) :: Kzt4Neutral.ints x
    | none => [-33]) else [-22]
theorem poly_heads {p n : Nat} {F : List Nat} (h : polyOk p n F = true) : ∀ t ∈ chunks (n + 1) F, 1 ≤ t.headD 0 ∧ t.headD 0 < p ∧ ∀ x ∈ t.tail, x ≤ 12 := by
  unfold polyOk at h
  rw [Bool.and_eq_true] at h
  intro t ht
  have := ((goPoly_iff _ _).mp h.2).1 t ht |>.1
  unfold okTerm at this
  simp only [Bool.and_eq_true, decide_eq_true_eq] at this
  exact this
theorem find_congr' {α : Type} {f g : α → Bool} : ∀ (l : List α), (∀ x ∈ l, f x = g x) → l.find? f = l.find? g
  | [], _ => rfl
  | x :: l, h => by
    rw [List.find?_cons, List.find?_cons, h x List.mem_cons_self, find_congr' l fun y hy => h y (List.mem_cons_of_mem _ hy)]
theorem some_spec (p n : Nat) (F G : List Nat) : Kzt4Neutral.f [[1, (p : Int), (n : Int)], Kzt4Neutral.ints F, Kzt4Neutral.ints G] = someAns p n F G := by
  have eN : ∀ l : List Nat, Kzt4Neutral.natsOf (Kzt4Neutral.ints l) = l := fun l => by
    unfold Kzt4Neutral.natsOf Kzt4Neutral.ints
    rw [List.map_map]
    exact List.map_id'' (fun _ => rfl) l
  show (let a := Kzt4.answer (.somewhere p n (Kzt4Neutral.natsOf (Kzt4Neutral.ints F)) (Kzt4Neutral.natsOf (Kzt4Neutral.ints G))); a.value :: a.nums) = _
  rw [eN, eN]
  unfold someAns Kzt4.answer Kzt4.withFG
  simp only []
  rw [read_poly, read_grid]
  cases h1 : okField p n with
  | false => simp [Kzt1.say]
  | true =>
    cases h2 : polyOk p n F with
    | false => simp [Kzt1.say]
    | true =>
      cases h3 : gridOk p n G with
      | false => simp [Kzt1.say]
      | true =>
        have e : Kzt4.somewhere p ((chunks (n + 1) F).map tm) ((rowsOf G).map List.tail) = (pointsOf ((rowsOf G).map List.tail)).find? fun x => valAt p (chunks (n + 1) F) x != 0 := by
          unfold Kzt4.somewhere
          rw [pointsOf_eq]
          exact find_congr' _ fun x _ => by rw [valAt_eq x]
        simp only [if_true, and_self, Bool.true_eq_false, if_false]
        rw [e]
        cases h4 : (pointsOf ((rowsOf G).map List.tail)).find? fun x => valAt p (chunks (n + 1) F) x != 0 with
        | none => simp [Kzt1.say]
        | some x =>
          have hx := List.mem_of_find?_eq_some h4
          rw [pointsOf_eq] at hx
          have hl := grid_len _ x hx
          have hn : (rowsOf G).length = n := by
            unfold gridOk at h3
            rw [Bool.and_eq_true, decide_eq_true_eq] at h3
            exact h3.1
          rw [List.length_map, hn] at hl
          simp [Kzt1.told, Kzt1.ints, Kzt4Neutral.ints, hl]
end Nn
namespace Nn
theorem goRise_len {p : Nat} : ∀ (r : List Nat) (b : Int), goRise p b r = true → r = [] ∨ (r.length : Int) + b < p
  | [], _, _ => .inl rfl
  | x :: xs, b, h => by
    unfold goRise at h
    split at h
    · cases h
    · rename_i c
      rcases goRise_len xs _ h with e | e
      · subst e
        right
        rw [List.length_singleton]
        omega
      · right
        rw [List.length_cons]
        omega
theorem rowOk_tail {p : Nat} {r : List Nat} (h : rowOk p r = true) : r.tail.length ≤ p ∧ ∀ x ∈ r.tail, x < p := by
  unfold rowOk isRising at h
  rw [Bool.and_eq_true, Bool.and_eq_true] at h
  have h1 := goRise_len _ _ h.2.1
  have h2 := (goRise_iff _ _).mp h.2.1
  refine ⟨?_, h2.2.2⟩
  rcases h1 with e | e
  · rw [e]; exact Nat.zero_le _
  · omega
theorem longer_nil (r : List Nat) : longer r [] = [] := rfl
theorem longer_cons (r pt : List Nat) (pts : List (List Nat)) : longer r (pt :: pts) = (r.map fun x => pt ++ [x]) ++ longer r pts := by
  unfold longer
  rw [List.flatMap_cons]
theorem longer_len (r : List Nat) : ∀ pts : List (List Nat), (longer r pts).length = pts.length * r.length
  | [] => by rw [longer_nil]; simp
  | pt :: pts => by
    rw [longer_cons, List.length_append, List.length_map, longer_len r pts, List.length_cons, Nat.succ_mul]
    omega
theorem longer_pt {r : List Nat} {pts : List (List Nat)} {k : Nat} (h : ∀ pt ∈ pts, pt.length ≤ k) : ∀ pt ∈ longer r pts, pt.length ≤ k + 1 := by
  intro pt hpt
  unfold longer at hpt
  obtain ⟨q, hq, hpt⟩ := List.mem_flatMap.mp hpt
  obtain ⟨x, hx, rfl⟩ := List.mem_map.mp hpt
  have := h q hq
  rw [List.length_append, List.length_singleton]
  omega
def ptsFrom (pts : List (List Nat)) (R : List (List Nat)) : List (List Nat) := R.foldl (fun pts r => longer r.tail pts) pts
theorem ptsFrom_all (R : List (List Nat)) : ptsFrom [[]] R = pointsOf (R.map List.tail) := by
  unfold ptsFrom pointsOf
  rw [List.foldl_map]
theorem grid_mem {p : Nat} : ∀ (rows : List (List Nat)), (∀ r ∈ rows, ∀ x ∈ r, x < p) → ∀ pt ∈ Kzt4.grid rows, ∀ x ∈ pt, x < p
  | [], _, pt, h => by
    have : pt = [] := by simpa [Kzt4.grid] using h
    subst this
    intro x hx
    cases hx
  | r :: rows, hr, pt, h => by
    obtain ⟨y, hy, h⟩ := List.mem_flatMap.mp h
    obtain ⟨z, hz, rfl⟩ := List.mem_map.mp h
    intro x hx
    rcases List.mem_cons.mp hx with hx | hx
    · subst hx; exact hr r List.mem_cons_self _ hy
    · exact grid_mem rows (fun r' hr' => hr r' (List.mem_cons_of_mem _ hr')) z hz x hx
def tvFrom (p : Nat) (l : List (Nat × Nat)) (v : Nat) : Nat := l.foldl (fun v y => v * Kzt1.powMod p y.1 y.2 % p) v
theorem tvFrom_nil (p v : Nat) : tvFrom p [] v = v := rfl
theorem tvFrom_cons (p v x k : Nat) (l : List (Nat × Nat)) : tvFrom p ((x, k) :: l) v = tvFrom p l (v * Kzt1.powMod p x k % p) := rfl
theorem termVal_tv (p : Nat) (t pt : List Nat) : termVal p t pt = tvFrom p (pt.zip t.tail) (t.headD 0) := rfl
def vaFrom (p : Nat) (pt : List Nat) (ts : List (List Nat)) (v : Nat) : Nat := ts.foldl (fun v t => (v + termVal p t pt) % p) v
theorem vaFrom_nil (p v : Nat) (pt : List Nat) : vaFrom p pt [] v = v := rfl
theorem vaFrom_cons (p v : Nat) (pt t : List Nat) (ts : List (List Nat)) : vaFrom p pt (t :: ts) v = vaFrom p pt ts ((v + termVal p t pt) % p) := rfl
theorem valAt_va (p : Nat) (ts : List (List Nat)) (pt : List Nat) : valAt p ts pt = vaFrom p pt ts 0 := rfl
end Nn
namespace Nn
open Kzt1 (Term okField total degree powMod value rising)
open Kzt4 (grid)
/-! ## degree -/
def degOf (ts : List (List Nat)) : Nat := (ts.map fun t => total t.tail).foldl max 0
theorem degOf_eq (ts : List (List Nat)) : degree (ts.map tm) = degOf ts := by
  unfold degree degOf
  rw [List.map_map]
  rfl
theorem max_from : ∀ (l : List Nat) (s : Nat), s ≤ l.foldl max s ∧ (∀ x ∈ l, x ≤ l.foldl max s) ∧ (l.foldl max s = s ∨ l.foldl max s ∈ l)
  | [], s => ⟨Nat.le_refl _, by simp, .inl rfl⟩
  | y :: l, s => by
    obtain ⟨h1, h2, h3⟩ := max_from l (max s y)
    rw [List.foldl_cons]
    refine ⟨by omega, fun x hx => ?_, ?_⟩
    · rcases List.mem_cons.mp hx with hx | hx
      · subst hx; omega
      · exact h2 x hx
    · rcases h3 with h3 | h3
      · rcases Nat.le_total s y with h | h
        · right; rw [h3, Nat.max_eq_right h]; exact List.mem_cons_self
        · left; rw [h3, Nat.max_eq_left h]
      · exact .inr (List.mem_cons_of_mem _ h3)
theorem max_is {l : List Nat} {m : Nat} (h1 : m ∈ 0 :: l) (h2 : ∀ x ∈ 0 :: l, x ≤ m) : m = l.foldl max 0 := by
  obtain ⟨_, h4, h5⟩ := max_from l 0
  have e1 : l.foldl max 0 ≤ m := by
    rcases h5 with h5 | h5
    · omega
    · exact h2 _ (List.mem_cons_of_mem _ h5)
  rcases List.mem_cons.mp h1 with h | h
  · omega
  · have := h4 m h; omega
/-! ## sure -/
def within (e cs : List Nat) : Bool := (e.zip cs).all fun y => decide (y.1 < y.2)
theorem within_eq : ∀ (e : List Nat) (g : List (List Nat)), within e (g.map List.length) = (e.zip g).all fun y => decide (y.1 < y.2.length)
  | [], g => by simp [within]
  | _ :: _, [] => by simp [within]
  | x :: e, r :: g => by
    have ih := within_eq e g
    unfold within at ih ⊢
    rw [List.map_cons, List.zip_cons_cons, List.zip_cons_cons, List.all_cons, List.all_cons, ih]
def countsOf (G : List Nat) : List Nat := (rowsOf G).map fun r => r.headD 0
theorem rowOk_head {p : Nat} {r : List Nat} (h : rowOk p r = true) : r.tail.length = r.headD 0 ∧ 0 < r.headD 0 := by
  unfold rowOk isRising at h
  rw [Bool.and_eq_true, Bool.and_eq_true, decide_eq_true_eq, decide_eq_true_eq] at h
  exact ⟨h.1, by omega⟩
theorem gridOk_all {p n : Nat} {G : List Nat} (h : gridOk p n G = true) : ∀ r ∈ rowsOf G, rowOk p r = true := by
  unfold gridOk at h
  rw [Bool.and_eq_true, List.all_eq_true] at h
  exact h.2
theorem countsOf_eq {p n : Nat} {G : List Nat} (h : gridOk p n G = true) : countsOf G = ((rowsOf G).map List.tail).map List.length := by
  unfold countsOf
  rw [List.map_map]
  apply List.map_congr_left
  intro r hr
  exact (rowOk_head (gridOk_all h r hr)).1.symm
def sureIn (d : Nat) (cs : List Nat) (ts : List (List Nat)) : Bool := ts.any fun t => total t.tail == d && within t.tail cs
theorem sureIn_nil (d : Nat) (cs : List Nat) : sureIn d cs [] = false := rfl
theorem sureIn_cons (d : Nat) (cs t : List Nat) (ts : List (List Nat)) : sureIn d cs (t :: ts) = ((total t.tail == d && within t.tail cs) || sureIn d cs ts) := rfl
theorem sureIn_eq {p n : Nat} {G : List Nat} (h : gridOk p n G = true) (ts : List (List Nat)) : Kzt4.sure (ts.map tm) ((rowsOf G).map List.tail) = sureIn (degOf ts) (countsOf G) ts := by
  unfold Kzt4.sure sureIn
  rw [List.any_map, degOf_eq, countsOf_eq h]
  congr 1
  funext t
  show (total t.tail == degOf ts && (t.tail.zip ((rowsOf G).map List.tail)).all fun y => decide (y.1 < y.2.length)) = _
  rw [within_eq]
def sureAns (p n : Nat) (F G : List Nat) : Int := if okField p n = true ∧ polyOk p n F = true ∧ gridOk p n G = true then
  (if sureIn (degOf (chunks (n + 1) F)) (countsOf G) (chunks (n + 1) F) = true then 1 else 0) else -22
theorem nats_back (l : List Nat) : Kzt4Neutral.natsOf (Kzt4Neutral.ints l) = l := by
  unfold Kzt4Neutral.natsOf Kzt4Neutral.ints
  rw [List.map_map]
  exact List.map_id'' (fun _ => rfl) l
theorem sure_spec (p n : Nat) (F G : List Nat) : Kzt4Neutral.f [[3, (p : Int), (n : Int)], Kzt4Neutral.ints F, Kzt4Neutral.ints G] = [sureAns p n F G] := by
  show (let a := Kzt4.answer (.sure p n (Kzt4Neutral.natsOf (Kzt4Neutral.ints F)) (Kzt4Neutral.natsOf (Kzt4Neutral.ints G))); a.value :: a.nums) = _
  rw [nats_back, nats_back]
  unfold sureAns Kzt4.answer Kzt4.withFG
  simp only []
  rw [read_poly, read_grid]
  cases h1 : okField p n with
  | false => simp [Kzt1.say]
  | true =>
    cases h2 : polyOk p n F with
    | false => simp [Kzt1.say]
    | true =>
      cases h3 : gridOk p n G with
      | false => simp [Kzt1.say]
      | true =>
        simp only [if_true, and_self, Bool.true_eq_false, if_false]
        rw [sureIn_eq h3]
        rfl
/-! ## weights -/
def wtFrom (p x : Nat) (r : List Nat) (v : Nat) : Nat := r.foldl (fun v y => if y = x then v else v * (x + p - y) % p) v
theorem wtFrom_nil (p x v : Nat) : wtFrom p x [] v = v := rfl
theorem wtFrom_cons (p x y v : Nat) (r : List Nat) : wtFrom p x (y :: r) v = wtFrom p x r (if y = x then v else v * (x + p - y) % p) := rfl
theorem wtFrom_eq (p x : Nat) : ∀ (r : List Nat) (v : Nat), wtFrom p x r v = (r.filter fun y => y != x).foldl (fun v y => v * (x + p - y) % p) v
  | [], v => rfl
  | y :: r, v => by
    rw [wtFrom_cons, wtFrom_eq p x r, List.filter_cons]
    by_cases h : y = x
    · rw [if_pos h, if_neg (by simp [h])]
    · rw [if_neg h, if_pos (by simp [h]), List.foldl_cons]
def wt (p x : Nat) (r : List Nat) : Nat := wtFrom p x r 1
theorem wt_eq {p : Nat} (hp : 2 ≤ p) (x : Nat) (r : List Nat) : wt p x r = Kzt4.weight p r x := by
  unfold wt Kzt4.weight
  rw [wtFrom_eq, Nat.mod_eq_of_lt (by omega : 1 < p)]
def pwFrom (p : Nat) (l : List (Nat × List Nat)) (v : Nat) : Nat := l.foldl (fun v y => v * wt p y.1 y.2.tail % p) v
theorem pwFrom_nil (p v : Nat) : pwFrom p [] v = v := rfl
theorem pwFrom_cons (p v x : Nat) (r : List Nat) (l : List (Nat × List Nat)) : pwFrom p ((x, r) :: l) v = pwFrom p l (v * wt p x r.tail % p) := rfl
def pw (p : Nat) (rows : List (List Nat)) (pt : List Nat) : Nat := pwFrom p (pt.zip rows) 1
theorem pwFrom_eq {p : Nat} (hp : 2 ≤ p) : ∀ (rows : List (List Nat)) (pt : List Nat) (v : Nat), pwFrom p (pt.zip rows) v = (pt.zip (rows.map List.tail)).foldl (fun v y => v * Kzt4.weight p y.2 y.1 % p) v
  | [], pt, v => by simp [pwFrom]
  | _ :: _, [], v => by simp [pwFrom]
  | r :: rows, x :: pt, v => by
    rw [List.zip_cons_cons, pwFrom_cons, List.map_cons, List.zip_cons_cons, List.foldl_cons, pwFrom_eq hp rows pt, wt_eq hp]
theorem pw_eq {p : Nat} (hp : 2 ≤ p) (rows : List (List Nat)) (pt : List Nat) : pw p rows pt = (pt.zip (rows.map List.tail)).foldl (fun v y => v * Kzt4.weight p y.2 y.1 % p) (1 % p) := by
  unfold pw
  rw [pwFrom_eq hp, Nat.mod_eq_of_lt (by omega : 1 < p)]
/-! ## none is 0 -/
def Prime4 (p : Nat) : Prop := p = 2 ∨ p = 3 ∨ p = 5 ∨ p = 7
theorem mul_lt_ne {p : Nat} (hp : Prime4 p) : ∀ a, a < p → ∀ b, b < p → a ≠ 0 → b ≠ 0 → a * b % p ≠ 0 := by
  rcases hp with rfl | rfl | rfl | rfl <;> decide
theorem mul_ne {p a b : Nat} (hp : Prime4 p) (h1 : a % p ≠ 0) (h2 : b % p ≠ 0) : a * b % p ≠ 0 := by
  have h0 : 0 < p := by rcases hp with rfl | rfl | rfl | rfl <;> decide
  rw [Nat.mul_mod]
  exact mul_lt_ne hp _ (Nat.mod_lt _ h0) _ (Nat.mod_lt _ h0) h1 h2
theorem prime4_two {p : Nat} (hp : Prime4 p) : 2 ≤ p ∧ p ≤ 7 := by unfold Prime4 at hp; omega
theorem wtFrom_ok {p x : Nat} (hp : Prime4 p) (hx : x < p) : ∀ (r : List Nat) (v : Nat), (∀ y ∈ r, y < p) → v < p ∧ v ≠ 0 → wtFrom p x r v < p ∧ wtFrom p x r v ≠ 0
  | [], v, _, h => h
  | y :: r, v, hr, h => by
    rw [wtFrom_cons]
    refine wtFrom_ok hp hx r _ (fun z hz => hr z (List.mem_cons_of_mem _ hz)) ?_
    have hy := hr y List.mem_cons_self
    by_cases e : y = x
    · rw [if_pos e]; exact h
    · rw [if_neg e]
      refine ⟨Nat.mod_lt _ (by omega), mul_ne hp (by rw [Nat.mod_eq_of_lt h.1]; exact h.2) ?_⟩
      rcases Nat.lt_or_gt_of_ne e with l | l
      · rw [show x + p - y = (x - y) + p by omega, Nat.add_mod_right, Nat.mod_eq_of_lt (by omega)]
        omega
      · rw [Nat.mod_eq_of_lt (by omega)]
        omega
theorem wt_ok {p x : Nat} {r : List Nat} (hp : Prime4 p) (hx : x < p) (hr : ∀ y ∈ r, y < p) : wt p x r < p ∧ wt p x r ≠ 0 :=
  wtFrom_ok hp hx r 1 hr ⟨by have := prime4_two hp; omega, by decide⟩
theorem pwFrom_ok {p : Nat} (hp : Prime4 p) : ∀ (l : List (Nat × List Nat)) (v : Nat), (∀ y ∈ l, y.1 < p ∧ ∀ z ∈ y.2.tail, z < p) → v < p ∧ v ≠ 0 → pwFrom p l v < p ∧ pwFrom p l v ≠ 0
  | [], v, _, h => h
  | (x, r) :: l, v, hl, h => by
    rw [pwFrom_cons]
    refine pwFrom_ok hp l _ (fun z hz => hl z (List.mem_cons_of_mem _ hz)) ?_
    have hw := wt_ok hp (hl _ List.mem_cons_self).1 (hl _ List.mem_cons_self).2
    refine ⟨Nat.mod_lt _ (by have := prime4_two hp; omega), mul_ne hp ?_ ?_⟩
    · rw [Nat.mod_eq_of_lt h.1]; exact h.2
    · rw [Nat.mod_eq_of_lt hw.1]; exact hw.2
theorem pw_ok {p : Nat} {rows : List (List Nat)} {pt : List Nat} (hp : Prime4 p) (h1 : ∀ x ∈ pt, x < p) (h2 : ∀ r ∈ rows, ∀ z ∈ r.tail, z < p) : pw p rows pt < p ∧ pw p rows pt ≠ 0 := by
  refine pwFrom_ok hp _ 1 (fun y hy => ?_) ⟨by have := prime4_two hp; omega, by decide⟩
  obtain ⟨x, r⟩ := y
  have := List.of_mem_zip hy
  exact ⟨h1 x this.1, h2 r this.2⟩
theorem inv_eq {p : Nat} (hp : Prime4 p) : ∀ w, w < p → w ≠ 0 → powMod p w (p - 2) = Kzt1.inv p w := by
  rcases hp with rfl | rfl | rfl | rfl <;> decide
/-! ## summed -/
def smFrom (p : Nat) (ts rows pts : List (List Nat)) (v : Nat) : Nat := pts.foldl (fun v pt => (v + valAt p ts pt * powMod p (pw p rows pt) (p - 2)) % p) v
theorem smFrom_nil (p v : Nat) (ts rows : List (List Nat)) : smFrom p ts rows [] v = v := rfl
theorem smFrom_cons (p v : Nat) (ts rows pts : List (List Nat)) (pt : List Nat) : smFrom p ts rows (pt :: pts) v = smFrom p ts rows pts ((v + valAt p ts pt * powMod p (pw p rows pt) (p - 2)) % p) := rfl
def sumOf (p : Nat) (ts rows : List (List Nat)) : Nat := smFrom p ts rows (pointsOf (rows.map List.tail)) 0
theorem smFrom_eq {p : Nat} {ts rows : List (List Nat)} : ∀ (pts : List (List Nat)) (v s : Nat), v = s % p → smFrom p ts rows pts v = ((pts.map fun pt => valAt p ts pt * powMod p (pw p rows pt) (p - 2) % p).foldl (· + ·) s) % p
  | [], v, s, h => h
  | pt :: pts, v, s, h => by
    rw [smFrom_cons, List.map_cons, List.foldl_cons]
    exact smFrom_eq pts _ _ (by rw [h, Nat.mod_add_mod, Nat.add_mod_mod])
theorem okField_prime {p n : Nat} (h : okField p n = true) : Prime4 p := by
  unfold okField at h
  simp only [Bool.and_eq_true, Bool.or_eq_true, beq_iff_eq, decide_eq_true_eq] at h
  unfold Prime4
  omega
theorem grid_below {p n : Nat} {G : List Nat} (h : gridOk p n G = true) : ∀ r ∈ rowsOf G, ∀ z ∈ r.tail, z < p := fun r hr => (rowOk_tail (gridOk_all h r hr)).2
theorem points_below {p n : Nat} {G : List Nat} (h : gridOk p n G = true) : ∀ pt ∈ pointsOf ((rowsOf G).map List.tail), ∀ x ∈ pt, x < p := by
  rw [pointsOf_eq]
  refine grid_mem _ fun r hr => ?_
  obtain ⟨q, hq, rfl⟩ := List.mem_map.mp hr
  exact grid_below h q hq
theorem sumOf_eq {p n : Nat} {G : List Nat} (h1 : okField p n = true) (h : gridOk p n G = true) (ts : List (List Nat)) : Kzt4.summed p (ts.map tm) ((rowsOf G).map List.tail) = sumOf p ts (rowsOf G) := by
  have hp := okField_prime h1
  unfold Kzt4.summed sumOf
  rw [smFrom_eq _ 0 0 (by simp), ← pointsOf_eq]
  congr 2
  apply List.map_congr_left
  intro pt hpt
  have hw := pw_ok (rows := rowsOf G) hp (points_below h pt hpt) (grid_below h)
  show value p (ts.map tm) pt * Kzt1.inv p ((pt.zip ((rowsOf G).map List.tail)).foldl (fun v y => v * Kzt4.weight p y.2 y.1 % p) (1 % p)) % p = _
  rw [← pw_eq (prime4_two hp).1, ← inv_eq hp _ hw.1 hw.2, valAt_eq]
def highOf (cs : List Nat) : Nat := total (cs.map fun c => c - 1)
theorem highOf_eq {p n : Nat} {G : List Nat} (h : gridOk p n G = true) : total (Kzt4.least ((rowsOf G).map List.tail)) = highOf (countsOf G) := by
  unfold Kzt4.least highOf
  rw [countsOf_eq h, List.map_map, List.map_map, List.map_map]
  rfl
def summedAns (p n : Nat) (F G : List Nat) : List Int := if okField p n = true ∧ polyOk p n F = true ∧ gridOk p n G = true then
  [((sumOf p (chunks (n + 1) F) (rowsOf G) : Nat) : Int), if degOf (chunks (n + 1) F) ≤ highOf (countsOf G) then 1 else 0] else [-22]
theorem summed_spec (p n : Nat) (F G : List Nat) : Kzt4Neutral.f [[2, (p : Int), (n : Int)], Kzt4Neutral.ints F, Kzt4Neutral.ints G] = summedAns p n F G := by
  show (let a := Kzt4.answer (.summed p n (Kzt4Neutral.natsOf (Kzt4Neutral.ints F)) (Kzt4Neutral.natsOf (Kzt4Neutral.ints G))); a.value :: a.nums) = _
  rw [nats_back, nats_back]
  unfold summedAns Kzt4.answer Kzt4.withFG
  simp only []
  rw [read_poly, read_grid]
  cases h1 : okField p n with
  | false => simp [Kzt1.say]
  | true =>
    cases h2 : polyOk p n F with
    | false => simp [Kzt1.say]
    | true =>
      cases h3 : gridOk p n G with
      | false => simp [Kzt1.say]
      | true =>
        simp only [if_true, and_self, Bool.true_eq_false, if_false]
        rw [sumOf_eq h1 h3, highOf_eq h3, degOf_eq]
theorem okField_p {p n : Nat} (h : Kzt1.okField p n = true) : 2 ≤ p ∧ p ≤ 7 := by
  unfold Kzt1.okField at h
  simp only [Bool.and_eq_true, Bool.or_eq_true, beq_iff_eq, decide_eq_true_eq] at h
  omega
theorem gridOk_rows {p n : Nat} {G : List Nat} (h : gridOk p n G = true) : (rowsOf G).length = n ∧ ∀ r ∈ rowsOf G, r.tail.length ≤ p ∧ ∀ x ∈ r.tail, x < p := by
  unfold gridOk at h
  rw [Bool.and_eq_true, decide_eq_true_eq, List.all_eq_true] at h
  exact ⟨h.1, fun r hr => rowOk_tail (h.2 r hr)⟩
end Nn
namespace Nn
open Kzt1 (okField total value at1 coords space)
/-! ## sets of numbers -/
theorem okRow_eq (p : Nat) (a : List Nat) : Kzt4.okRow p a = isRising p a := by
  rw [Bool.eq_iff_iff, isRising_iff]
  unfold Kzt4.okRow
  simp only [Bool.and_eq_true, Bool.not_eq_true', List.all_eq_true, decide_eq_true_eq, List.any_eq_true, not_or, Bool.not_eq_true, Bool.not_eq_false, not_exists, not_and, Nat.not_le]
  constructor
  · rintro ⟨⟨h1, h2⟩, h3⟩
    exact ⟨h1, h2, h3⟩
  · rintro ⟨h1, h2, h3⟩
    exact ⟨⟨h1, h2⟩, h3⟩
theorem isRising_len {p : Nat} {r : List Nat} (h : isRising p r = true) : r.length ≤ p ∧ (∀ x ∈ r, x < p) ∧ 0 < r.length := by
  unfold isRising at h
  rw [Bool.and_eq_true, decide_eq_true_eq] at h
  refine ⟨?_, ((goRise_iff _ _).mp h.1).2.2, h.2⟩
  rcases goRise_len _ _ h.1 with e | e
  · rw [e]; exact Nat.zero_le _
  · omega
/-- how many, then these -/
def many (l : List Nat) : List Int := (l.length : Int) :: Kzt4Neutral.ints l
def sumsAns (p : Nat) (A B : List Nat) : List Int := if okField p 1 = true ∧ isRising p A = true ∧ isRising p B = true then many (Kzt4.sums p A B) else [-22]
def apartAns (p : Nat) (A : List Nat) : List Int := if okField p 1 = true ∧ isRising p A = true then many (Kzt4.apart p A) else [-22]
theorem told_many (l : List Nat) : (let a := Kzt1.told (Kzt1.ints l); a.value :: a.nums) = many l := by
  unfold Kzt1.told Kzt1.ints many Kzt4Neutral.ints
  simp
theorem sums_spec (p : Nat) (A B : List Nat) : Kzt4Neutral.f [[4, (p : Int)], Kzt4Neutral.ints A, Kzt4Neutral.ints B] = sumsAns p A B := by
  show (let a := Kzt4.answer (.sums p (Kzt4Neutral.natsOf (Kzt4Neutral.ints A)) (Kzt4Neutral.natsOf (Kzt4Neutral.ints B))); a.value :: a.nums) = _
  rw [nats_back, nats_back]
  unfold sumsAns Kzt4.answer
  simp only []
  rw [okRow_eq, okRow_eq]
  cases h1 : okField p 1 with
  | false => simp [Kzt1.say]
  | true =>
    cases h2 : isRising p A with
    | false => simp [Kzt1.say]
    | true =>
      cases h3 : isRising p B with
      | false => simp [Kzt1.say]
      | true =>
        simp only [and_self, if_true, Bool.true_eq_false, or_self, if_false]
        exact told_many _
theorem apart_spec (p : Nat) (A : List Nat) : Kzt4Neutral.f [[5, (p : Int)], Kzt4Neutral.ints A] = apartAns p A := by
  show (let a := Kzt4.answer (.apart p (Kzt4Neutral.natsOf (Kzt4Neutral.ints A))); a.value :: a.nums) = _
  rw [nats_back]
  unfold apartAns Kzt4.answer
  simp only []
  rw [okRow_eq]
  cases h1 : okField p 1 with
  | false => simp [Kzt1.say]
  | true =>
    cases h2 : isRising p A with
    | false => simp [Kzt1.say]
    | true =>
      simp only [and_self, if_true, Bool.true_eq_false, or_self, if_false]
      exact told_many _
/-! ## common zeros -/
/-- the points at which both are 0, by their numbers -/
def bothZero (p n : Nat) (ts us : List (List Nat)) : List Nat := (List.range (p ^ n)).filter fun x => valAt p ts (coords p n x) == 0 && valAt p us (coords p n x) == 0
def commonAns (p n : Nat) (F G : List Nat) : List Int := if okField p n = true ∧ polyOk p n F = true ∧ polyOk p n G = true then many (bothZero p n (chunks (n + 1) F) (chunks (n + 1) G)) else [-22]
theorem bothZero_eq (p n : Nat) (ts us : List (List Nat)) : Kzt4.common p n [ts.map tm, us.map tm] = bothZero p n ts us := by
  unfold Kzt4.common bothZero space
  apply List.filter_congr
  intro x _
  unfold at1
  rw [List.all_cons, List.all_cons, List.all_nil, Bool.and_true, valAt_eq, valAt_eq]
theorem common_spec (p n : Nat) (F G : List Nat) : Kzt4Neutral.f [[6, (p : Int), (n : Int)], Kzt4Neutral.ints F, Kzt4Neutral.ints G] = commonAns p n F G := by
  show (let a := Kzt4.answer (.common p n (Kzt4Neutral.natsOf (Kzt4Neutral.ints F)) (Kzt4Neutral.natsOf (Kzt4Neutral.ints G))); a.value :: a.nums) = _
  rw [nats_back, nats_back]
  unfold commonAns Kzt4.answer
  simp only []
  rw [read_poly, read_poly]
  cases h1 : okField p n with
  | false => simp [Kzt1.say]
  | true =>
    cases h2 : polyOk p n F with
    | false => simp [Kzt1.say]
    | true =>
      cases h3 : polyOk p n G with
      | false => simp [Kzt1.say]
      | true =>
        simp only [if_true, and_self, Bool.true_eq_false, if_false]
        rw [bothZero_eq]
        exact told_many _
theorem coords_len (p n x : Nat) : (coords p n x).length = n := by simp [coords]
theorem coords_lt {p : Nat} (hp : 0 < p) (n x : Nat) : ∀ y ∈ coords p n x, y < p := by
  intro y hy
  unfold coords at hy
  obtain ⟨i, _, rfl⟩ := List.mem_map.mp hy
  exact Nat.mod_lt _ hp
end Nn
namespace Nn
open Kzt1 (okField total value at1 coords space)
/-! ## a rising row is told by its members -/
theorem rise_uniq : ∀ {a b : List Int}, a.Pairwise (· < ·) → b.Pairwise (· < ·) → (∀ k, k ∈ a ↔ k ∈ b) → a = b
  | [], [], _, _, _ => rfl
  | [], y :: ys, _, _, h => absurd ((h y).mpr List.mem_cons_self) (by simp)
  | x :: xs, [], _, _, h => absurd ((h x).mp List.mem_cons_self) (by simp)
  | x :: xs, y :: ys, ha, hb, h => by
    obtain ⟨ha1, ha2⟩ := List.pairwise_cons.mp ha
    obtain ⟨hb1, hb2⟩ := List.pairwise_cons.mp hb
    have e : x = y := by
      rcases List.mem_cons.mp ((h x).mp List.mem_cons_self) with e | m1
      · exact e
      · rcases List.mem_cons.mp ((h y).mpr List.mem_cons_self) with e | m2
        · exact e.symm
        · have := hb1 x m1
          have := ha1 y m2
          omega
    subst e
    have : xs = ys := rise_uniq ha2 hb2 fun k => by
      constructor
      · intro hk
        rcases List.mem_cons.mp ((h k).mp (List.mem_cons_of_mem _ hk)) with e | m
        · have := ha1 k hk
          omega
        · exact m
      · intro hk
        rcases List.mem_cons.mp ((h k).mpr (List.mem_cons_of_mem _ hk)) with e | m
        · have := hb1 k hk
          omega
        · exact m
    rw [this]
theorem ints_rise {l : List Nat} (h : l.Pairwise (· < ·)) : (Kzt4Neutral.ints l).Pairwise (· < ·) := by
  unfold Kzt4Neutral.ints
  rw [List.pairwise_map]
  exact h.imp fun {a b} c => by omega
theorem ints_mem {l : List Nat} {k : Int} : k ∈ Kzt4Neutral.ints l ↔ ∃ x ∈ l, (x : Int) = k := by
  unfold Kzt4Neutral.ints
  rw [List.mem_map]
theorem range_rise (p : Nat) (f : Nat → Bool) : ((List.range p).filter f).Pairwise (· < ·) := List.Pairwise.filter _ (by first | exact List.pairwise_lt_range | exact List.pairwise_lt_range _)
/-! ## sums -/
def sumsOf (p : Nat) (A B : List Nat) : List Nat := A.flatMap fun x => B.map fun y => (x + y) % p
theorem sumsOf_cons (p x : Nat) (A B : List Nat) : sumsOf p (x :: A) B = (B.map fun y => (x + y) % p) ++ sumsOf p A B := by
  unfold sumsOf
  rw [List.flatMap_cons]
theorem sumsOf_len (p : Nat) (B : List Nat) : ∀ A : List Nat, (sumsOf p A B).length = A.length * B.length
  | [] => by simp [sumsOf]
  | x :: A => by rw [sumsOf_cons, List.length_append, List.length_map, sumsOf_len p B A, List.length_cons, Nat.succ_mul]; omega
theorem sums_mem {p : Nat} (hp : 0 < p) (A B : List Nat) (k : Nat) : k ∈ Kzt4.sums p A B ↔ k ∈ sumsOf p A B := by
  unfold Kzt4.sums sumsOf
  simp only [List.mem_filter, List.mem_range, List.any_eq_true, beq_iff_eq, List.mem_flatMap, List.mem_map]
  constructor
  · rintro ⟨_, y, hy, z, hz, e⟩
    exact ⟨y, hy, z, hz, e⟩
  · rintro ⟨y, hy, z, hz, e⟩
    exact ⟨by rw [← e]; exact Nat.mod_lt _ hp, y, hy, z, hz, e⟩
def apartOf (p : Nat) (A B : List Nat) : List Nat := A.flatMap fun x => (B.filter fun y => y != x).map fun y => (x + y) % p
theorem apartOf_cons (p x : Nat) (A B : List Nat) : apartOf p (x :: A) B = ((B.filter fun y => y != x).map fun y => (x + y) % p) ++ apartOf p A B := by
  unfold apartOf
  rw [List.flatMap_cons]
theorem apartOf_len (p : Nat) (B : List Nat) : ∀ A : List Nat, (apartOf p A B).length ≤ A.length * B.length
  | [] => by simp [apartOf]
  | x :: A => by
    have h1 := apartOf_len p B A
    have h2 := List.length_filter_le (fun y => y != x) B
    rw [apartOf_cons, List.length_append, List.length_map, List.length_cons, Nat.succ_mul]
    omega
theorem apart_mem {p : Nat} (hp : 0 < p) (A : List Nat) (k : Nat) : k ∈ Kzt4.apart p A ↔ k ∈ apartOf p A A := by
  unfold Kzt4.apart apartOf
  simp only [List.mem_filter, List.mem_range, List.any_eq_true, beq_iff_eq, List.mem_flatMap, List.mem_map, Bool.and_eq_true, bne_iff_ne]
  constructor
  · rintro ⟨_, y, hy, z, hz, n, e⟩
    exact ⟨y, hy, z, ⟨hz, fun h => n h.symm⟩, e⟩
  · rintro ⟨y, hy, z, ⟨hz, n⟩, e⟩
    exact ⟨by rw [← e]; exact Nat.mod_lt _ hp, y, hy, z, hz, fun h => n h.symm, e⟩
/-! ## points by number -/
def pnum (p : Nat) : List Nat → Nat
  | [] => 0
  | x :: l => pnum p l * p + x
theorem coords_zero (p x : Nat) : coords p 0 x = [] := rfl
theorem coords_succ (p n x : Nat) : coords p (n + 1) x = x % p :: coords p n (x / p) := by
  unfold coords
  rw [List.range_succ_eq_map, List.map_cons, List.map_map]
  congr 1
  · rw [Nat.pow_zero, Nat.div_one]
  · apply List.map_congr_left
    intro i _
    show x / p ^ (i + 1) % p = x / p / p ^ i % p
    rw [Nat.div_div_eq_div_mul, Nat.pow_succ, Nat.mul_comm]
theorem pnum_coords {p : Nat} (hp : 0 < p) : ∀ (n x : Nat), x < p ^ n → pnum p (coords p n x) = x
  | 0, x, h => by
    rw [Nat.pow_zero] at h
    rw [coords_zero]
    show 0 = x
    omega
  | n + 1, x, h => by
    rw [coords_succ]
    show pnum p (coords p n (x / p)) * p + x % p = x
    rw [pnum_coords hp n (x / p) (Nat.div_lt_of_lt_mul (by rw [Nat.mul_comm, ← Nat.pow_succ]; exact h))]
    exact Nat.div_add_mod' x p
theorem coords_pnum {p : Nat} (hp : 0 < p) : ∀ (l : List Nat), (∀ x ∈ l, x < p) → coords p l.length (pnum p l) = l ∧ pnum p l < p ^ l.length
  | [], _ => ⟨rfl, by show 0 < 1; omega⟩
  | x :: l, h => by
    obtain ⟨h1, h2⟩ := coords_pnum hp l fun y hy => h y (List.mem_cons_of_mem _ hy)
    have hx := h x List.mem_cons_self
    rw [List.length_cons]
    constructor
    · rw [coords_succ]
      show (pnum p l * p + x) % p :: coords p l.length ((pnum p l * p + x) / p) = x :: l
      have e1 : (pnum p l * p + x) % p = x := by
        rw [Nat.add_comm, Nat.add_mul_mod_self_right, Nat.mod_eq_of_lt hx]
      have e2 : (pnum p l * p + x) / p = pnum p l := by
        rw [Nat.add_comm, Nat.add_mul_div_right _ _ hp, Nat.div_eq_of_lt hx, Nat.zero_add]
      rw [e1, e2, h1]
    · show pnum p l * p + x < p ^ (l.length + 1)
      have : (pnum p l + 1) * p ≤ p ^ l.length * p := Nat.mul_le_mul_right _ h2
      rw [Nat.pow_succ]
      rw [Nat.succ_mul] at this
      omega
theorem grid_whole {p : Nat} : ∀ (n : Nat) (pt : List Nat), pt ∈ Kzt4.grid (List.replicate n (List.range p)) ↔ pt.length = n ∧ ∀ x ∈ pt, x < p
  | 0, pt => by
    show pt ∈ [[]] ↔ _
    rw [List.mem_singleton]
    constructor
    · rintro rfl
      exact ⟨rfl, fun x hx => by cases hx⟩
    · rintro ⟨h, _⟩
      exact List.length_eq_zero_iff.mp h
  | n + 1, pt => by
    rw [List.replicate_succ]
    show pt ∈ (List.range p).flatMap (fun x => (Kzt4.grid (List.replicate n (List.range p))).map fun y => x :: y) ↔ _
    simp only [List.mem_flatMap, List.mem_map, List.mem_range]
    constructor
    · rintro ⟨x, hx, y, hy, rfl⟩
      obtain ⟨h1, h2⟩ := (grid_whole n y).mp hy
      refine ⟨by rw [List.length_cons, h1], fun z hz => ?_⟩
      rcases List.mem_cons.mp hz with e | e
      · rw [e]; exact hx
      · exact h2 z e
    · rintro ⟨h1, h2⟩
      cases pt with
      | nil => cases h1
      | cons x y =>
        rw [List.length_cons] at h1
        exact ⟨x, h2 x List.mem_cons_self, y, (grid_whole n y).mpr ⟨by omega, fun z hz => h2 z (List.mem_cons_of_mem _ hz)⟩, rfl⟩
/-- the grid of all numbers, as a row -/
def wholeGrid (p n : Nat) : List Nat := (List.replicate n (p :: List.range p)).flatten
theorem whole_rows (p : Nat) : ∀ n, rowsOf (wholeGrid p n) = List.replicate n (p :: List.range p)
  | 0 => rowsOf_nil
  | n + 1 => by
    have e : wholeGrid p (n + 1) = p :: (List.range p ++ wholeGrid p n) := by
      unfold wholeGrid
      rw [List.replicate_succ, List.flatten_cons]
      rfl
    rw [e, rowsOf_cons, List.replicate_succ]
    have t : (List.range p ++ wholeGrid p n).take p = List.range p := by
      rw [List.take_append_of_le_length (by rw [List.length_range]; exact Nat.le_refl _), List.take_of_length_le (by rw [List.length_range]; exact Nat.le_refl _)]
    have d : (List.range p ++ wholeGrid p n).drop p = wholeGrid p n := by
      have := List.drop_left (l₁ := List.range p) (l₂ := wholeGrid p n)
      rw [List.length_range] at this
      exact this
    rw [t, d, whole_rows p n]
theorem whole_tails (p n : Nat) : (rowsOf (wholeGrid p n)).map List.tail = List.replicate n (List.range p) := by
  rw [whole_rows, List.map_replicate]
  rfl
theorem whole_len (p : Nat) : ∀ n, (wholeGrid p n).length = n * (p + 1)
  | 0 => by simp [wholeGrid]
  | n + 1 => by
    have ih := whole_len p n
    unfold wholeGrid at ih ⊢
    rw [List.replicate_succ, List.flatten_cons, List.length_append, ih, List.length_cons, List.length_range, Nat.succ_mul]
    omega
/-- the numbers of the points at which both are 0, as they are met -/
def metAt (p : Nat) (ts us pts : List (List Nat)) : List Nat := (pts.filter fun pt => valAt p ts pt == 0 && valAt p us pt == 0).map (pnum p)
theorem metAt_nil (p : Nat) (ts us : List (List Nat)) : metAt p ts us [] = [] := rfl
theorem metAt_yes {p : Nat} {ts us pts : List (List Nat)} {pt : List Nat} (h1 : valAt p ts pt = 0) (h2 : valAt p us pt = 0) : metAt p ts us (pt :: pts) = pnum p pt :: metAt p ts us pts := by
  unfold metAt
  rw [List.filter_cons, if_pos (by rw [h1, h2]; rfl), List.map_cons]
theorem metAt_no {p : Nat} {ts us pts : List (List Nat)} {pt : List Nat} (h : ¬ (valAt p ts pt = 0 ∧ valAt p us pt = 0)) : metAt p ts us (pt :: pts) = metAt p ts us pts := by
  unfold metAt
  rw [List.filter_cons, if_neg (by rw [Bool.and_eq_true, beq_iff_eq, beq_iff_eq]; exact h)]
theorem metAt_len (p : Nat) (ts us pts : List (List Nat)) : (metAt p ts us pts).length ≤ pts.length := by
  unfold metAt
  rw [List.length_map]
  exact List.length_filter_le _ _
theorem both_mem {p n : Nat} (hp : 0 < p) (ts us : List (List Nat)) (k : Nat) : k ∈ bothZero p n ts us ↔ k ∈ metAt p ts us (pointsOf (List.replicate n (List.range p))) := by
  unfold bothZero metAt
  rw [pointsOf_eq]
  simp only [List.mem_filter, List.mem_range, List.mem_map, grid_whole]
  constructor
  · rintro ⟨h1, h2⟩
    exact ⟨coords p n k, ⟨⟨coords_len p n k, coords_lt hp n k⟩, h2⟩, pnum_coords hp n k h1⟩
  · rintro ⟨pt, ⟨⟨h1, h2⟩, h3⟩, rfl⟩
    obtain ⟨e1, e2⟩ := coords_pnum hp pt h2
    rw [h1] at e1 e2
    rw [e1]
    exact ⟨e2, h3⟩
/-- how many points there are -/
theorem grid_count {p : Nat} : ∀ n, (Kzt4.grid (List.replicate n (List.range p))).length = p ^ n
  | 0 => rfl
  | n + 1 => by
    have ih := grid_count (p := p) n
    rw [List.replicate_succ]
    show ((List.range p).flatMap (fun x => (Kzt4.grid (List.replicate n (List.range p))).map fun y => x :: y)).length = _
    have : ∀ l : List Nat, (l.flatMap (fun x => (Kzt4.grid (List.replicate n (List.range p))).map fun y => x :: y)).length = p ^ n * l.length := by
      intro l
      induction l with
      | nil => simp
      | cons x l il => rw [List.flatMap_cons, List.length_append, il, List.length_map, ih, List.length_cons, Nat.mul_succ]; omega
    rw [this, List.length_range, Nat.pow_succ]
/-! ## the point's number, from its last unknown on -/
def pnFrom (p : Nat) (l : List Nat) (v : Nat) : Nat := l.foldl (fun v x => v * p + x) v
theorem pnFrom_cons (p x v : Nat) (l : List Nat) : pnFrom p (x :: l) v = pnFrom p l (v * p + x) := rfl
theorem pnum_rev (p : Nat) : ∀ l : List Nat, pnFrom p l.reverse 0 = pnum p l
  | [] => rfl
  | x :: l => by
    rw [List.reverse_cons]
    unfold pnFrom
    rw [List.foldl_append]
    have := pnum_rev p l
    unfold pnFrom at this
    rw [this]
    rfl
end Nn
namespace Nn
open PySem PySem.Spec PyProof.Rows L2
def zs (l : List Nat) : List Int := l.map fun (x : Nat) => (x : Int)
theorem zs_eq (l : List Nat) : Kzt4Neutral.ints l = zs l := rfl
/-! ## numbers as the program's values -/
def nv (l : List Nat) : List V := (zs l).map V.int
theorem nv_nil : nv [] = [] := rfl
theorem nv_cons (x : Nat) (l : List Nat) : nv (x :: l) = .int (x : Int) :: nv l := rfl
theorem nv_length (l : List Nat) : (nv l).length = l.length := by simp [nv, zs]
theorem nv_append (a b : List Nat) : nv (a ++ b) = nv a ++ nv b := by simp [nv, zs]
theorem nv_get (l : List Nat) (i : Nat) : (nv l)[i]? = l[i]?.map fun (x : Nat) => V.int (x : Int) := by
  simp only [nv, zs, List.getElem?_map, Option.map_map]
  rfl
theorem nv_get_some {l : List Nat} {i : Nat} {v : V} (h : (nv l)[i]? = some v) : ∃ x, l[i]? = some x ∧ v = .int (x : Int) := by
  rw [nv_get] at h
  cases e : l[i]? with
  | none => rw [e] at h; cases h
  | some x => rw [e] at h; exact ⟨x, rfl, (Option.some.inj h).symm⟩
theorem nv_drop (l : List Nat) (k : Nat) : (nv l).drop k = nv (l.drop k) := by simp [nv, zs, List.map_drop]
theorem nv_take (l : List Nat) (k : Nat) : (nv l).take k = nv (l.take k) := by simp [nv, zs, List.map_take]
theorem nv_flat (l : List Nat) : (nv l).all flatV = true := by
  rw [List.all_eq_true]
  intro v hv
  obtain ⟨z, _, rfl⟩ := List.mem_map.mp hv
  rfl
theorem ints_sum (l : List Nat) : (zs l).sum = ((Kzt1.total l : Nat) : Int) := by
  have h : ∀ (l : List Nat) (s : Nat), (s : Int) + (zs l).sum = ((l.foldl (· + ·) s : Nat) : Int) := by
    intro l
    induction l with
    | nil => intro s; simp [zs]
    | cons x l ih =>
      intro s
      rw [List.foldl_cons, ← ih (s + x)]
      show (s : Int) + ((x : Int) :: zs l).sum = _
      rw [List.sum_cons]
      omega
  have := h l 0
  unfold Kzt1.total
  rw [← this]
  simp
theorem ints_inj {a b : List Nat} : zs a = zs b ↔ a = b := by
  constructor
  · intro h
    have h2 := congrArg (List.map Int.toNat) h
    simpa [zs, Function.comp_def] using h2
  · rintro rfl; rfl
/-! ## slices -/
theorem cut_from {α : Type} (xs : List V) (k : Nat) : cutV xs (some (k : Int)) none = xs.drop k := by
  unfold cutV
  rw [HT.sIx_nat, HT.sIx_none]
  rcases Nat.le_total k xs.length with h | h
  · rw [Nat.min_eq_left h]
    exact List.take_of_length_le (by rw [List.length_drop]; exact Nat.le_refl _)
  · rw [Nat.min_eq_right h, List.drop_of_length_le h, List.drop_of_length_le (Nat.le_refl _)]
    exact List.take_nil
theorem cut_1 (l : List Nat) : cutV (nv l) (some 1) none = nv l.tail := by
  have := cut_from (α := Nat) (nv l) 1
  rw [show ((1 : Nat) : Int) = 1 from rfl] at this
  rw [this, nv_drop, List.drop_one]
theorem cut_to (xs : List V) (i j : Nat) (h : i ≤ j) : cutV xs (some (i : Int)) (some (j : Int)) = (xs.drop i).take (j - i) := by
  unfold cutV
  rw [HT.sIx_nat, HT.sIx_nat]
  rcases Nat.le_total i xs.length with h1 | h1
  · rw [Nat.min_eq_left h1]
    rcases Nat.le_total j xs.length with h2 | h2
    · rw [Nat.min_eq_left h2]
    · rw [Nat.min_eq_right h2, List.take_of_length_le (by rw [List.length_drop]; exact Nat.le_refl _), List.take_of_length_le (by rw [List.length_drop]; omega)]
  · rw [Nat.min_eq_right h1, List.drop_of_length_le h1, List.drop_of_length_le (Nat.le_refl _), List.take_nil, List.take_nil]
/-! ## heaps -/
theorem same_upd {H : Hp} {p : Addr} {o : HO} (h : H p = none) : Same H (upd H p o) := fun b x e => by
  rw [upd_ne (ne_of_none e h)]
  exact e
theorem same_upd2 {H H' : Hp} {p : Addr} {o : HO} (s : Same H H') (h : H p = none) : Same H (upd H' p o) := fun b x e => by
  rw [upd_ne (ne_of_none e h)]
  exact s b x e
/-- lists of numbers at addresses -/
def Held (H : Hp) : List Addr → List (List Nat) → Prop
  | [], [] => True
  | a :: as, t :: ts => H a = some (.lst (nv t)) ∧ Held H as ts
  | _, _ => False
theorem Held.mono {H H' : Hp} (s : Same H H') : ∀ {as : List Addr} {ts : List (List Nat)}, Held H as ts → Held H' as ts
  | [], [], _ => trivial
  | _ :: _, _ :: _, h => ⟨s _ _ h.1, Held.mono s h.2⟩
  | [], _ :: _, h => h
  | _ :: _, [], h => h
theorem Held.upd {H : Hp} {D : Addr} {o : HO} : ∀ {as : List Addr} {ts : List (List Nat)}, D ∉ as → Held H as ts → Held (upd H D o) as ts
  | [], [], _, _ => trivial
  | a :: as, _ :: _, n, h => ⟨by rw [upd_ne (fun z => n (by rw [z]; exact List.mem_cons_self))]; exact h.1, Held.upd (fun z => n (List.mem_cons_of_mem _ z)) h.2⟩
  | [], _ :: _, _, h => h
  | _ :: _, [], _, h => h
theorem Held.len {H : Hp} : ∀ {as : List Addr} {ts : List (List Nat)}, Held H as ts → as.length = ts.length
  | [], [], _ => rfl
  | _ :: _, _ :: _, h => by rw [List.length_cons, List.length_cons, Held.len h.2]
  | [], _ :: _, h => h.elim
  | _ :: _, [], h => h.elim
theorem Held.snoc {H : Hp} {a : Addr} {t : List Nat} (e : H a = some (.lst (nv t))) : ∀ {as : List Addr} {ts : List (List Nat)}, Held H as ts → Held H (as ++ [a]) (ts ++ [t])
  | [], [], _ => ⟨e, trivial⟩
  | _ :: _, _ :: _, h => ⟨h.1, Held.snoc e h.2⟩
  | [], _ :: _, h => h.elim
  | _ :: _, [], h => h.elim
theorem Held.get {H : Hp} : ∀ {as : List Addr} {ts : List (List Nat)} {i : Nat} {a : Addr}, Held H as ts → as[i]? = some a → ∃ t, ts[i]? = some t ∧ H a = some (.lst (nv t))
  | [], [], i, a, _, h => by simp at h
  | x :: _, t :: _, 0, a, h, e => by
    have : x = a := Option.some.inj e
    subst this
    exact ⟨t, rfl, h.1⟩
  | _ :: _, _ :: _, i + 1, a, h, e => Held.get (i := i) h.2 e
  | [], _ :: _, _, _, h, _ => h.elim
  | _ :: _, [], _, _, h, _ => h.elim
theorem refs_get {as : List Addr} {i : Nat} {v : V} (h : (as.map V.ref)[i]? = some v) : ∃ a, as[i]? = some a ∧ v = .ref a := by
  rw [List.getElem?_map] at h
  cases e : as[i]? with
  | none => rw [e] at h; cases h
  | some a => rw [e] at h; exact ⟨a, rfl, (Option.some.inj h).symm⟩
/-! ## a < b of two lists of whole numbers -/
theorem firstLt_map {e r : Nat → Bool} {fin : Bool} : ∀ l : List Nat, SeqAt.firstLt e r fin (l.map Nat.succ) = SeqAt.firstLt (fun j => e (j + 1)) (fun j => r (j + 1)) fin l
  | [] => rfl
  | j :: l => by
    rw [List.map_cons]
    show (if e (j + 1) = true then SeqAt.firstLt e r fin (l.map Nat.succ) else r (j + 1)) = (if e (j + 1) = true then SeqAt.firstLt (fun j => e (j + 1)) (fun j => r (j + 1)) fin l else r (j + 1))
    rw [firstLt_map l]
theorem firstLt_lex : ∀ ns ms : List Int, SeqAt.firstLt (fun j => decide (ns.getD j 0 = ms.getD j 0)) (fun j => decide (ns.getD j 0 < ms.getD j 0)) (decide (ns.length < ms.length)) (List.range (min ns.length ms.length)) = HT.lexLt ns ms
  | [], [] => rfl
  | [], y :: ys => by
    rw [List.length_nil, Nat.zero_min]
    show decide (0 < (y :: ys).length) = true
    simp
  | x :: xs, [] => by
    rw [List.length_nil, Nat.min_zero]
    show decide ((x :: xs).length < 0) = false
    simp
  | x :: xs, y :: ys => by
    have ih := firstLt_lex xs ys
    rw [List.length_cons, List.length_cons, show min (xs.length + 1) (ys.length + 1) = min xs.length ys.length + 1 by omega, List.range_succ_eq_map]
    show (if decide (x = y) = true then SeqAt.firstLt _ _ _ ((List.range (min xs.length ys.length)).map Nat.succ) else decide (x < y)) = _
    rw [firstLt_map, HT.lexLt_cons]
    by_cases h : x = y
    · rw [if_pos (decide_eq_true h), if_pos h, ← ih]
      have : decide (xs.length + 1 < ys.length + 1) = decide (xs.length < ys.length) := by simp
      rw [this]
      rfl
    · rw [if_neg (by simpa using h), if_neg h]
def rLtL (K : PySem.W.Frag) : R2 := fun x y H Q => ∃ (a b : Addr) (ns ms : List Int), x = .ref a ∧ y = .ref b ∧ SqL K H a (ns.map V.int) ∧ SqL K H b (ms.map V.int) ∧ Q (.bl (HT.lexLt ns ms)) H
/-- the j-th of a list's items is the j-th number -/
theorem num_at {its : List Value} {ns : List Int} (r : IntsAre its ns) {j : Nat} (h : j < its.toArray.size) : ∃ t, its.toArray[j] = .int (ns.getD j 0) t :=
  IntsAre.int_at r _ _ (by simp at h; simp [h])
theorem num_eq {A : Around} {s : Shared} {u v : Value} {x y : Int} (hu : ∃ t, u = .int x t) (hv : ∃ t, v = .int y t) : SeqAt.EqAt A s u v (decide (x = y)) := by
  obtain ⟨t, rfl⟩ := hu
  obtain ⟨t2, rfl⟩ := hv
  have z : decide (x = y) = (x == y) := by rw [Bool.eq_iff_iff, decide_eq_true_eq, beq_iff_eq]
  rw [z]
  exact SeqAt.EqAt.int_int _ _ _ _
theorem num_lt {A : Around} {s : Shared} {u v : Value} {x y : Int} (hu : ∃ t, u = .int x t) (hv : ∃ t, v = .int y t) : SeqAt.RcLt A s u v (decide (x < y)) := by
  obtain ⟨t, rfl⟩ := hu
  obtain ⟨t2, rfl⟩ := hv
  exact fun _ _ _ _ h => lt_int h
theorem op_ltL {X : Cx} (hu : X.A.units < cLine) : OpR X (compareOp .Lt) (rLtL X.K) := by
  rintro pins s σ H x y v u Q I rx ry ⟨a, b, ns, ms, rfl, rfl, ha, hb, q⟩
  obtain rfl : v = Value.ref a := rx
  obtain rfl : u = Value.ref b := ry
  obtain ⟨ia, va, la, _⟩ := I.list ha
  obtain ⟨ib, vb, lb, _⟩ := I.list hb
  have ra : IntsAre ia ns := va.ints
  have rb : IntsAre ib ms := vb.ints
  have less := SeqAt.RcLt.lists (A := X.A) (s := s) la.isList lb.isList hu (fun j h1 h2 => num_eq (num_at ra h1) (num_at rb h2)) (fun j h1 h2 _ => num_lt (num_at ra h1) (num_at rb h2))
  rw [List.size_toArray, List.size_toArray, ra.length, rb.length, firstLt_lex] at less
  exact less X.prog X.w X.xe (EP X pins σ Q) ⟨.bl _, H, I, rfl, q⟩
theorem lexLt_ints : ∀ a b : List Nat, HT.lexLt (zs a) (zs b) = lex a b
  | [], [] => rfl
  | [], _ :: _ => rfl
  | _ :: _, [] => rfl
  | x :: xs, y :: ys => by
    have ih := lexLt_ints xs ys
    show HT.lexLt ((x : Int) :: zs xs) ((y : Int) :: zs ys) = _
    rw [HT.lexLt_cons, lex_cons, ih]
    by_cases h : x = y
    · rw [if_pos h, if_pos (by rw [h])]
    · rw [if_neg h, if_neg (by omega)]
      simp
/-! ## == of two lists of whole numbers -/
theorem dp_nums {K : PySem.W.Frag} {H : Hp} : ∀ l : List Nat, DpAll K H (nv l) ((zs l).map PyData.int)
  | [] => .nil
  | x :: l => .cons (.int _) (dp_nums l)
theorem eqv_nums (a b : List Nat) : PyData.eqv (.list ((zs a).map PyData.int)) (.list ((zs b).map PyData.int)) = decide (a = b) := by
  have h := PySem.W.ked_eqvAll (zs a) (zs b)
  unfold PyData.eqv
  rw [h]
  by_cases e : a = b
  · rw [decide_eq_true e, decide_eq_true (by rw [e])]
  · rw [decide_eq_false e, decide_eq_false (fun z => e (ints_inj.mp z))]
theorem shaped_nums (a : List Nat) : SeqAt.shaped (.list ((zs a).map PyData.int)) = true := by
  simp [SeqAt.shaped, PyData.canLay0, PyData.canLayAll0, PyData.depth, PyData.depthAll, PySem.W.ke_canLayAll0, PySem.W.ke_depthAll]
theorem ifT {c : Bool} {A B : Prop} (hc : c = true) (h : A) : if c = true then A else B := by
  rw [if_pos hc]
  exact h
theorem ifF {c : Bool} {A B : Prop} (hc : c = false) (h : B) : if c = true then A else B := by
  rw [hc, if_neg Bool.false_ne_true]
  exact h
theorem addmod_nat (v x p : Nat) : ((v : Int) + (x : Int)) % (p : Int) = (((v + x) % p : Nat) : Int) := by
  rw [Int.natCast_emod, Int.natCast_add]
theorem modN_nat (a n : Nat) : (a : Int) % ((n : Int) + 1) = ((a % (n + 1) : Nat) : Int) := by
  rw [Int.natCast_emod, Int.natCast_add]
  rfl
theorem dec_T {x y : Int} (h : x = y) : decide (V.int x = V.int y) = true := by
  rw [h]
  exact decide_eq_true rfl
theorem dec_F {x y : Int} (h : x ≠ y) : decide (V.int x = V.int y) = false := decide_eq_false fun z => h (V.int.inj z)
/-! ## a def of the top, how it is called -/
structure Dfn (K : PySem.W.Frag) (mg : Str → Option Value) (x : Str) (st : Stmt) (ps : List Str) : Prop where
  ex : ∃ f fd, Fun K x x st f fd ∧ Binds K fd ps [] ∧ mg x = some (.ref f)
theorem take_more {α : Type} {l : List α} {i : Nat} {x : α} (h : l[i]? = some x) : l.take (i + 1) = l.take i ++ [x] := by
  rw [List.take_add_one, h]
  rfl
theorem drop_more {α : Type} {l : List α} {i : Nat} {x : α} (h : l[i]? = some x) : l.drop i = x :: l.drop (i + 1) := by
  obtain ⟨hi, e⟩ := List.getElem?_eq_some_iff.mp h
  rw [List.drop_eq_getElem_cons hi, e]
/-! ## the primes -/
theorem in_primes (p : Nat) : inV (.int (p : Int)) (nv [2, 3, 5, 7]) = (p == 2 || p == 3 || p == 5 || p == 7) := by
  show ((2 : Int) == (p : Int) || ((3 : Int) == (p : Int) || ((5 : Int) == (p : Int) || ((7 : Int) == (p : Int) || false)))) = _
  rw [Bool.eq_iff_iff]
  simp only [Bool.or_eq_true, beq_iff_eq, Bool.or_false]
  omega
theorem mem_of_get {α : Type} {l : List α} {i : Nat} {x : α} (h : l[i]? = some x) : x ∈ l := List.mem_of_getElem? h
end Nn
namespace NnS
open PySem PySem.Spec PyProof.Rows L2
/-- a set with nothing in it, as the type lays it -/
abbrev bare (w : World) : Obj := { cls := .type "set", dict := none, data := .set #[] 0 (.fresh 0 0 (!w.params.followText "set-order")) }
/-- behind the set's filling: the members are ns, all that stood stands -/
def Full (w : World) (s : Shared) (ns : List Int) (t : Shared) : Prop :=
  ∃ h k c, t = { s with heap := h, toks := k } ∧ SetR w h s.heap.objs.size (fun j => decide (j ∈ ns)) c ∧ c ≤ ns.length ∧ ∀ b o, s.heap.get? b = some o → h.get? b = some o
section
variable {P : Program} {w : World} {A : Around} {E : Value → Shared → Prop} {s : Shared} {l : Addr} {its : List Value} {ns : List Int}
theorem num_of (hi : IntsAre its ns) {i : Nat} {v : Value} (h : its.toArray[i]? = some v) : ∃ k t, ns[i]? = some k ∧ v = .int k t := by
  have h' : its[i]? = some v := by simpa using h
  have hl : i < ns.length := by rw [← hi.length]; exact (List.getElem?_eq_some_iff.mp h').1
  obtain ⟨t, e⟩ := IntsAre.int_at hi i v h'
  exact ⟨ns[i], t, List.getElem?_eq_getElem hl, by rw [e, List.getD_eq_getElem?_getD, List.getElem?_eq_getElem hl]; rfl⟩
theorem fill {cap : Nat} {od : Option Addr} {osl : Array (Option Value)} {R : Result → Shared → Prop} (hh : A.handled = none) (hol : s.heap.get? l = some { cls := .type "list", dict := od, data := .seq its.toArray cap, slots := osl }) (hi : IntsAre its ns) (hb : ns.length + 1 < scanBound)
    (hR : ∀ t, Full w s ns t → R (.ok (.ret .none)) t) :
    wpAny (model P w) A.in1 (Builtin.«set.__init__» ⟨[.ref s.heap.objs.size, .ref l], []⟩) (fun fin t => match fin with | .done f => R (.ok f) t | .again c => c.quiet = true ∧ codeAny (model P w) A c R t) (fun e t => R (.error e) t) { s with heap := s.heap.push (bare w) } := by
  have gS : (s.heap.push (bare w)).get? s.heap.objs.size = some (bare w) := Heap.get?_push_size _ rfl
  have gL : (s.heap.push (bare w)).get? l = some { cls := .type "list", dict := od, data := .seq its.toArray cap, slots := osl } := Heap.get?_push_of_some _ hol
  have isL : (s.heap.push (bare w)).IsList l its.toArray := ⟨_, gL, rfl, cap, rfl⟩
  have below : l < s.heap.objs.size := Heap.lt_size hol
  have sz : (s.heap.push (bare w)).objs.size = s.heap.objs.size + 1 := size_push' _ _
  have c1 := F.sub_list_set
  have c2 := F.sub_list_frozenset
  have c3 : (Value.type "list" == Value.type "dict") = false := by decide
  unfold Builtin.«set.__init__»
  unfold noKeywords
  unfold Builtin.Frozenset.updateFrom
  generalize eI : pyIter = pI
  wp_walk
  subst eI
  refine wpAny_pyIter_list isL (wpAny_bind (wpAny_runValue ?_))
  have up : l ≠ (s.heap.push (bare w)).objs.size := fun e => absurd (e ▸ below : (s.heap.push (bare w)).objs.size < s.heap.objs.size) (by rw [sz]; omega)
  have away : s.heap.objs.size ∉ [(s.heap.push (bare w)).objs.size, l] := fun m => by
    rcases List.mem_cons.mp m with e | e
    · rw [sz] at e
      exact absurd e (Nat.ne_of_lt (Nat.lt_succ_self _))
    · exact Nat.lt_irrefl _ (List.mem_singleton.mp e ▸ below)
  have len : its.toArray.size = ns.length := by rw [List.size_toArray]; exact hi.length
  refine set_update_ints ((Walks.list (by simp [hh]) _ l up its.toArray).toS) s.heap.objs.size away ns len hb (fun i v e => num_of hi e) its.toArray.size 0 _ rfl (Nat.zero_le _) ⟨⟨_, Heap.get?_push_size _ rfl, rfl, rfl⟩, isL.push _⟩
    ⟨0, Nat.le_refl 0, setR_new_at (Heap.get?_push_of_some _ gS)⟩ fun t c mv hc full => ?_
  obtain ⟨h', g, d, k, os⟩ := t
  obtain rfl : g = s.gens := mv.gens
  obtain rfl : d = s.drawn := mv.drawn
  obtain rfl : os = s.os := mv.os
  show wpAny _ _ _ _ _ _
  refine wpAny_pure ?_
  show wpAny _ _ (ret Value.none) _ _ _
  refine wpAny_pure (hR _ ⟨h', k, c, rfl, full, len ▸ hc, fun b o e => mv.heap b o (fun m => ?_) (Heap.get?_push_of_some _ (Heap.get?_push_of_some _ e))⟩)
  have lt : b < s.heap.objs.size := Heap.lt_size e
  rcases List.mem_cons.mp m with z | z
  · exact Nat.lt_irrefl _ (z ▸ lt)
  · have z := List.mem_singleton.mp z
    rw [z, sz] at lt
    exact Nat.lt_irrefl _ (Nat.lt_of_succ_lt lt)
/-- set(xs), xs a list of whole numbers -/
theorem set_list {cap : Nat} {od : Option Addr} {osl : Array (Option Value)} {Q : Value → Shared → Prop} (hh : A.handled = none) (hol : s.heap.get? l = some { cls := .type "list", dict := od, data := .seq its.toArray cap, slots := osl }) (hi : IntsAre its ns) (hb : ns.length + 1 < scanBound)
    (hQ : ∀ t, Full w s ns t → Q (.ref s.heap.objs.size) t) : wpAny (model P w) A (call (.type "set") [.ref l]) Q E s := by
  obtain ⟨_, _, m1⟩ := F.called_set.mro
  have m2 := F.called_set.made
  have m3 := F.called_set.sub
  have m4 := F.called_set.notType
  have m5 := F.called_set.canCreate
  have m6 := F.typeCall_set_1 (.ref l)
  apply wpAny_call
  apply codeAny_of_tree
  show wpAny _ _ (callAny (.type "set") _) _ _ _
  apply wpAny_pure
  refine ⟨Code.quiet_builtin _ (by decide +kernel), ?_⟩
  apply codeAny_builtin F.entry_type_call
  rw [Around.under_plain (weight_type_call_type "set" [Value.ref l] []) rfl]
  repeat (any_goals (first | assumption | wp_step))
  refine codeAny_mono (code_set_led1 (Value.ref l) (E := E) (Q₁ := fun v t => v = .ref s.heap.objs.size ∧ t = { s with heap := s.heap.push (bare w) }) ⟨rfl, rfl⟩) fun r t hr => ?_
  match r, hr with
  | .error e, hr => exact hr
  | .ok (.ret v), hr =>
    obtain ⟨rfl, rfl⟩ := hr
    have n1 : Shared.TypeIs { s with heap := s.heap.push (bare w) } (.ref s.heap.objs.size) "set" := ⟨_, Heap.get?_push_size _ rfl, rfl⟩
    have n2 := F.called_set.init.lookup
    have n3 := F.called_set.init.bind (Value.ref s.heap.objs.size)
    repeat (any_goals (first | assumption | wp_step))
    refine codeAny_mono (codeAny_call_builtin (R := wants (fun r t => r = .none ∧ Full w s ns t) E) F.called_set.init.plain F.entry_set_init (check_set_init_1 n1 (fill (by simp [hh]) hol hi hb fun t f => ⟨rfl, f⟩))) fun r2 t2 h2 => ?_
    match r2, h2 with
    | .error e, h2 => exact h2
    | .ok (.ret v), h2 =>
      obtain ⟨rfl, f⟩ := h2
      have n4 := hQ _ f
      repeat (any_goals (first | assumption | wp_step))
    | .ok .next, h2 => exact h2.elim
  | .ok .next, hr => exact hr.elim
end
end NnS
namespace NnS
open PySem PySem.Spec PyProof.Rows L2
/-- behind sorted(a set): a new list of the members, rising -/
def Told (s : Shared) (S : Int → Bool) (n : Nat) (v : Value) (t : Shared) : Prop :=
  ∃ p, v = .ref p ∧ ∃ (out : List Value) (c : Nat) (ns : List Int), (∀ b o, s.heap.get? b = some o → t.heap.get? b = some o) ∧ t.gens = s.gens ∧ t.os = s.os ∧ s.heap.objs.size ≤ p ∧ t.heap.get? p = some (seqObj "list" out.toArray c) ∧
    IntsAre out ns ∧ ns.Pairwise (· < ·) ∧ (∀ k, k ∈ ns ↔ S k = true) ∧ ns.length = n
section
variable {P : Program} {w : World} {A : Around} {E : Value → Shared → Prop} {s : Shared} {a : Addr} {S : Int → Bool} {n : Nat}
theorem iv_key {e : Int × Value} (g : GoodE e) : SrtO.iv e.2 = keyOf e := by
  obtain ⟨x, v⟩ := e
  obtain ⟨k, t, e1, _⟩ := g
  cases e1
  rfl
/-- sorted(a set of whole numbers), however many -/
theorem sorted_any {Q : Value → Shared → Prop} (R : SetR w s.heap a S n) (hh : A.handled = none) (hQ : ∀ v t, Told s S n v t → Q v t) : wpAny (model P w) A (call (.builtin "sorted") [.ref a]) Q E s := by
  obtain ⟨o, es, ep, tb, ho, ex, hd, good, nd, mem, few, fits, size, rise, led⟩ := R
  refine Calls.call_function_entry kind_sorted plain_sorted entry_sorted (args_sorted1 _) ?_
  unfold Builtin.«sorted»
  refine wpAny_bind (m := checkCount "sorted" 1 1 _) (wpAny_pure (wpAny_bind (collect_set (A := A.in1) hh ⟨o, ho, ex.1, hd⟩ fits few rise led fun t vs k1 le g1 o1 pm => ?_)))
  have allI : ∀ v ∈ vs, ∃ i k, v = Value.int i k := fun v hv => by
    obtain ⟨e, he, rfl⟩ := List.mem_map.mp (pm.mem_iff.mp hv)
    obtain ⟨i, k, e1, _⟩ := good e he
    exact ⟨i, k, e1⟩
  have hI : IntsAre vs (vs.map SrtO.iv) := SrtO.ints_iv allI
  have vl : vs.length = es.size := by rw [pm.length_eq, List.length_map, Array.length_toList]
  have room : vs.length ≤ sizeLine := by rw [vl]; exact fits_of_scanBound few
  have keys : (vs.map SrtO.iv).Perm (es.toList.map keyOf) := by
    have q := pm.map SrtO.iv
    rw [List.map_map] at q
    have e : es.toList.map (SrtO.iv ∘ fun x => x.2) = es.toList.map keyOf := List.map_congr_left fun e he => iv_key (good e he)
    rw [e] at q
    exact q
  refine wpAny_bind (wpAny_newList ?_ room)
  have new : (t.heap.push (seqObj "list" vs.toArray 0)).get? t.heap.objs.size = some (seqObj "list" vs.toArray 0) := Heap.get?_push_size _ rfl
  refine wpAny_bind (wpAny_holding (wpAny_call_entry slot_list_sort ⟨_, new, rfl⟩ entry_list_sort (SrtO.list_sort_ord SrtO.swo_int new room (fun h2 => SrtO.ints_sortable hI h2) fun out b1 b2 => ⟨_, rfl, ?_⟩) (args_list_sort _)))
  obtain ⟨d1, d2, d3⟩ := SrtO.ints_out hI b1 b2
  obtain ⟨c, hc⟩ := sortedHeap_at (vs := vs) (out := out.toArray) new
  have all := d2.trans keys
  refine wpAny_pure ⟨_, rfl, hQ _ _ ⟨t.heap.objs.size, rfl, out, c, out.map SrtO.iv, fun b u e => ?_, g1, o1, le, hc, d1, lt_of_le_nodup _ d3 (all.nodup_iff.mpr nd), fun k => by rw [all.mem_iff, ← mem k], ?_⟩⟩
  · have was := k1 b u e
    have lt := Heap.lt_size was
    refine (sortedHeap_old (Nat.ne_of_lt lt) ?_).trans (Heap.get?_push_of_some _ was)
    rw [size_push']
    exact Nat.lt_succ_of_lt lt
  · rw [all.length_eq, List.length_map, Array.length_toList]
    exact size
end
end NnS
namespace NnS
open PySem PySem.Spec PyProof.Rows L2
section
variable {X : Cx}
/-- set(xs), xs a list of whole numbers: a new set of these -/
def rSetL (K : PySem.W.Frag) (w : World) : List V → Hp → VK → Prop := fun xs H Q => ∃ (l : Addr) (ns : List Int), xs = [V.ref l] ∧ SqL K H l (ns.map V.int) ∧ ns.length + 1 < scanBound ∧
  ∀ (a : Addr) (c : Nat), H a = none → Q (.ref a) (upd H a (SetO w a (fun j => decide (j ∈ ns)) c))
theorem cr_setL (calm : X.calm = true) : CallR X (.type "set") (rSetL X.K X.w) := by
  intro pins s σ H xs us Q I r h
  obtain ⟨l, ns, rfl, hs, hb, q⟩ := h
  obtain ⟨its, rv, ⟨⟨cls, od, data, osl⟩, cap, ho, h1, _, h2⟩, _⟩ := I.list hs
  rw [Vals.ref1 r]
  obtain rfl : cls = _ := h1
  obtain rfl : data = _ := h2
  refine set_list (I.ok.hd calm) ho rv.ints hb fun t f => ?_
  obtain ⟨h', k, c, rfl, full, _, keep⟩ := f
  exact ⟨.ref _, _, I.laid (t' := k) keep (Nat.le_refl _) (setO_new full), rfl, q _ c (I.hok.fresh (Nat.le_refl _))⟩
/-- sorted(a set of whole numbers): a new list of the members, rising -/
def rSortSet (w : World) : List V → Hp → VK → Prop := fun vs H Q => ∃ (a : Addr) (S : Int → Bool) (n : Nat), vs = [V.ref a] ∧ H a = some (SetO w a S n) ∧
  ∀ (ns : List Int) (p : Addr), ns.Pairwise (· < ·) → (∀ k : Int, k ∈ ns ↔ S k = true) → H p = none → Q (.ref p) (upd H p (.lst (ns.map V.int)))
theorem cr_sortSet (calm : X.calm = true) : CallR X (.builtin "sorted") (rSortSet X.w) := by
  intro pins s σ H vs us Q I r h
  obtain ⟨a, S, n, rfl, ha, q⟩ := h
  have R := setO_get I ha
  rw [Vals.ref1 r]
  have small : n ≤ sizeLine := by
    obtain ⟨_, _, _, _, _, _, _, _, _, _, few, _, size, _⟩ := R
    rw [← size]
    exact fits_of_scanBound few
  refine sorted_any R (I.ok.hd calm) fun v t told => ?_
  obtain ⟨p, rfl, out, c, ns, keep, gs, os, le, hp, hi, rise, mem, len⟩ := told
  have new : H p = none := I.hok.fresh le
  have fit : (ns.map V.int).length ≤ sizeLine := by rw [List.length_map, len]; exact small
  have J : Inv X pins σ (upd H p (.lst (ns.map V.int))) { s with heap := t.heap, gens := t.gens, drawn := t.drawn, toks := t.toks } := I.call (ch := []) (Un.laid keep le new) (I.hok.laid keep le ⟨fit, out, c, vals_of_ints hi, hp⟩) (by rw [gs]; exact I.bare) (fun _ z => nomatch z)
  have e : t = { s with heap := t.heap, gens := t.gens, drawn := t.drawn, toks := t.toks } := by
    rcases t with ⟨_, _, _, _, _⟩
    cases os
    rfl
  rw [e]
  exact ⟨.ref p, _, J, rfl, q ns p rise mem new⟩
end
end NnS
namespace Nn
open PySem PySem.Spec PyProof.Rows L2
/-! ## the text -/
def top (i : Nat) : Stmt := PySem.Challenge.pw_notnought_s07_common.main.body.getD i (.Pass ⟨0, 0, 0, 0⟩)
abbrev sCommon : Stmt := top 5
abbrev sHas : Stmt := top 6
abbrev sTerms : Stmt := top 7
abbrev sPoly : Stmt := top 8
abbrev sTerm : Stmt := top 9
abbrev sPlace : Stmt := top 10
abbrev sTDeg : Stmt := top 11
abbrev sCtd : Stmt := top 12
abbrev sRows : Stmt := top 13
abbrev sWG : Stmt := top 14
abbrev sPts : Stmt := top 15
abbrev sPN : Stmt := top 16
abbrev sVal : Stmt := top 17
abbrev sTVal : Stmt := top 18
abbrev sPow : Stmt := top 19
/-- what the top has written: for the polynomials -/
structure TxtP (K : PySem.W.Frag) (mg : Str → Option Value) : Prop where
  primes : ∃ a, mg "PRIMES" = some (.ref a) ∧ ∀ H : Hp, SqT K H a (nv [2, 3, 5, 7])
  mU : ∃ t, mg "MOST_UNKNOWNS" = some (.int 3 t)
  mT : ∃ t, mg "MOST_TIMES" = some (.int 12 t)
  nT : ∃ t, mg "NOT_AS_TOLD" = some (.int (-22) t)
  len : mg "len" = none
  range : mg "range" = none
  max : mg "max" = none
  sum : mg "sum" = none
  dHas : Dfn K mg "has_sizes" sHas ["p", "n"]
  dTerms : Dfn K mg "terms_of" sTerms ["n", "f"]
  dPoly : Dfn K mg "is_polynomial" sPoly ["p", "n", "f"]
  dTerm : Dfn K mg "is_term" sTerm ["p", "term"]
  dPlace : Dfn K mg "place_of" sPlace ["term"]
  dTDeg : Dfn K mg "term_degree" sTDeg ["term"]
section
variable {P : Program} {w : World} {K : PySem.W.Frag} {mg : Str → Option Value} {base : Heap}
/-! ## has_sizes -/
def spHas : Sp := fun vs H Q _ => ∃ p n : Nat, vs = [.int (p : Int), .int (n : Int)] ∧ Q (.bl (Kzt1.okField p n)) H
theorem scHas : FnScope ["p", "n"] ["p", "n"] (defScope sHas) := ⟨rfl, rfl, rfl, by decide +kernel, rfl, by decide +kernel, by decide +kernel⟩
theorem ok_has {f : Addr} {fd : FuncData} {k : Nat} (F : Fun K "has_sizes" "has_sizes" sHas f fd) (T : TxtP K mg) : FnOk P w K mg base CX0 (k + 1) f fd ["p", "n"] spHas := by
  obtain ⟨aP, gP, tP⟩ := T.primes
  obtain ⟨tU, gU⟩ := T.mU
  refine F.ok scHas (fun vs H Q E h => ?_) (fun cdv A outer s H vs Q E hr h => ?_)
  · obtain ⟨p, n, rfl, _⟩ := h
    rfl
  · obtain ⟨p, n, rfl, q⟩ := h
    refine ⟨_, pss_one (ps_ret (pe_and (pe_cmpR op_in_seq (pv 0) (pe_glob (by rfl) gP (show RelV (.ref aP) (.ref aP) from rfl)) (by rfl))
      (pe_and (pe_cmpR op_le pe_int (pv 1) (nomark _)) (pe_one (pe_cmpR op_le (pv 1) (pe_glob (by rfl) gU (show RelV (.int 3) (.int 3 tU) from ⟨_, rfl⟩)) (nomark _)))))), ?_⟩
    refine ⟨_, rfl, aP, _, rfl, .inr (tP H), rfl, nv_flat _, _, rfl, ?_⟩
    show if inV (.int (p : Int)) (nv [2, 3, 5, 7]) = true then _ else _
    unfold Kzt1.okField at q
    rw [in_primes]
    refine ite2 (fun h1 => ?_) (fun h1 => ?_)
    · rw [h1] at q
      refine ⟨_, rfl, _, _, rfl, rfl, _, rfl, ite2 (fun h2 => ?_) (fun h2 => ?_)⟩
      · refine ⟨_, rfl, _, _, rfl, rfl, ?_⟩
        have e1 : decide (1 ≤ n) = true := decide_eq_true (by have := of_decide_eq_true h2; omega)
        have e2 : decide ((n : Int) ≤ 3) = decide (n ≤ 3) := by
          by_cases h : n ≤ 3
          · rw [decide_eq_true h, decide_eq_true (by omega)]
          · rw [decide_eq_false h, decide_eq_false (by omega)]
        rw [e1] at q
        show Q (V.bl (decide ((n : Int) ≤ 3))) H
        rw [e2]
        exact q
      · have e1 : decide (1 ≤ n) = false := decide_eq_false (fun z => h2 (decide_eq_true (by omega)))
        rw [e1] at q
        exact q
    · rw [Bool.not_eq_true] at h1
      rw [h1] at q
      exact q
/-! ## is_term -/
def spTerm (K : PySem.W.Frag) : Sp := fun vs H Q _ => ∃ (a : Addr) (p : Nat) (t : List Nat), vs = [.int (p : Int), .ref a] ∧ SqL K H a (nv t) ∧ 2 ≤ t.length ∧ ∀ H', Same H H' → Q (.bl (okTerm p t)) H'
theorem scTerm : FnScope ["p", "term"] ["p", "term"] (defScope sTerm) := ⟨rfl, rfl, rfl, by decide +kernel, rfl, by decide +kernel, by decide +kernel⟩
theorem ok_term {f : Addr} {fd : FuncData} {k : Nat} (F : Fun K "is_term" "is_term" sTerm f fd) (T : TxtP K mg) : FnOk P w K mg base CX0 (k + 1) f fd ["p", "term"] (spTerm K) := by
  obtain ⟨tT, gT⟩ := T.mT
  refine F.ok scTerm (fun vs H Q E h => ?_) (fun cdv A outer s H vs Q E hr h => ?_)
  · obtain ⟨a, p, t, rfl, _⟩ := h
    rfl
  · obtain ⟨a, p, t, rfl, hS, hl, q⟩ := h
    refine ⟨_, pss_one (ps_ret (pe_and (pe_cmpR op_le pe_int (pe_ix ix_list (pv 1) pe_int (fun _ _ => rfl)) (nomark _))
      (pe_and (pe_cmpR op_lt (pe_ix ix_list (pv 1) pe_int (fun _ _ => rfl)) (pv 0) (nomark _))
      (pe_one (pe_cmpR op_le (pe_callB (cr_max rfl) (by rfl) T.max (by decide +kernel) (pa_cons (pe_slice sl_list (pv 1) (po_some pe_int) po_none) pa_nil)) (pe_glob (by rfl) gT (show RelV (.int 12) (.int 12 tT) from ⟨_, rfl⟩)) (nomark _)))))), ?_⟩
    match t, hl, hS, q with
    | c :: e, hl, hS, q =>
    have q' : ∀ H', Same H H' → Q (.bl (decide (1 ≤ c) && (decide (c < p) && decide (∀ x ∈ e, x ≤ 12)))) H' := q
    refine ⟨_, rfl, a, _, 0, .int (c : Int), rfl, rfl, hS, atI_nat (j := 0) rfl, _, _, rfl, rfl, _, rfl, ite2 (fun h1 => ?_) (fun h1 => ?_)⟩
    · have e1 : decide (1 ≤ c) = true := decide_eq_true (by have := of_decide_eq_true h1; omega)
      rw [e1] at q'
      refine ⟨_, rfl, a, _, 0, .int (c : Int), rfl, rfl, hS, atI_nat (j := 0) rfl, _, rfl, _, _, rfl, rfl, _, rfl, ite2 (fun h2 => ?_) (fun h2 => ?_)⟩
      · have e2 : decide (c < p) = true := decide_eq_true (by have := of_decide_eq_true h2; omega)
        rw [e2] at q'
        refine ⟨_, rfl, 1, rfl, a, _, rfl, hS, fun b nb => ?_⟩
        rw [cut_1]
        refine ⟨b, zs e, rfl, .inl (.inl upd_same), ?_, fun m hm hle => ⟨_, _, rfl, rfl, ?_⟩⟩
        · show 0 < (zs e).length
          rw [List.length_cons] at hl
          simp only [zs, List.length_map]
          omega
        · have e3 : decide (m ≤ 12) = decide (∀ x ∈ e, x ≤ 12) := by
            obtain ⟨x, hx, rfl⟩ := List.mem_map.mp hm
            by_cases h : ∀ x ∈ e, x ≤ 12
            · rw [decide_eq_true h]
              have := h x hx
              exact decide_eq_true (by omega)
            · rw [decide_eq_false h]
              refine decide_eq_false fun z => h fun y hy => ?_
              have := hle (y : Int) (List.mem_map_of_mem hy)
              omega
          show Q (V.bl (decide (m ≤ 12))) _
          rw [e3]
          exact q' _ (same_upd nb)
      · have e2 : decide (c < p) = false := decide_eq_false (fun z => h2 (decide_eq_true (by omega)))
        rw [e2] at q'
        exact q' _ (Same.refl _)
    · have e1 : decide (1 ≤ c) = false := decide_eq_false (fun z => h1 (decide_eq_true (by omega)))
      rw [e1] at q'
      exact q' _ (Same.refl _)
/-! ## term_degree -/
def spTDeg (K : PySem.W.Frag) : Sp := fun vs H Q _ => ∃ (a : Addr) (t : List Nat), vs = [.ref a] ∧ SqL K H a (nv t) ∧ ∀ H', Same H H' → Q (.int ((Kzt1.total t.tail : Nat) : Int)) H'
theorem scTDeg : FnScope ["term"] ["term"] (defScope sTDeg) := ⟨rfl, rfl, rfl, by decide +kernel, rfl, by decide +kernel, by decide +kernel⟩
theorem ok_tdeg {f : Addr} {fd : FuncData} {k : Nat} (F : Fun K "term_degree" "term_degree" sTDeg f fd) (T : TxtP K mg) : FnOk P w K mg base CX0 (k + 1) f fd ["term"] (spTDeg K) := by
  refine F.ok scTDeg (fun vs H Q E h => ?_) (fun cdv A outer s H vs Q E hr h => ?_)
  · obtain ⟨a, t, rfl, _⟩ := h
    rfl
  · obtain ⟨a, t, rfl, hS, q⟩ := h
    refine ⟨_, pss_one (ps_ret (pe_callB (cr_sum rfl) (by rfl) T.sum (by decide +kernel) (pa_cons (pe_slice sl_list (pv 0) (po_some pe_int) po_none) pa_nil))), ?_⟩
    refine ⟨_, rfl, 1, rfl, a, _, rfl, hS, fun b nb => ?_⟩
    rw [cut_1]
    refine ⟨b, zs t.tail, rfl, .inl (.inl upd_same), ?_⟩
    rw [ints_sum]
    exact q _ (same_upd nb)
/-! ## place_of -/
def spPlace (K : PySem.W.Frag) : Sp := fun vs H Q _ => ∃ (a : Addr) (t : List Nat), vs = [.ref a] ∧ SqL K H a (nv t) ∧ t.length ≤ 400 ∧ ∀ H' r, Same H H' → H r = none → H' r = some (.lst (nv (place t.tail))) → Q (.ref r) H'
theorem scPlace : FnScope ["term"] ["term"] (defScope sPlace) := ⟨rfl, rfl, rfl, by decide +kernel, rfl, by decide +kernel, by decide +kernel⟩
theorem ok_place {f : Addr} {fd : FuncData} {k : Nat} (F : Fun K "place_of" "place_of" sPlace f fd) (T : TxtP K mg) : FnOk P w K mg base CX0 (k + 2) f fd ["term"] (spPlace K) := by
  obtain ⟨fD, fdD, FD, bD, gD⟩ := T.dTDeg.ex
  have GD : FnOk P w K mg base CX0 1 fD fdD ["term"] (spTDeg K) := ok_tdeg FD T
  refine F.ok scPlace (fun vs H Q E h => ?_) (fun cdv A outer s H vs Q E hr h => ?_)
  · obtain ⟨a, t, rfl, _⟩ := h
    rfl
  · obtain ⟨a, t, rfl, hS, hl, q⟩ := h
    have hr1 : Room 1 _ := hr.mono (by omega)
    refine ⟨_, pss_one (ps_ret (pe_op op_cat (pe_lst (pa_cons (pe_call GD hr1 (by rfl) gD FD.kp bD .nil pass0 (pa_cons (pv 0) pa_nil)) pa_nil)) (pe_slice sl_list (pv 0) (po_some pe_int) po_none))), ?_⟩
    refine ⟨_, rfl, a, t, rfl, hS, fun H1 s1 => ?_⟩
    refine ⟨(by show 1 ≤ sizeLine; decide), fun c nc => ?_⟩
    have s2 : Same H1 (upd H1 c (.lst [V.int ((Kzt1.total t.tail : Nat) : Int)])) := same_upd nc
    refine ⟨_, rfl, 1, rfl, a, _, rfl, (s1.trans s2).seq hS, fun b nb => ?_⟩
    rw [cut_1]
    have s3 : Same (upd H1 c (.lst [V.int ((Kzt1.total t.tail : Nat) : Int)])) (upd (upd H1 c (.lst [V.int ((Kzt1.total t.tail : Nat) : Int)])) b (.lst (nv t.tail))) := same_upd nb
    refine ⟨c, b, [V.int ((Kzt1.total t.tail : Nat) : Int)], nv t.tail, rfl, rfl, s3 _ _ upd_same, upd_same, ?_, fun r nr => ?_⟩
    · rw [nv_length, List.length_tail]
      show 1 + (t.length - 1) ≤ 2 ^ 24
      omega
    · refine q _ r (((s1.trans s2).trans s3).trans (same_upd nr)) (s1.free (s2.free (s3.free nr))) ?_
      rw [upd_same]
      rfl
/-! ## terms_of -/
def spTerms (K : PySem.W.Frag) : Sp := fun vs H Q _ => ∃ (a : Addr) (n : Nat) (F : List Nat), vs = [.int (n : Int), .ref a] ∧ SqL K H a (nv F) ∧ n ≤ 3 ∧ F.length ≤ 400 ∧ F.length % (n + 1) = 0 ∧
  ∀ H' r as, Same H H' → H r = none → H' r = some (.lst (as.map V.ref)) → Held H' as (chunks (n + 1) F) → Q (.ref r) H'
theorem scTerms : FnScope ["n", "f", "start"] ["n", "f"] (defScope sTerms) := ⟨rfl, rfl, rfl, by decide +kernel, rfl, by decide +kernel, by decide +kernel⟩
theorem rgc_up {L k : Nat} (hL : L ≤ 400) (hk : k ≤ 4) (h0 : 0 < k) (hm : L % k = 0) : RgC 0 (L : Int) (k : Int) (L / k : Nat) := by
  have e : Builtin.Range.rangeSize 0 (L : Int) (k : Int) = ((L / k : Nat) : Int) := by
    have hL' : L = k * (L / k) := by have := Nat.div_add_mod L k; omega
    rw [PyProof.Rows.rangeSize_pos (by omega) (by omega)]
    have : (L : Int) + (k : Int) - 1 = ((L + k - 1 : Nat) : Int) := by omega
    rw [this, ← Int.natCast_ediv]
    congr 1
    rw [show L + k - 1 = (k - 1) + L by omega]
    rw [hL', Nat.add_mul_div_left _ _ h0, Nat.div_eq_of_lt (by omega), Nat.mul_div_cancel_left _ h0]
    omega
  refine ⟨by omega, by omega, ?_, e⟩
  have hd : L / k ≤ L := Nat.div_le_self _ _
  unfold Builtin.Range.small
  rw [e, if_pos (by omega)]
  clear e
  generalize L / k = z at hd ⊢
  simp only [Builtin.Range.rangeFitsLong, Bool.and_eq_true, Bool.or_eq_true, decide_eq_true_eq, beq_iff_eq]
  omega
theorem chunks_get {k i : Nat} {F : List Nat} (h : i < F.length / k) : (chunks k F)[i]? = some (chunk k F i) := by
  unfold chunks
  rw [List.getElem?_map, List.getElem?_range h]
  rfl
theorem ok_terms {f : Addr} {fd : FuncData} {k : Nat} (F : Fun K "terms_of" "terms_of" sTerms f fd) (T : TxtP K mg) : FnOk P w K mg base CX0 (k + 1) f fd ["n", "f"] (spTerms K) := by
  refine F.ok scTerms (fun vs H Q E h => ?_) (fun cdv A outer s H vs Q E hr h => ?_)
  · obtain ⟨a, n, F, rfl, _⟩ := h
    rfl
  · obtain ⟨a, n, F, rfl, hS, hn, hl, hm, q⟩ := h
    refine ⟨_, pss_one (ps_ret (pe_lc (own := [("start", 2)]) (g := gName 2) (tt := tYes) (te := tSl (rSlL K) (tVar 1) _ _) rfl scTerms.nd
      (pi_range3 (by rfl) T.range (pa_cons pe_int (pa_cons (pe_callB call_len_seq (by rfl) T.len PySem.boot_len (pa_cons (pv 1) pa_nil)) (pa_cons (pe_op op_add (pv 0) pe_int) pa_nil))))
      (blkOk_by (N := ["n", "f", "start"]) (sc := defScope sTerms) (by decide +kernel))
      (fun _ _ _ _ _ => pg_name (i := 2) scTerms.nd rfl (Or.inl rfl)) (fun _ _ _ _ _ => pts_nil)
      (fun _ _ _ _ _ => pe_slice sl_list (pv 1) (po_some (pv 2)) (po_some (pe_op op_add (pe_op op_add (pv 2) (pv 0)) pe_int))))), ?_⟩
    refine ⟨_, rfl, a, _, rfl, .inl hS, _, rfl, _, _, rfl, rfl, 0, (F.length : Int), ((n + 1 : Nat) : Int), F.length / (n + 1), ?_, rgc_up hl (by omega) (by omega) hm, fun D nD => ?_⟩
    · rw [nv_length]; rfl
    refine lc_it walk_rangeC (fun i H' => ∃ as, Same H H' ∧ H' D = some (.lst (as.map V.ref)) ∧ D ∉ as ∧ Held H' as ((chunks (n + 1) F).take i)) ⟨[], same_upd nD, upd_same, List.not_mem_nil, trivial⟩ (fun _ _ _ _ => trivial) ?_ ?_
    · rintro i x H1 H2 hi ⟨as, sm, eD, nA, hh⟩ ⟨rfl, rfl⟩
      refine ⟨rfl, ⟨_, rfl, _, rfl, _, rfl, _, rfl, _, rfl, _, _, rfl, rfl, _, _, rfl, rfl, _, rfl, a, _, rfl, sm.seq hS, fun b nb => ⟨as.map V.ref, ?_, ?_, as ++ [b], ?_, ?_, ?_, ?_⟩⟩⟩
      · rw [upd_ne (ne_of_none eD nb)]; exact eD
      · rw [List.length_map, hh.len, List.length_take]
        refine small1000 (Nat.le_trans (Nat.min_le_left _ _) ?_)
        have : F.length / (n + 1) ≤ F.length := Nat.div_le_self _ _
        omega
      · exact same_upd2 (sm.trans (same_upd nb)) nD
      · rw [upd_same, List.map_append]; rfl
      · intro z
        rcases List.mem_append.mp z with z | z
        · exact nA z
        · rw [List.mem_singleton] at z
          rw [← z, eD] at nb
          cases nb
      · have nbD : b ≠ D := fun z => by rw [z, eD] at nb; cases nb
        have eb : cutV (nv F) (some (0 + (i : Int) * ((n + 1 : Nat) : Int))) (some (0 + (i : Int) * ((n + 1 : Nat) : Int) + (n : Int) + 1)) = nv (chunk (n + 1) F i) := by
          have e1 : 0 + (i : Int) * ((n + 1 : Nat) : Int) = ((i * (n + 1) : Nat) : Int) := by rw [Int.zero_add, Int.natCast_mul]
          have e2 : 0 + (i : Int) * ((n + 1 : Nat) : Int) + (n : Int) + 1 = ((i * (n + 1) + (n + 1) : Nat) : Int) := by rw [e1]; omega
          rw [e2, e1, cut_to _ _ _ (by omega), Nat.add_sub_cancel_left, nv_drop, nv_take]
          rfl
        rw [take_more (chunks_get hi)]
        refine Held.snoc ?_ (Held.upd nA (Held.mono (same_upd nb) hh))
        rw [upd_ne nbD, upd_same]
        exact congrArg (fun z => some (HO.lst z)) eb
    · rintro H1 ⟨as, sm, eD, _, hh⟩
      rw [← chunks_length, List.take_length] at hh
      exact q _ D as sm nD eD hh
/-! ## is_polynomial -/
def spPoly (K : PySem.W.Frag) : Sp := fun vs H Q _ => ∃ (a : Addr) (p n : Nat) (F : List Nat), vs = [.int (p : Int), .int (n : Int), .ref a] ∧ SqL K H a (nv F) ∧ 1 ≤ n ∧ n ≤ 3 ∧ F.length ≤ 400 ∧ ∀ H', Same H H' → Q (.bl (polyOk p n F)) H'
theorem scPoly : FnScope ["p", "n", "f", "before", "term", "place"] ["p", "n", "f"] (defScope sPoly) := ⟨rfl, rfl, rfl, by decide +kernel, rfl, by decide +kernel, by decide +kernel⟩
theorem ok_poly {f : Addr} {fd : FuncData} {k : Nat} (F : Fun K "is_polynomial" "is_polynomial" sPoly f fd) (T : TxtP K mg) : FnOk P w K mg base CX0 (k + 3) f fd ["p", "n", "f"] (spPoly K) := by
  obtain ⟨fT, fdT, FT, bT, gT⟩ := T.dTerms.ex
  obtain ⟨fM, fdM, FM, bM, gM⟩ := T.dTerm.ex
  obtain ⟨fP, fdP, FP, bP, gP⟩ := T.dPlace.ex
  have GT : FnOk P w K mg base CX0 1 fT fdT ["n", "f"] (spTerms K) := ok_terms FT T
  have GM : FnOk P w K mg base CX0 1 fM fdM ["p", "term"] (spTerm K) := ok_term FM T
  have GP : FnOk P w K mg base CX0 2 fP fdP ["term"] (spPlace K) := ok_place FP T
  refine F.ok scPoly (fun vs H Q E h => ?_) (fun cdv A outer s H vs Q E hr h => ?_)
  · obtain ⟨a, p, n, F, rfl, _⟩ := h
    rfl
  · obtain ⟨a, p, n, F, rfl, hS, hn1, hn, hl, q⟩ := h
    have hr1 : Room 1 _ := hr.mono (by omega)
    have hr2 : Room 2 _ := hr.mono (by omega)
    refine ⟨_, pss_cons (ps_if (pt_cmpR op_ne (pe_op op_mod (pe_callB call_len_seq (by rfl) T.len PySem.boot_len (pa_cons (pv 2) pa_nil)) (pe_op op_add (pv 1) pe_int)) pe_int (nomark _)) (pss_one (ps_ret pe_bl)) pss_nil)
      (pss_cons (ps_set (i := 3) scPoly.nd rfl (.inl rfl) (pe_lst pa_nil))
      (pss_cons (ps_for PassesOwn.never rfl (pi_list (pe_call GT hr1 (by rfl) gT FT.kp bT .nil pass0 (pa_cons (pv 1) (pa_cons (pv 2) pa_nil)))) (pg_name (i := 4) scPoly.nd rfl (.inl rfl))
        (pss_cons (ps_set (i := 5) scPoly.nd rfl (.inl rfl) (pe_call GP hr2 (by rfl) gP FP.kp bP .nil pass0 (pa_cons (pv 4) pa_nil)))
        (pss_cons (ps_if (PW.pt (pw_or (pt_not (pt_val (pe_call GM hr1 (by rfl) gM FM.kp bM .nil pass0 (pa_cons (pv 0) (pa_cons (pv 4) pa_nil)))))
            (pw_or1 (pt_not (pt_cmpR (op_ltL hr.units0) (pv 3) (pv 5) (nomark _)))))) (pss_one (ps_ret pe_bl)) pss_nil)
        (pss_one (ps_set (i := 3) scPoly.nd rfl (.inl rfl) (pv 5))))))
      (pss_one (ps_ret pe_bl)))), ?_⟩
    have q0 : ∀ H', Same H H' → Q (.bl ((F.length % (n + 1) == 0) && goPoly p [] (chunks (n + 1) F))) H' := q
    refine ⟨_, rfl, a, _, rfl, .inl hS, _, rfl, _, _, rfl, rfl, _, _, rfl, rfl, (by show (0 : Int) < (n : Int) + 1; omega), rfl, _, rfl, ?_⟩
    rw [nv_length]
    by_cases hm : F.length % (n + 1) = 0
    · rw [hm] at q0
      refine ifF (show (!decide (V.int ((F.length : Int) % ((n : Int) + 1)) = V.int 0)) = false by rw [modN_nat, hm]; rfl) ?_
      refine ⟨Nat.zero_le _, fun b nb => ?_⟩
      have s1 : Same H (upd H b (.lst [])) := same_upd nb
      refine ⟨_, rfl, _, rfl, a, n, F, rfl, s1.seq hS, hn, hl, hm, fun H1 r as s2 nr er hh => ?_⟩
      refine ⟨r, rfl, ⟨_, .inl (.inl er)⟩, ?_⟩
      refine for_list (K := K) (a := r) (xs := as.map V.ref) (fun i σ H' => ∃ (v4 v5 : Option V) (ab : Addr) (bl : List Nat), σ = [some (.int (p : Int)), some (.int (n : Int)), some (.ref a), some (.ref ab), v4, v5] ∧ Same H1 H' ∧
        H' ab = some (.lst (nv bl)) ∧ goPoly p [] (chunks (n + 1) F) = goPoly p bl ((chunks (n + 1) F).drop i)) ⟨none, none, b, [], rfl, Same.refl _, s2 _ _ upd_same, rfl⟩ (fun i σ H' _ ⟨_, _, _, _, _, s5, _⟩ => .inl (.inl (s5 _ _ er))) ?_ ?_
      · rintro i y σ H' hi ⟨v4, v5, ab, bl, rfl, s5, eb, eg⟩
        obtain ⟨c, hc, rfl⟩ := refs_get hi
        obtain ⟨t, ht, et⟩ := (hh.mono s5).get hc
        have hlt := chunks_len (k := n + 1) (by omega) hm t (mem_of_get ht)
        rw [drop_more ht] at eg
        refine ⟨_, rfl, c, t, rfl, .inl (.inl et), by omega, fun H2 r2 s6 nr2 er2 => ?_⟩
        refine ⟨_, rfl, _, rfl, c, p, t, rfl, .inl (.inl (s6 _ _ et)), by omega, fun H3 s7 => ?_⟩
        have s8 : Same H1 H3 := (s5.trans s6).trans s7
        have s9 : Same H H3 := (s1.trans s2).trans s8
        have eg' : goPoly p [] (chunks (n + 1) F) = if okTerm p t = true ∧ lex bl (place t.tail) = true then goPoly p (place t.tail) ((chunks (n + 1) F).drop (i + 1)) else false := eg
        refine ⟨_, rfl, ?_⟩
        cases ho : okTerm p t with
        | false =>
          rw [ho] at eg'
          refine iteT (iteT ?_)
          rw [if_neg (fun z => Bool.false_ne_true z.1)] at eg'
          rw [eg'] at q0
          exact q0 _ s9
        | true =>
          refine iteF ?_
          refine ⟨_, rfl, _, rfl, ab, r2, zs bl, zs (place t.tail), rfl, rfl, .inl (.inl (s7 _ _ (s6 _ _ eb))), .inl (.inl (s7 _ _ er2)), _, rfl, ?_⟩
          rw [lexLt_ints]
          rw [ho] at eg'
          cases hx : lex bl (place t.tail) with
          | false =>
            rw [hx, if_neg (fun z => Bool.false_ne_true z.2)] at eg'
            rw [eg'] at q0
            exact iteT (q0 _ s9)
          | true =>
            rw [hx, if_pos ⟨rfl, rfl⟩] at eg'
            refine iteF ?_
            exact ⟨_, rfl, _, _, r2, place t.tail, rfl, s8, s7 _ _ er2, eg'⟩
      · rintro σ H' ⟨v4, v5, ab, bl, rfl, s5, eb, eg⟩
        rw [List.length_map, hh.len, List.drop_length] at eg
        rw [eg] at q0
        exact q0 _ ((s1.trans s2).trans s5)
    · have : (F.length % (n + 1) == 0) = false := by simpa using hm
      rw [this] at q0
      refine ifT (show (!decide (V.int ((F.length : Int) % ((n : Int) + 1)) = V.int 0)) = true from ?_) (q0 _ (Same.refl _))
      rw [modN_nat, Bool.not_eq_true', decide_eq_false_iff_not]
      intro z
      have := V.int.inj z
      omega
theorem okField_n {p n : Nat} (h : Kzt1.okField p n = true) : 1 ≤ n ∧ n ≤ 3 := by
  unfold Kzt1.okField at h
  simp only [Bool.and_eq_true, decide_eq_true_eq] at h
  exact ⟨h.1.2, h.2⟩
end
section
variable {P : Program} {w : World} {K : PySem.W.Frag} {mg : Str → Option Value} {base : Heap}
/-! ## rows_of -/
def spRows (K : PySem.W.Frag) : Sp := fun vs H Q _ => ∃ (a : Addr) (G : List Nat), vs = [.ref a] ∧ SqL K H a (nv G) ∧ G.length ≤ 400 ∧
  ∀ H' r as, Same H H' → H r = none → H' r = some (.lst (as.map V.ref)) → Held H' as (rowsOf G) → Q (.ref r) H'
theorem scRows : FnScope ["g", "rows", "start", "end"] ["g"] (defScope sRows) := ⟨rfl, rfl, rfl, by decide +kernel, rfl, by decide +kernel, by decide +kernel⟩
theorem ok_rows {f : Addr} {fd : FuncData} {k : Nat} (F : Fun K "rows_of" "rows_of" sRows f fd) (hL : mg "len" = none) : FnOk P w K mg base CX0 (k + 1) f fd ["g"] (spRows K) := by
  refine F.ok scRows (fun vs H Q E h => ?_) (fun cdv A outer s H vs Q E hr h => ?_)
  · obtain ⟨a, G, rfl, _⟩ := h
    rfl
  · obtain ⟨a, G, rfl, hS, hl, q⟩ := h
    refine ⟨_, pss_cons (ps_set (i := 1) scRows.nd rfl (.inl rfl) (pe_lst pa_nil))
      (pss_cons (ps_set (i := 2) scRows.nd rfl (.inl rfl) pe_int)
      (pss_cons (ps_while PassesOwn.never (pt_cmpR op_lt (pv 2) (pe_callB call_len_seq (by rfl) hL PySem.boot_len (pa_cons (pv 0) pa_nil)) (nomark _))
        (pss_cons (ps_set (i := 3) scRows.nd rfl (.inl rfl) (pe_op op_add (pe_op op_add (pv 2) pe_int) (pe_ix ix_list (pv 0) (pv 2) (fun _ _ => rfl))))
        (pss_cons (ps_expr (pe_bm PySem.F.plainAttrs_list PySem.F.slot_list_append PySem.F.type_list_append mt_append (pv 1) (pa_cons (pe_slice sl_list (pv 0) (po_some (pv 2)) (po_some (pv 3))) pa_nil)))
        (pss_one (ps_set (i := 2) scRows.nd rfl (.inl rfl) (pv 3))))))
      (pss_one (ps_ret (pv 1))))), ?_⟩
    refine ⟨Nat.zero_le _, fun D nD => ?_⟩
    refine ⟨fun m σ H' => ∃ (st : Nat) (v3 : Option V) (as : List Addr) (done : List (List Nat)), σ = [some (.ref a), some (.ref D), some (.int (st : Int)), v3] ∧ m = G.length - st ∧ Same H H' ∧ H' D = some (.lst (as.map V.ref)) ∧ D ∉ as ∧ Held H' as done ∧ rowsOf G = done ++ rowsOf (G.drop st),
      ⟨_, 0, none, [], [], rfl, rfl, same_upd nD, upd_same, List.not_mem_nil, trivial, rfl⟩, ?_⟩
    rintro m σ H1 ⟨st, v3, as, done, rfl, rfl, sm, eD, nA, hh, eR⟩
    refine ⟨_, rfl, _, rfl, a, _, rfl, .inl (sm.seq hS), _, _, rfl, rfl, _, rfl, ?_⟩
    rw [nv_length]
    by_cases hst : st < G.length
    · refine ifT (decide_eq_true (by omega)) ?_
      have eg : G[st]? = some G[st] := List.getElem?_eq_getElem hst
      have ed := drop_more eg
      generalize hx : G[st] = x at eg ed
      refine ⟨fun σ' H' => ∃ (as : List Addr) (done : List (List Nat)), σ' = [some (.ref a), some (.ref D), some (.int ((st + 1 + x : Nat) : Int)), some (.int ((st + 1 + x : Nat) : Int))] ∧ Same H H' ∧ H' D = some (.lst (as.map V.ref)) ∧ D ∉ as ∧ Held H' as done ∧ rowsOf G = done ++ rowsOf (G.drop (st + 1 + x)), ?_, ?_⟩
      · rintro σ' H' ⟨as, done, e1, e2, e3, e4, e5, e6⟩
        exact ⟨G.length - (st + 1 + x), by omega, st + 1 + x, _, as, done, e1, rfl, e2, e3, e4, e5, e6⟩
      · have ex : (nv G)[st]? = some (.int (x : Int)) := by rw [nv_get, eg]; rfl
        refine ⟨_, rfl, _, _, rfl, rfl, _, rfl, _, rfl, a, _, _, _, rfl, rfl, sm.seq hS, atI_nat ex, _, _, rfl, rfl, ?_⟩
        have eend : (st : Int) + 1 + (x : Int) = ((st + 1 + x : Nat) : Int) := by omega
        refine ⟨_, rfl, .inl ⟨rfl, _, .inl (.inl eD)⟩, _, rfl, _, rfl, _, rfl, _, rfl, _, rfl, a, _, rfl, sm.seq hS, fun b nb => ?_⟩
        have nbD : b ≠ D := fun z => by rw [z, eD] at nb; cases nb
        have eb : cutV (nv G) (some (st : Int)) (some ((st : Int) + 1 + (x : Int))) = nv (x :: (G.drop (st + 1)).take x) := by
          rw [eend, cut_to _ _ _ (by omega), nv_drop, nv_take, ed, show st + 1 + x - st = x + 1 by omega]
          rfl
        have eRow : rowsOf G = (done ++ [x :: (G.drop (st + 1)).take x]) ++ rowsOf (G.drop (st + 1 + x)) := by
          rw [eR, ed, rowsOf_cons, List.drop_drop, List.append_assoc]
          rfl
        refine ⟨D, as.map V.ref, _, rfl, rfl, ?_, ?_, ?_⟩
        · rw [upd_ne nbD.symm]; exact eD
        · rw [List.length_map, hh.len]
          have h1 := rowsOf_length G.length G (Nat.le_refl _)
          rw [eRow, List.length_append, List.length_append] at h1
          exact small1000 (by omega)
        · refine ⟨_, rfl, as ++ [b], done ++ [x :: (G.drop (st + 1)).take x], ?_, same_upd2 (sm.trans (same_upd nb)) nD, ?_, ?_, ?_, eRow⟩
          · show [some (V.ref a), some (V.ref D), some (V.int ((st : Int) + 1 + (x : Int))), some (V.int ((st : Int) + 1 + (x : Int)))] = _
            rw [eend]
          · rw [upd_same, List.map_append]; rfl
          · intro z
            rcases List.mem_append.mp z with z | z
            · exact nA z
            · rw [List.mem_singleton] at z
              exact nbD z.symm
          · refine Held.snoc ?_ (Held.upd nA (Held.mono (same_upd nb) hh))
            rw [upd_ne nbD, upd_same]
            rw [eb]
    · refine ifF (decide_eq_false (by omega)) ?_
      rw [List.drop_of_length_le (by omega), rowsOf_nil, List.append_nil] at eR
      rw [← eR] at hh
      exact ⟨_, rfl, q _ D as sm nD eD hh⟩
end
/-- what the top has written: for the points and the values -/
structure TxtV (K : PySem.W.Frag) (mg : Str → Option Value) : Prop where
  range : mg "range" = none
  zip : mg "zip" = none
  dPts : Dfn K mg "points_of" sPts ["g"]
  dVal : Dfn K mg "value_at" sVal ["p", "terms", "point"]
  dTVal : Dfn K mg "term_value" sTVal ["p", "term", "point"]
  dPow : Dfn K mg "power_of" sPow ["p", "number", "times"]
section
variable {P : Program} {w : World} {K : PySem.W.Frag} {mg : Str → Option Value} {base : Heap}
/-! ## points_of -/
def spPts (K : PySem.W.Frag) : Sp := fun vs H Q _ => ∃ (a : Addr) (G : List Nat), vs = [.ref a] ∧ SqL K H a (nv G) ∧ G.length ≤ 400 ∧ (rowsOf G).length ≤ 3 ∧ (∀ r ∈ rowsOf G, r.tail.length ≤ 7) ∧
  ∀ H' r as, Same H H' → H' r = some (.lst (as.map V.ref)) → Held H' as (pointsOf ((rowsOf G).map List.tail)) → Q (.ref r) H'
theorem scPts : FnScope ["g", "points", "row", "longer", "point", "number"] ["g"] (defScope sPts) := ⟨rfl, rfl, rfl, by decide +kernel, rfl, by decide +kernel, by decide +kernel⟩
theorem pow7_le : ∀ i, i ≤ 3 → 7 ^ i ≤ 343
  | 0, _ => by decide
  | 1, _ => by decide
  | 2, _ => by decide
  | 3, _ => by decide
  | _ + 4, h => absurd h (by omega)
theorem ok_pts {f : Addr} {fd : FuncData} {k : Nat} (F : Fun K "points_of" "points_of" sPts f fd) (dR : Dfn K mg "rows_of" sRows ["g"]) (hL : mg "len" = none) : FnOk P w K mg base CX0 (k + 2) f fd ["g"] (spPts K) := by
  obtain ⟨fR, fdR, FR, bR, gR⟩ := dR.ex
  have GR : FnOk P w K mg base CX0 1 fR fdR ["g"] (spRows K) := ok_rows FR hL
  refine F.ok scPts (fun vs H Q E h => ?_) (fun cdv A outer s H vs Q E hr h => ?_)
  · obtain ⟨a, G, rfl, _⟩ := h
    rfl
  · obtain ⟨a, G, rfl, hS, hl, hR3, hR7, q⟩ := h
    have hr1 : Room 1 _ := hr.mono (by omega)
    refine ⟨_, pss_cons (ps_set (i := 1) scPts.nd rfl (.inl rfl) (pe_lst (pa_cons (pe_lst pa_nil) pa_nil)))
      (pss_cons (ps_for PassesOwn.never rfl (pi_list (pe_call GR hr1 (by rfl) gR FR.kp bR .nil pass0 (pa_cons (pv 0) pa_nil))) (pg_name (i := 2) scPts.nd rfl (.inl rfl))
        (pss_cons (ps_set (i := 3) scPts.nd rfl (.inl rfl) (pe_lst pa_nil))
        (pss_cons (ps_for PassesOwn.never rfl (pi_list (pv 1)) (pg_name (i := 4) scPts.nd rfl (.inl rfl))
          (pss_one (ps_for PassesOwn.never rfl (pi_list (pe_slice sl_list (pv 2) (po_some pe_int) po_none)) (pg_name (i := 5) scPts.nd rfl (.inl rfl))
            (pss_one (ps_expr (pe_bm PySem.F.plainAttrs_list PySem.F.slot_list_append PySem.F.type_list_append mt_append (pv 3) (pa_cons (pe_op op_cat (pv 4) (pe_lst (pa_cons (pv 5) pa_nil))) pa_nil)))))))
        (pss_one (ps_set (i := 1) scPts.nd rfl (.inl rfl) (pv 3))))))
      (pss_one (ps_ret (pv 1)))), ?_⟩
    rw [← ptsFrom_all] at q
    refine ⟨Nat.zero_le _, fun e ne => ⟨(by show 1 ≤ sizeLine; decide), fun A0 nA0 => ?_⟩⟩
    have s0 : Same H (upd H e (.lst [])) := same_upd ne
    have s1 : Same (upd H e (.lst [])) (upd (upd H e (.lst [])) A0 (.lst [.ref e])) := same_upd nA0
    refine ⟨_, rfl, a, G, rfl, (s0.trans s1).seq hS, hl, fun H1 r0 as0 s2 nr0 er0 hh0 => ?_⟩
    refine ⟨r0, rfl, ⟨_, .inl (.inl er0)⟩, ?_⟩
    refine for_list (K := K) (a := r0) (xs := as0.map V.ref) (fun i σ H' => ∃ (ap : Addr) (ps : List Addr) (pts : List (List Nat)) (v2 v3 v4 v5 : Option V), σ = [some (.ref a), some (.ref ap), v2, v3, v4, v5] ∧ Same H1 H' ∧ H' ap = some (.lst (ps.map V.ref)) ∧ Held H' ps pts ∧
        ptsFrom [[]] (rowsOf G) = ptsFrom pts ((rowsOf G).drop i) ∧ pts.length ≤ 7 ^ i ∧ ∀ pt ∈ pts, pt.length ≤ i)
      ⟨A0, [e], [[]], none, none, none, none, rfl, Same.refl _, s2 _ _ upd_same, ⟨s2 _ _ (s1 _ _ upd_same), trivial⟩, rfl, Nat.le_refl _, fun pt hpt => by rw [List.mem_singleton] at hpt; subst hpt; exact Nat.le_refl _⟩
      (fun i σ H' _ ⟨_, _, _, _, _, _, _, _, s5, _⟩ => .inl (.inl (s5 _ _ er0))) ?_ ?_
    · rintro i y σ Hb hi ⟨ap, ps, pts, v2, v3, v4, v5, rfl, s5, eap, hh, eP, hP7, hPl⟩
      obtain ⟨c, hc, rfl⟩ := refs_get hi
      obtain ⟨row, hrow, ec⟩ := (hh0.mono s5).get hc
      have hi3 : i < 3 := Nat.lt_of_lt_of_le (List.getElem?_eq_some_iff.mp hrow).1 hR3
      have h343 := pow7_le i (by omega)
      have hrl := hR7 row (mem_of_get hrow)
      rw [drop_more hrow] at eP
      have eP' : ptsFrom [[]] (rowsOf G) = ptsFrom (longer row.tail pts) ((rowsOf G).drop (i + 1)) := eP
      have hll : (longer row.tail pts).length ≤ 343 * 7 := by
        rw [longer_len]
        exact Nat.mul_le_mul (by omega) hrl
      -- longer = []
      refine ⟨Nat.zero_le _, fun D nD => ?_⟩
      refine ⟨_, rfl, ap, rfl, ⟨_, .inl (.inl (same_upd nD _ _ eap))⟩, ?_⟩
      refine for_list (K := K) (a := ap) (xs := ps.map V.ref) (fun j σ H2 => ∃ (v4 v5 : Option V) (ls : List Addr) (acc : List (List Nat)), σ = [some (.ref a), some (.ref ap), some (.ref c), some (.ref D), v4, v5] ∧ Same Hb H2 ∧ H2 D = some (.lst (ls.map V.ref)) ∧ D ∉ ls ∧ Held H2 ls acc ∧
          longer row.tail pts = acc ++ longer row.tail (pts.drop j))
        ⟨v4, v5, [], [], rfl, same_upd nD, upd_same, List.not_mem_nil, trivial, rfl⟩ (fun j σ H2 _ ⟨_, _, _, _, _, s6, _⟩ => .inl (.inl (s6 _ _ eap))) ?_ ?_
      · rintro j y σ H2 hj ⟨v4, v5, ls, acc, rfl, s6, eD, nL, hL, eL⟩
        obtain ⟨d, hd, rfl⟩ := refs_get hj
        obtain ⟨pt, hpt, ed⟩ := hh.get hd
        have hptl := hPl pt (mem_of_get hpt)
        rw [drop_more hpt, longer_cons] at eL
        refine ⟨_, rfl, 1, rfl, c, _, rfl, .inl (.inl (s6 _ _ ec)), fun e2 ne2 => ?_⟩
        rw [cut_1]
        have neD : e2 ≠ D := fun z => by rw [z, eD] at ne2; cases ne2
        refine ⟨e2, rfl, ⟨_, .inl (.inl upd_same)⟩, ?_⟩
        refine for_list (K := K) (a := e2) (xs := nv row.tail) (fun k σ H3 => ∃ (v5 : Option V) (ls : List Addr) (acc : List (List Nat)), σ = [some (.ref a), some (.ref ap), some (.ref c), some (.ref D), some (.ref d), v5] ∧ Same Hb H3 ∧ H3 e2 = some (.lst (nv row.tail)) ∧ H3 D = some (.lst (ls.map V.ref)) ∧ D ∉ ls ∧ Held H3 ls acc ∧
            longer row.tail pts = acc ++ (((row.tail.drop k).map fun x => pt ++ [x]) ++ longer row.tail (pts.drop (j + 1))))
          ⟨v5, ls, acc, rfl, s6.trans (same_upd ne2), upd_same, (by rw [upd_ne neD.symm]; exact eD), nL, hL.mono (same_upd ne2), eL⟩ (fun k σ H3 _ ⟨_, _, _, _, _, e3, _⟩ => .inl (.inl e3)) ?_ ?_
        · rintro k y σ H3 hk ⟨v5, ls, acc, rfl, s7, e3, eD, nL, hL, eL⟩
          obtain ⟨x, hx, rfl⟩ := nv_get_some hk
          rw [drop_more hx, List.map_cons] at eL
          have eL' : longer row.tail pts = (acc ++ [pt ++ [x]]) ++ (((row.tail.drop (k + 1)).map fun x => pt ++ [x]) ++ longer row.tail (pts.drop (j + 1))) := by
            rw [eL, List.append_assoc]
            rfl
          have hacc : acc.length ≤ 343 * 7 := by
            have := congrArg List.length eL
            rw [List.length_append] at this
            omega
          refine ⟨_, rfl, .inl ⟨rfl, _, .inl (.inl eD)⟩, _, rfl, _, rfl, (by show 1 ≤ sizeLine; decide), fun b1 nb1 => ?_⟩
          have t1 : Same H3 (upd H3 b1 (.lst [.int (x : Int)])) := same_upd nb1
          refine ⟨d, b1, nv pt, [.int (x : Int)], rfl, rfl, t1 _ _ (s7 _ _ ed), upd_same, ?_, fun b2 nb2 => ?_⟩
          · rw [nv_length]
            show pt.length + 1 ≤ 2 ^ 24
            omega
          have t2 : Same (upd H3 b1 (.lst [.int (x : Int)])) (upd (upd H3 b1 (.lst [.int (x : Int)])) b2 (.lst (nv pt ++ [.int (x : Int)]))) := same_upd nb2
          have t3 := t1.trans t2
          have nb2D : b2 ≠ D := fun z => by
            have := t1 _ _ eD
            rw [z, this] at nb2
            cases nb2
          have hDb : Hb D = none := nD
          refine ⟨D, ls.map V.ref, _, rfl, rfl, t3 _ _ eD, ?_, ?_⟩
          · rw [List.length_map, hL.len]
            show acc.length < 2 ^ 24
            omega
          · refine ⟨_, ls ++ [b2], acc ++ [pt ++ [x]], rfl, same_upd2 (s7.trans t3) hDb, ?_, ?_, ?_, ?_, eL'⟩
            · rw [upd_ne neD]
              exact t3 _ _ e3
            · rw [upd_same, List.map_append]
              rfl
            · intro z
              rcases List.mem_append.mp z with z | z
              · exact nL z
              · rw [List.mem_singleton] at z
                exact nb2D z.symm
            · refine Held.snoc ?_ (Held.upd nL (Held.mono t3 hL))
              rw [upd_ne nb2D, upd_same, nv_append]
              rfl
        · rintro σ H3 ⟨v5, ls, acc, rfl, s7, e3, eD, nL, hL, eL⟩
          rw [nv_length, List.drop_length] at eL
          exact ⟨_, v5, ls, acc, rfl, s7, eD, nL, hL, eL⟩
      · rintro σ H2 ⟨v4, v5, ls, acc, rfl, s6, eD, nL, hL, eL⟩
        rw [List.length_map, hh.len, List.drop_length, longer_nil, List.append_nil] at eL
        rw [← eL] at hL
        refine ⟨_, rfl, D, ls, longer row.tail pts, _, _, _, _, rfl, s5.trans s6, eD, hL, eP', ?_, ?_⟩
        · rw [longer_len, Nat.pow_succ]
          exact Nat.mul_le_mul hP7 hrl
        · exact longer_pt hPl
    · rintro σ H' ⟨ap, ps, pts, v2, v3, v4, v5, rfl, s5, eap, hh, eP, _, _⟩
      rw [List.length_map, hh0.len, List.drop_length] at eP
      have eP' : ptsFrom [[]] (rowsOf G) = pts := eP
      rw [← eP'] at hh
      exact ⟨_, rfl, q _ ap ps (((s0.trans s1).trans s2).trans s5) eap hh⟩
/-! ## power_of -/
def spPow : Sp := fun vs H Q _ => ∃ p x m : Nat, vs = [.int (p : Int), .int (x : Int), .int (m : Int)] ∧ 2 ≤ p ∧ p ≤ 7 ∧ m ≤ 12 ∧ Q (.int ((Kzt1.powMod p x m : Nat) : Int)) H
theorem scPow : FnScope ["p", "number", "times", "product", "turn"] ["p", "number", "times"] (defScope sPow) := ⟨rfl, rfl, rfl, by decide +kernel, rfl, by decide +kernel, by decide +kernel⟩
theorem mulmod_nat (v x p : Nat) : (v : Int) * (x : Int) % (p : Int) = ((v * x % p : Nat) : Int) := by
  rw [Int.natCast_emod, Int.natCast_mul]
theorem powMod_lt {p x : Nat} (hp : 0 < p) : ∀ k, Kzt1.powMod p x k < p
  | 0 => Nat.mod_lt _ hp
  | _ + 1 => Nat.mod_lt _ hp
theorem ok_pow {f : Addr} {fd : FuncData} {k : Nat} (F : Fun K "power_of" "power_of" sPow f fd) (T : TxtV K mg) : FnOk P w K mg base CX0 (k + 1) f fd ["p", "number", "times"] spPow := by
  refine F.ok scPow (fun vs H Q E h => ?_) (fun cdv A outer s H vs Q E hr h => ?_)
  · obtain ⟨p, x, m, rfl, _⟩ := h
    rfl
  · obtain ⟨p, x, m, rfl, hp2, hp7, hm, q⟩ := h
    refine ⟨_, pss_cons (ps_set (i := 3) scPow.nd rfl (.inl rfl) pe_int)
      (pss_cons (ps_for PassesOwn.never rfl (pi_range1 (by rfl) T.range (pa_cons (pv 2) pa_nil)) (pg_name (i := 4) scPow.nd rfl (.inl rfl))
        (pss_one (ps_set (i := 3) scPow.nd rfl (.inl rfl) (pe_op op_mod (pe_op op_mul (pv 3) (pv 1)) (pv 0)))))
      (pss_one (ps_ret (pv 3)))), ?_⟩
    refine ⟨_, rfl, (m : Int), rfl, by omega, by omega, ?_⟩
    refine for_range (lo := 0) (n := ((m : Int)).toNat) (fun j σ H' => ∃ (v4 : Option V), σ = [some (.int (p : Int)), some (.int (x : Int)), some (.int (m : Int)), some (.int ((Kzt1.powMod p x j : Nat) : Int)), v4] ∧ H' = H)
      ⟨none, ?_, rfl⟩ ?_ ?_
    · show [some (V.int (p : Int)), some (V.int (x : Int)), some (V.int (m : Int)), some (V.int 1), none] = [some (.int (p : Int)), some (.int (x : Int)), some (.int (m : Int)), some (.int ((1 % p : Nat) : Int)), none]
      rw [Nat.mod_eq_of_lt (by omega : 1 < p)]
      rfl
    · rintro j σ H' hj ⟨v4, rfl, rfl⟩
      have hlt := powMod_lt (p := p) (x := x) (by omega) j
      refine ⟨_, rfl, _, rfl, _, _, rfl, rfl, .inl ⟨by omega, by omega⟩, _, rfl, _, _, rfl, rfl, (by show (0 : Int) < (p : Int); omega), ?_⟩
      refine ⟨some (.int (0 + (j : Int))), ?_, rfl⟩
      show [some (V.int (p : Int)), some (V.int (x : Int)), some (V.int (m : Int)), some (V.int (((Kzt1.powMod p x j : Nat) : Int) * (x : Int) % (p : Int))), some (V.int (0 + (j : Int)))] = _
      rw [mulmod_nat]
      rfl
    · rintro σ H' ⟨v4, rfl, rfl⟩
      rw [Int.toNat_natCast]
      exact ⟨_, rfl, q⟩
/-! ## term_value -/
def spTVal (K : PySem.W.Frag) : Sp := fun vs H Q _ => ∃ (a b : Addr) (p : Nat) (t pt : List Nat), vs = [.int (p : Int), .ref a, .ref b] ∧ SqL K H a (nv t) ∧ SqL K H b (nv pt) ∧ 1 ≤ t.length ∧ 2 ≤ p ∧ p ≤ 7 ∧ t.headD 0 < p ∧ (∀ x ∈ t.tail, x ≤ 12) ∧
  ∀ H', Same H H' → Q (.int ((termVal p t pt : Nat) : Int)) H'
theorem scTVal : FnScope ["p", "term", "point", "product", "number", "times"] ["p", "term", "point"] (defScope sTVal) := ⟨rfl, rfl, rfl, by decide +kernel, rfl, by decide +kernel, by decide +kernel⟩
theorem ok_tval {f : Addr} {fd : FuncData} {k : Nat} (F : Fun K "term_value" "term_value" sTVal f fd) (T : TxtV K mg) : FnOk P w K mg base CX0 (k + 2) f fd ["p", "term", "point"] (spTVal K) := by
  obtain ⟨fW, fdW, FW, bW, gW⟩ := T.dPow.ex
  have GW : FnOk P w K mg base CX0 1 fW fdW ["p", "number", "times"] spPow := ok_pow FW T
  refine F.ok scTVal (fun vs H Q E h => ?_) (fun cdv A outer s H vs Q E hr h => ?_)
  · obtain ⟨a, b, p, t, pt, rfl, _⟩ := h
    rfl
  · obtain ⟨a, b, p, t, pt, rfl, hS, hB, hl, hp2, hp7, hc, hx, q⟩ := h
    have hp0 : 0 < p := by omega
    have hr1 : Room 1 _ := hr.mono (by omega)
    refine ⟨_, pss_cons (ps_set (i := 3) scTVal.nd rfl (.inl rfl) (pe_ix ix_list (pv 1) pe_int (fun _ _ => rfl)))
      (pss_cons (ps_for PassesOwn.never rfl (pi_zip (by rfl) T.zip (pa_cons (pv 2) (pa_cons (pe_slice sl_list (pv 1) (po_some pe_int) po_none) pa_nil)))
          (pg_tup rfl (pgs_cons (pg_name (i := 4) scTVal.nd rfl (.inl rfl)) (pgs_cons (pg_name (i := 5) scTVal.nd rfl (.inl rfl)) pgs_nil)))
        (pss_one (ps_set (i := 3) scTVal.nd rfl (.inl rfl) (pe_op op_mod (pe_op op_mul (pv 3) (pe_call GW hr1 (by rfl) gW FW.kp bW .nil pass0 (pa_cons (pv 0) (pa_cons (pv 4) (pa_cons (pv 5) pa_nil))))) (pv 0)))))
      (pss_one (ps_ret (pv 3)))), ?_⟩
    match t, hl, hS, hc, hx, q with
    | c :: e, _, hS, hc, hx, q =>
    have hc' : c < p := hc
    have hx' : ∀ x ∈ e, x ≤ 12 := hx
    rw [termVal_tv] at q
    have q' : ∀ H', Same H H' → Q (.int ((tvFrom p (pt.zip e) c : Nat) : Int)) H' := q
    refine ⟨_, rfl, a, _, 0, .int (c : Int), rfl, rfl, hS, atI_nat (j := 0) rfl, ?_⟩
    refine ⟨_, rfl, _, rfl, 1, rfl, a, _, rfl, hS, fun d nd => ?_⟩
    rw [cut_1]
    have s1 : Same H (upd H d (.lst (nv e))) := same_upd nd
    refine ⟨b, d, nv pt, nv e, rfl, s1.seq hB, .inl (.inl upd_same), ?_⟩
    refine for_it (walk_zip (xs := nv pt) (ys := nv e) rfl) (fun i σ H' => ∃ (v : Nat) (v4 v5 : Option V), σ = [some (.int (p : Int)), some (.ref a), some (.ref b), some (.int (v : Int)), v4, v5] ∧ Same H H' ∧ H' d = some (.lst (nv e)) ∧ v < p ∧
        tvFrom p (pt.zip e) c = tvFrom p ((pt.zip e).drop i) v)
      ⟨c, none, none, rfl, s1, upd_same, hc', rfl⟩ (fun i σ H' _ ⟨_, _, _, _, s5, e5, _⟩ => ⟨s5.seq hB, .inl (.inl e5)⟩) ?_ ?_
    · rintro i y σ H1 H2 hi ⟨v, v4, v5, rfl, s5, e5, hv, eg⟩ ⟨U, x1, x2, rfl, nU, rfl, g1, g2⟩
      obtain ⟨x, hxi, rfl⟩ := nv_get_some g1
      obtain ⟨m, hmi, rfl⟩ := nv_get_some g2
      have hz : (pt.zip e)[i]? = some (x, m) := by
        rw [List.getElem?_zip_eq_some]
        exact ⟨hxi, hmi⟩
      rw [drop_more hz, tvFrom_cons] at eg
      have hm := hx' m (mem_of_get hmi)
      have s6 : Same H1 (upd H1 U (.tup [.int (x : Int), .int (m : Int)])) := same_upd nU
      refine ⟨U, _, rfl, .inl (.inl upd_same), rfl, _, _, rfl, _, _, rfl, rfl, ?_⟩
      refine ⟨_, rfl, _, rfl, _, rfl, _, rfl, p, x, m, rfl, hp2, hp7, hm, ?_⟩
      refine ⟨_, _, rfl, rfl, .inl ⟨by omega, by omega⟩, _, rfl, _, _, rfl, rfl, (by show (0 : Int) < (p : Int); omega), ?_⟩
      refine ⟨v * Kzt1.powMod p x m % p, some (.int (x : Int)), some (.int (m : Int)), ?_, s5.trans s6, s6 _ _ e5, Nat.mod_lt _ hp0, eg⟩
      show [some (V.int (p : Int)), some (V.ref a), some (V.ref b), some (V.int ((v : Int) * ((Kzt1.powMod p x m : Nat) : Int) % (p : Int))), some (V.int (x : Int)), some (V.int (m : Int))] = _
      rw [mulmod_nat]
    · rintro σ H' ⟨v, v4, v5, rfl, s5, e5, hv, eg⟩
      rw [List.drop_of_length_le (by rw [List.length_zip, nv_length, nv_length]; exact Nat.le_refl _), tvFrom_nil] at eg
      rw [eg] at q'
      exact ⟨_, rfl, q' _ s5⟩
/-! ## value_at -/
def spVal (K : PySem.W.Frag) : Sp := fun vs H Q _ => ∃ (a b : Addr) (as : List Addr) (p : Nat) (ts : List (List Nat)) (pt : List Nat), vs = [.int (p : Int), .ref a, .ref b] ∧ SqL K H a (as.map V.ref) ∧ Held H as ts ∧ SqL K H b (nv pt) ∧ 2 ≤ p ∧ p ≤ 7 ∧
  (∀ t ∈ ts, 1 ≤ t.length ∧ t.headD 0 < p ∧ ∀ x ∈ t.tail, x ≤ 12) ∧ ∀ H', Same H H' → Q (.int ((valAt p ts pt : Nat) : Int)) H'
theorem scVal : FnScope ["p", "terms", "point", "value", "term"] ["p", "terms", "point"] (defScope sVal) := ⟨rfl, rfl, rfl, by decide +kernel, rfl, by decide +kernel, by decide +kernel⟩
theorem ok_val {f : Addr} {fd : FuncData} {k : Nat} (F : Fun K "value_at" "value_at" sVal f fd) (T : TxtV K mg) : FnOk P w K mg base CX0 (k + 3) f fd ["p", "terms", "point"] (spVal K) := by
  obtain ⟨fV, fdV, FV, bV, gV⟩ := T.dTVal.ex
  have GV : FnOk P w K mg base CX0 2 fV fdV ["p", "term", "point"] (spTVal K) := ok_tval FV T
  refine F.ok scVal (fun vs H Q E h => ?_) (fun cdv A outer s H vs Q E hr h => ?_)
  · obtain ⟨a, b, as, p, ts, pt, rfl, _⟩ := h
    rfl
  · obtain ⟨a, b, as, p, ts, pt, rfl, hS, hh, hB, hp2, hp7, ht, q⟩ := h
    have hr2 : Room 2 _ := hr.mono (by omega)
    refine ⟨_, pss_cons (ps_set (i := 3) scVal.nd rfl (.inl rfl) pe_int)
      (pss_cons (ps_for PassesOwn.never rfl (pi_list (pv 1)) (pg_name (i := 4) scVal.nd rfl (.inl rfl))
        (pss_one (ps_set (i := 3) scVal.nd rfl (.inl rfl) (pe_op op_mod (pe_op op_add (pv 3) (pe_call GV hr2 (by rfl) gV FV.kp bV .nil pass0 (pa_cons (pv 0) (pa_cons (pv 4) (pa_cons (pv 2) pa_nil))))) (pv 0)))))
      (pss_one (ps_ret (pv 3)))), ?_⟩
    rw [valAt_va] at q
    refine ⟨_, rfl, a, rfl, ⟨_, hS⟩, ?_⟩
    refine for_list (K := K) (a := a) (xs := as.map V.ref) (fun i σ H' => ∃ (v : Nat) (v4 : Option V), σ = [some (.int (p : Int)), some (.ref a), some (.ref b), some (.int (v : Int)), v4] ∧ Same H H' ∧ vaFrom p pt ts 0 = vaFrom p pt (ts.drop i) v)
      ⟨0, none, rfl, Same.refl _, rfl⟩ (fun i σ H' _ ⟨_, _, _, s5, _⟩ => s5.seq hS) ?_ ?_
    · rintro i y σ H' hi ⟨v, v4, rfl, s5, eg⟩
      obtain ⟨c, hc, rfl⟩ := refs_get hi
      obtain ⟨t, hti, et⟩ := (hh.mono s5).get hc
      have htt := ht t (mem_of_get hti)
      rw [drop_more hti, vaFrom_cons] at eg
      refine ⟨_, rfl, _, rfl, _, rfl, _, rfl, c, b, p, t, pt, rfl, .inl (.inl et), s5.seq hB, htt.1, hp2, hp7, htt.2.1, htt.2.2, fun H2 s6 => ?_⟩
      refine ⟨_, _, rfl, rfl, _, rfl, _, _, rfl, rfl, (by show (0 : Int) < (p : Int); omega), ?_⟩
      refine ⟨(v + termVal p t pt) % p, some (.ref c), ?_, s5.trans s6, eg⟩
      show [some (V.int (p : Int)), some (V.ref a), some (V.ref b), some (V.int (((v : Int) + ((termVal p t pt : Nat) : Int)) % (p : Int))), some (V.ref c)] = _
      rw [addmod_nat]
    · rintro σ H' ⟨v, v4, rfl, s5, eg⟩
      rw [List.length_map, hh.len, List.drop_length, vaFrom_nil] at eg
      rw [eg] at q
      exact ⟨_, rfl, q _ s5⟩
end
/-- what the top has written: for the counted sets -/
structure TxtC (K : PySem.W.Frag) (mg : Str → Option Value) : Prop where
  len : mg "len" = none
  sorted : mg "sorted" = none
  set : mg "set" = none
  dCtd : Dfn K mg "counted" sCtd ["numbers"]
section
variable {P : Program} {w : World} {K : PySem.W.Frag} {mg : Str → Option Value} {base : Heap}
/-! ## counted -/
def spCtd (K : PySem.W.Frag) : Sp := fun vs H Q _ => ∃ (a : Addr) (ns ms : List Nat), vs = [.ref a] ∧ SqL K H a (nv ns) ∧ ns.length ≤ 400 ∧ ms.Pairwise (· < ·) ∧ (∀ k, k ∈ ms ↔ k ∈ ns) ∧ ms.length ≤ 400 ∧
  ∀ H' r, Same H H' → H' r = some (.lst (nv (ms.length :: ms))) → Q (.ref r) H'
theorem scCtd : FnScope ["numbers", "different"] ["numbers"] (defScope sCtd) := ⟨rfl, rfl, rfl, by decide +kernel, rfl, by decide +kernel, by decide +kernel⟩
theorem ok_ctd {f : Addr} {fd : FuncData} {k : Nat} (F : Fun K "counted" "counted" sCtd f fd) (T : TxtC K mg) : FnOk P w K mg base CX0 (k + 1) f fd ["numbers"] (spCtd K) := by
  refine F.ok scCtd (fun vs H Q E h => ?_) (fun cdv A outer s H vs Q E hr h => ?_)
  · obtain ⟨a, ns, ms, rfl, _⟩ := h
    rfl
  · obtain ⟨a, ns, ms, rfl, hS, hl, hR, hM, hm, q⟩ := h
    refine ⟨_, pss_cons (ps_set (i := 1) scCtd.nd rfl (.inl rfl) (pe_callB (NnS.cr_sortSet rfl) (by rfl) T.sorted (by decide +kernel) (pa_cons (pe_callTy (NnS.cr_setL rfl) (by rfl) T.set (by decide +kernel) (pa_cons (pv 0) pa_nil)) pa_nil)))
      (pss_one (ps_ret (pe_op op_cat (pe_lst (pa_cons (pe_callB call_len_seq (by rfl) T.len PySem.boot_len (pa_cons (pv 1) pa_nil)) pa_nil)) (pv 1)))), ?_⟩
    refine ⟨_, rfl, a, zs ns, rfl, hS, ?_, fun S c nS => ?_⟩
    · show (List.map _ ns).length + 1 < _
      rw [List.length_map]
      unfold scanBound
      omega
    have s1 : Same H (upd H S (SetO w S (fun j => decide (j ∈ zs ns)) c)) := same_upd nS
    refine ⟨S, _, c, rfl, upd_same, fun is D rise mem nD => ?_⟩
    have e : is = zs ms := rise_uniq rise (ints_rise hR) fun k => by
      rw [mem k, decide_eq_true_eq]
      show k ∈ Kzt4Neutral.ints ns ↔ k ∈ Kzt4Neutral.ints ms
      rw [ints_mem, ints_mem]
      constructor
      · rintro ⟨x, hx, rfl⟩
        exact ⟨x, (hM x).mpr hx, rfl⟩
      · rintro ⟨x, hx, rfl⟩
        exact ⟨x, (hM x).mp hx, rfl⟩
    subst e
    have s2 := s1.trans (same_upd (o := .lst (nv ms)) nD)
    refine ⟨_, rfl, D, _, rfl, .inl (.inl (.inl upd_same)), (by show 1 ≤ sizeLine; decide), fun b nb => ?_⟩
    refine ⟨_, rfl, b, D, [V.int ((nv ms).length : Int)], nv ms, rfl, rfl, upd_same, same_upd nb _ _ upd_same, ?_, fun r nr => q _ r ((s2.trans (same_upd nb)).trans (same_upd nr)) ?_⟩
    · rw [nv_length]
      show 1 + ms.length ≤ 2 ^ 24
      omega
    · rw [upd_same, nv_length]
      rfl
end
/-- what the top has written: for all points, by their numbers -/
structure TxtU (K : PySem.W.Frag) (mg : Str → Option Value) : Prop where
  range : mg "range" = none
  list : mg "list" = none
  reversed : mg "reversed" = none
  dRows : Dfn K mg "rows_of" sRows ["g"]
  dWG : Dfn K mg "whole_grid" sWG ["p", "n"]
  dPN : Dfn K mg "point_number" sPN ["p", "point"]
section
variable {P : Program} {w : World} {K : PySem.W.Frag} {mg : Str → Option Value} {base : Heap}
/-! ## whole_grid -/
def spWG : Sp := fun vs H Q _ => ∃ p n : Nat, vs = [.int (p : Int), .int (n : Int)] ∧ p ≤ 7 ∧ n ≤ 3 ∧ ∀ H' r, Same H H' → H' r = some (.lst (nv (wholeGrid p n))) → Q (.ref r) H'
theorem scWG : FnScope ["p", "n"] ["p", "n"] (defScope sWG) := ⟨rfl, rfl, rfl, by decide +kernel, rfl, by decide +kernel, by decide +kernel⟩
theorem rgV_nv (p : Nat) : rgV 0 (p : Int) = nv (List.range p) := by
  unfold rgV nv zs
  rw [List.map_map, Int.sub_zero, Int.toNat_natCast]
  apply List.map_congr_left
  intro i _
  show V.int (0 + (i : Int)) = V.int (i : Int)
  rw [Int.zero_add]
theorem nv_rep (l : List Nat) : ∀ n, (List.replicate n (nv l)).flatten = nv (List.replicate n l).flatten
  | 0 => rfl
  | n + 1 => by rw [List.replicate_succ, List.replicate_succ, List.flatten_cons, List.flatten_cons, nv_append, nv_rep l n]
theorem ok_wg {f : Addr} {fd : FuncData} {k : Nat} (F : Fun K "whole_grid" "whole_grid" sWG f fd) (T : TxtU K mg) : FnOk P w K mg base CX0 (k + 1) f fd ["p", "n"] spWG := by
  refine F.ok scWG (fun vs H Q E h => ?_) (fun cdv A outer s H vs Q E hr h => ?_)
  · obtain ⟨p, n, rfl, _⟩ := h
    rfl
  · obtain ⟨p, n, rfl, hp, hn, q⟩ := h
    refine ⟨_, pss_one (ps_ret (pe_op op_rep (pe_op op_cat (pe_lst (pa_cons (pv 0) pa_nil)) (pe_listRg rfl (by rfl) T.list (prg_1 (by rfl) T.range (pv 0)))) (pv 1))), ?_⟩
    refine ⟨_, rfl, (by show 1 ≤ sizeLine; decide), fun c nc => ?_⟩
    have s1 : Same H (upd H c (.lst [.int (p : Int)])) := same_upd nc
    refine ⟨_, rfl, (p : Int), rfl, RgOk.of_le (by omega) (by omega) (by omega) (by omega), fun d nd => ?_⟩
    have s2 : Same (upd H c (.lst [.int (p : Int)])) (upd (upd H c (.lst [.int (p : Int)])) d (.lst (rgV 0 (p : Int)))) := same_upd nd
    refine ⟨c, d, [.int (p : Int)], rgV 0 (p : Int), rfl, rfl, s2 _ _ upd_same, upd_same, ?_, fun e ne => ?_⟩
    · rw [rgV_nv, nv_length, List.length_range]
      show 1 + p ≤ 2 ^ 24
      omega
    have ee : [V.int (p : Int)] ++ rgV 0 (p : Int) = nv (p :: List.range p) := by rw [rgV_nv]; rfl
    rw [ee]
    have s3 := (s1.trans s2).trans (same_upd (o := .lst (nv (p :: List.range p))) ne)
    refine ⟨_, rfl, e, (n : Int), nv (p :: List.range p), rfl, rfl, upd_same, by omega, by omega, ?_, fun r nr => q _ r (s3.trans (same_upd nr)) ?_⟩
    · rw [nv_length, List.length_cons, List.length_range, Int.toNat_natCast]
      exact Nat.le_trans (Nat.mul_le_mul (by omega : p + 1 ≤ 8) hn) (by decide)
    · rw [upd_same, Int.toNat_natCast, nv_rep]
      rfl
/-! ## point_number -/
def spPN (K : PySem.W.Frag) : Sp := fun vs H Q _ => ∃ (a : Addr) (p : Nat) (l : List Nat), vs = [.int (p : Int), .ref a] ∧ SqL K H a (nv l) ∧ l.length ≤ 3 ∧ p ≤ 7 ∧ (∀ x ∈ l, x < p) ∧ Q (.int ((pnum p l : Nat) : Int)) H
theorem scPN : FnScope ["p", "point", "total", "number"] ["p", "point"] (defScope sPN) := ⟨rfl, rfl, rfl, by decide +kernel, rfl, by decide +kernel, by decide +kernel⟩
theorem ok_pn {f : Addr} {fd : FuncData} {k : Nat} (F : Fun K "point_number" "point_number" sPN f fd) (T : TxtU K mg) : FnOk P w K mg base CX0 (k + 1) f fd ["p", "point"] (spPN K) := by
  refine F.ok scPN (fun vs H Q E h => ?_) (fun cdv A outer s H vs Q E hr h => ?_)
  · obtain ⟨a, p, l, rfl, _⟩ := h
    rfl
  · obtain ⟨a, p, l, rfl, hS, hl, hp, hx, q⟩ := h
    refine ⟨_, pss_cons (ps_set (i := 2) scPN.nd rfl (.inl rfl) pe_int)
      (pss_cons (ps_for PassesOwn.never rfl (pi_reversed (by rfl) T.reversed (pa_cons (pv 1) pa_nil)) (pg_name (i := 3) scPN.nd rfl (.inl rfl))
        (pss_one (ps_set (i := 2) scPN.nd rfl (.inl rfl) (pe_op op_add (pe_op op_mul (pv 2) (pv 0)) (pv 3)))))
      (pss_one (ps_ret (pv 2)))), ?_⟩
    rw [← pnum_rev] at q
    refine ⟨_, rfl, a, nv l, rfl, hS, ?_⟩
    refine for_it (walk_rev (xs := nv l)) (fun i σ H' => ∃ (v : Nat) (v3 : Option V), σ = [some (.int (p : Int)), some (.ref a), some (.int (v : Int)), v3] ∧ H' = H ∧ v < p ^ i ∧ pnFrom p l.reverse 0 = pnFrom p (l.reverse.drop i) v)
      ⟨0, none, rfl, rfl, Nat.one_pos, rfl⟩ (fun i σ H' _ ⟨_, _, _, e, _⟩ => e ▸ hS) ?_ ?_
    · rintro i y σ H1 H2 hi ⟨v, v3, rfl, rfl, hv, eg⟩ ⟨rfl, hy⟩
      rw [nv_length] at hi hy
      obtain ⟨x, hxi, rfl⟩ := nv_get_some hy
      have hr : l.reverse[i]? = some x := by rw [List.getElem?_reverse hi]; exact hxi
      have hxp := hx x (mem_of_get hxi)
      rw [drop_more hr, pnFrom_cons] at eg
      have h3 : p ^ i ≤ 343 := Nat.le_trans (Nat.pow_le_pow_left hp i) (pow7_le i (by omega))
      refine ⟨_, rfl, _, rfl, _, _, rfl, rfl, .inl ⟨by omega, by omega⟩, _, rfl, _, _, rfl, rfl, ?_⟩
      refine ⟨v * p + x, some (.int (x : Int)), ?_, rfl, ?_, eg⟩
      · show [some (V.int (p : Int)), some (V.ref a), some (V.int ((v : Int) * (p : Int) + (x : Int))), some (V.int (x : Int))] = _
        rw [Int.natCast_add, Int.natCast_mul]
      · have : (v + 1) * p ≤ p ^ i * p := Nat.mul_le_mul_right _ hv
        rw [Nat.pow_succ]
        rw [Nat.succ_mul] at this
        omega
    · rintro σ H1 ⟨v, v3, rfl, rfl, hv, eg⟩
      rw [nv_length, ← List.length_reverse, List.drop_length] at eg
      rw [eg] at q
      exact ⟨_, rfl, q⟩
/-! ## common -/
def spCommon (K : PySem.W.Frag) : Sp := fun vs H Q _ => ∃ (a b : Addr) (p n : Nat) (F G : List Nat), vs = [.int (p : Int), .int (n : Int), .ref a, .ref b] ∧ SqL K H a (nv F) ∧ SqL K H b (nv G) ∧ F.length ≤ 400 ∧ G.length ≤ 400 ∧
  ∀ H' r, H' r = some (.lst ((commonAns p n F G).map V.int)) → Q (.ref r) H'
theorem scCommon : FnScope ["p", "n", "f", "h", "terms", "others", "found", "point"] ["p", "n", "f", "h"] (defScope sCommon) := ⟨rfl, rfl, rfl, by decide +kernel, rfl, by decide +kernel, by decide +kernel⟩
theorem not_held {H : Hp} {D : Addr} {as : List Addr} {ts : List (List Nat)} (hh : Held H as ts) (e : H D = some (.lst (nv []))) (h : ∀ t ∈ ts, t ≠ []) : D ∉ as := fun m => by
  obtain ⟨i, hi⟩ := List.mem_iff_getElem?.mp m
  obtain ⟨t, ht, et⟩ := hh.get hi
  rw [e] at et
  have z := congrArg List.length (HO.lst.inj (Option.some.inj et))
  rw [nv_length, nv_length] at z
  exact h t (mem_of_get ht) (List.length_eq_zero_iff.mp z.symm)
theorem ok_common {f : Addr} {fd : FuncData} {k : Nat} (F : Fun K "common" "common" sCommon f fd) (TP : TxtP K mg) (TV : TxtV K mg) (TC : TxtC K mg) (TU : TxtU K mg) : FnOk P w K mg base CX0 (k + 4) f fd ["p", "n", "f", "h"] (spCommon K) := by
  obtain ⟨fH, fdH, FH, bH, gH⟩ := TP.dHas.ex
  obtain ⟨fT, fdT, FT, bT, gT⟩ := TP.dTerms.ex
  obtain ⟨fP, fdP, FP, bP, gP⟩ := TP.dPoly.ex
  obtain ⟨fS, fdS, FS, bS, gS⟩ := TV.dPts.ex
  obtain ⟨fV, fdV, FV, bV, gV⟩ := TV.dVal.ex
  obtain ⟨fC, fdC, FC, bC, gC⟩ := TC.dCtd.ex
  obtain ⟨fW, fdW, FW, bW, gW⟩ := TU.dWG.ex
  obtain ⟨fM, fdM, FM, bM, gM⟩ := TU.dPN.ex
  obtain ⟨tN, gN⟩ := TP.nT
  have GH : FnOk P w K mg base CX0 1 fH fdH ["p", "n"] spHas := ok_has FH TP
  have GT : FnOk P w K mg base CX0 1 fT fdT ["n", "f"] (spTerms K) := ok_terms FT TP
  have GP : FnOk P w K mg base CX0 3 fP fdP ["p", "n", "f"] (spPoly K) := ok_poly FP TP
  have GS : FnOk P w K mg base CX0 2 fS fdS ["g"] (spPts K) := ok_pts FS TU.dRows TP.len
  have GV : FnOk P w K mg base CX0 3 fV fdV ["p", "terms", "point"] (spVal K) := ok_val FV TV
  have GC : FnOk P w K mg base CX0 1 fC fdC ["numbers"] (spCtd K) := ok_ctd FC TC
  have GW : FnOk P w K mg base CX0 1 fW fdW ["p", "n"] spWG := ok_wg FW TU
  have GM : FnOk P w K mg base CX0 1 fM fdM ["p", "point"] (spPN K) := ok_pn FM TU
  refine F.ok scCommon (fun vs H Q E h => ?_) (fun cdv A outer s H vs Q E hr h => ?_)
  · obtain ⟨a, b, p, n, F, G, rfl, _⟩ := h
    rfl
  · obtain ⟨a, b, p, n, F, G, rfl, hS, hU, hl, hlU, q⟩ := h
    have hr1 : Room 1 _ := hr.mono (by omega)
    have hr2 : Room 2 _ := hr.mono (by omega)
    have hr3 : Room 3 _ := hr.mono (by omega)
    refine ⟨_, pss_cons (ps_if (PW.pt (pw_or (pt_not (pt_val (pe_call GH hr1 (by rfl) gH FH.kp bH .nil pass0 (pa_cons (pv 0) (pa_cons (pv 1) pa_nil)))))
          (pw_or (pt_not (pt_val (pe_call GP hr3 (by rfl) gP FP.kp bP .nil pass0 (pa_cons (pv 0) (pa_cons (pv 1) (pa_cons (pv 2) pa_nil))))))
          (pw_or1 (pt_not (pt_val (pe_call GP hr3 (by rfl) gP FP.kp bP .nil pass0 (pa_cons (pv 0) (pa_cons (pv 1) (pa_cons (pv 3) pa_nil))))))))))
        (pss_one (ps_ret (pe_lst (pa_cons (pe_glob (by rfl) gN (show RelV (.int (-22)) (.int (-22) tN) from ⟨_, rfl⟩)) pa_nil)))) pss_nil)
      (pss_cons (ps_set (i := 4) scCommon.nd rfl (.inl rfl) (pe_call GT hr1 (by rfl) gT FT.kp bT .nil pass0 (pa_cons (pv 1) (pa_cons (pv 2) pa_nil))))
      (pss_cons (ps_set (i := 5) scCommon.nd rfl (.inl rfl) (pe_call GT hr1 (by rfl) gT FT.kp bT .nil pass0 (pa_cons (pv 1) (pa_cons (pv 3) pa_nil))))
      (pss_cons (ps_set (i := 6) scCommon.nd rfl (.inl rfl) (pe_lst pa_nil))
      (pss_cons (ps_for PassesOwn.never rfl (pi_list (pe_call GS hr2 (by rfl) gS FS.kp bS .nil pass0 (pa_cons (pe_call GW hr1 (by rfl) gW FW.kp bW .nil pass0 (pa_cons (pv 0) (pa_cons (pv 1) pa_nil))) pa_nil))) (pg_name (i := 7) scCommon.nd rfl (.inl rfl))
        (pss_one (ps_if (PW.pt (pw_and (pt_cmpR op_eq (pe_call GV hr3 (by rfl) gV FV.kp bV .nil pass0 (pa_cons (pv 0) (pa_cons (pv 4) (pa_cons (pv 7) pa_nil)))) pe_int (nomark _))
            (pw_and1 (pt_cmpR op_eq (pe_call GV hr3 (by rfl) gV FV.kp bV .nil pass0 (pa_cons (pv 0) (pa_cons (pv 5) (pa_cons (pv 7) pa_nil)))) pe_int (nomark _)))))
          (pss_one (ps_expr (pe_bm PySem.F.plainAttrs_list PySem.F.slot_list_append PySem.F.type_list_append mt_append (pv 6) (pa_cons (pe_call GM hr1 (by rfl) gM FM.kp bM .nil pass0 (pa_cons (pv 0) (pa_cons (pv 7) pa_nil))) pa_nil)))) pss_nil)))
      (pss_one (ps_ret (pe_call GC hr1 (by rfl) gC FC.kp bC .nil pass0 (pa_cons (pv 6) pa_nil)))))))), ?_⟩
    have bad : ¬ (Kzt1.okField p n = true ∧ polyOk p n F = true ∧ polyOk p n G = true) → ∀ H1 : Hp, 1 ≤ sizeLine ∧ ∀ r, H1 r = none → Q (.ref r) (upd H1 r (.lst [.int (-22)])) := fun hc H1 => by
      refine ⟨by decide, fun r nr => q _ r ?_⟩
      unfold commonAns
      rw [if_neg hc, upd_same]
      rfl
    refine ⟨_, rfl, _, rfl, p, n, rfl, _, rfl, ?_⟩
    cases h1 : Kzt1.okField p n with
    | false => exact iteT (iteT (bad (fun z => by rw [h1] at z; exact Bool.false_ne_true z.1) _))
    | true =>
      have hn := okField_n h1
      have hp := okField_p h1
      refine iteF ?_
      refine ⟨_, rfl, _, rfl, _, rfl, a, p, n, F, rfl, hS, hn.1, hn.2, hl, fun H1 s1 => ⟨_, rfl, ?_⟩⟩
      cases h2 : polyOk p n F with
      | false => exact iteT (iteT (bad (fun z => by rw [h2] at z; exact Bool.false_ne_true z.2.1) _))
      | true =>
        refine iteF ?_
        refine ⟨_, rfl, _, rfl, _, rfl, b, p, n, G, rfl, s1.seq hU, hn.1, hn.2, hlU, fun H2 s2 => ⟨_, rfl, ?_⟩⟩
        cases h3 : polyOk p n G with
        | false => exact iteT (bad (fun z => by rw [h3] at z; exact Bool.false_ne_true z.2.2) _)
        | true =>
          refine iteF ?_
          have s02 := s1.trans s2
          have hmF : F.length % (n + 1) = 0 := by
            unfold polyOk at h2
            rw [Bool.and_eq_true] at h2
            simpa using h2.1
          have hmG : G.length % (n + 1) = 0 := by
            unfold polyOk at h3
            rw [Bool.and_eq_true] at h3
            simpa using h3.1
          have hdF := poly_heads h2
          have hdG := poly_heads h3
          have q' : ∀ H' r, H' r = some (.lst (nv ((bothZero p n (chunks (n + 1) F) (chunks (n + 1) G)).length :: bothZero p n (chunks (n + 1) F) (chunks (n + 1) G)))) → Q (.ref r) H' := by
            unfold commonAns at q
            rw [if_pos ⟨h1, h2, h3⟩] at q
            exact q
          generalize hts : chunks (n + 1) F = ts at q' hdF
          generalize hus : chunks (n + 1) G = us at q' hdG
          have htl : ∀ t ∈ ts, 1 ≤ t.length := fun t ht => by
            rw [← hts] at ht
            rw [chunks_len (by omega) hmF t ht]
            omega
          have hul : ∀ t ∈ us, 1 ≤ t.length := fun t ht => by
            rw [← hus] at ht
            rw [chunks_len (by omega) hmG t ht]
            omega
          refine ⟨_, rfl, _, rfl, a, n, F, rfl, s02.seq hS, hn.2, hl, hmF, fun H3 r as s3 nr er hh => ?_⟩
          rw [hts] at hh
          have s03 := s02.trans s3
          refine ⟨_, rfl, _, rfl, b, n, G, rfl, s03.seq hU, hn.2, hlU, hmG, fun H4 r' as' s4 nr' er' hh' => ?_⟩
          rw [hus] at hh'
          have hh4 := hh.mono s4
          have er4 := s4 _ _ er
          refine ⟨Nat.zero_le _, fun D nD => ?_⟩
          refine ⟨_, rfl, _, rfl, p, n, rfl, hp.2, hn.2, fun H5 g s5 eg => ?_⟩
          have hrows := whole_rows p n
          refine ⟨g, wholeGrid p n, rfl, .inl (.inl eg), ?_, ?_, ?_, fun H6 r2 ps s6 er2 hp2 => ?_⟩
          · rw [whole_len]
            exact Nat.le_trans (Nat.mul_le_mul hn.2 (by omega : p + 1 ≤ 8)) (by decide)
          · rw [hrows, List.length_replicate]
            exact hn.2
          · rw [hrows]
            intro r hr
            rw [List.eq_of_mem_replicate hr, List.tail_cons, List.length_range]
            exact hp.2
          rw [whole_tails] at hp2
          generalize hpts : pointsOf (List.replicate n (List.range p)) = pts at hp2
          have hpt : ∀ pt ∈ pts, pt.length = n ∧ ∀ x ∈ pt, x < p := fun pt h => by
            rw [← hpts, pointsOf_eq] at h
            exact (grid_whole n pt).mp h
          have hcnt : pts.length ≤ 343 := by
            rw [← hpts, pointsOf_eq, grid_count]
            exact Nat.le_trans (Nat.pow_le_pow_left hp.2 n) (pow7_le n hn.2)
          have eD6 : H6 D = some (.lst (nv [])) := s6 _ _ (s5 _ _ upd_same)
          have s46 : Same H4 H6 := ((same_upd nD).trans s5).trans s6
          have nDp : D ∉ ps := not_held hp2 eD6 fun t ht z => by
            have := (hpt t ht).1
            rw [z, List.length_nil] at this
            omega
          have nDr : r2 ≠ D := fun z => by
            rw [z, eD6] at er2
            have y := congrArg List.length (HO.lst.inj (Option.some.inj er2))
            rw [List.length_map, hp2.len, ← hpts, pointsOf_eq, grid_count] at y
            have : 0 < p ^ n := Nat.pow_pos (by omega)
            have y' : 0 = p ^ n := y
            omega
          refine ⟨r2, rfl, ⟨_, .inl (.inl er2)⟩, ?_⟩
          refine for_list (K := K) (a := r2) (xs := ps.map V.ref) (fun i σ H' => ∃ (v7 : Option V) (acc : List Nat), σ = [some (.int (p : Int)), some (.int (n : Int)), some (.ref a), some (.ref b), some (.ref r), some (.ref r'), some (.ref D), v7] ∧ Same H4 H' ∧ H' r2 = some (.lst (ps.map V.ref)) ∧ Held H' ps pts ∧ H' D = some (.lst (nv acc)) ∧
              metAt p ts us pts = acc ++ metAt p ts us (pts.drop i))
            ⟨none, [], rfl, s46, er2, hp2, eD6, rfl⟩ (fun i σ H' _ ⟨_, _, _, _, e, _⟩ => .inl (.inl e)) ?_ ?_
          · rintro i y σ H7 hi ⟨v7, acc, rfl, s7, e7, hh7, eD, eg⟩
            obtain ⟨c, hc, rfl⟩ := refs_get hi
            obtain ⟨pt, hpi, ec⟩ := hh7.get hc
            have hptl := hpt pt (mem_of_get hpi)
            rw [drop_more hpi] at eg
            refine ⟨_, rfl, _, rfl, _, rfl, r, c, as, p, ts, pt, rfl, .inl (.inl (s7 _ _ er4)), hh4.mono s7, .inl (.inl ec), hp.1, hp.2, fun t ht => ⟨htl t ht, (hdF t ht).2⟩, fun H8 s8 => ?_⟩
            refine ⟨rfl, _, rfl, ?_⟩
            have h78 := s7.trans s8
            by_cases z1 : valAt p ts pt = 0
            · refine ifT (show decide (V.int ((valAt p ts pt : Nat) : Int) = V.int 0) = true from dec_T (by rw [z1]; rfl)) ?_
              refine ⟨_, rfl, _, rfl, _, rfl, r', c, as', p, us, pt, rfl, .inl (.inl (h78 _ _ er')), hh'.mono h78, .inl (.inl (s8 _ _ ec)), hp.1, hp.2, fun t ht => ⟨hul t ht, (hdG t ht).2⟩, fun H9 s9 => ?_⟩
              refine ⟨rfl, _, rfl, ?_⟩
              have h89 := s8.trans s9
              have h79 := h78.trans s9
              by_cases z2 : valAt p us pt = 0
              · refine ifT (show decide (V.int ((valAt p us pt : Nat) : Int) = V.int 0) = true from dec_T (by rw [z2]; rfl)) ?_
                rw [metAt_yes z1 z2] at eg
                have eg' : metAt p ts us pts = (acc ++ [pnum p pt]) ++ metAt p ts us (pts.drop (i + 1)) := by rw [eg, List.append_assoc]; rfl
                refine ⟨_, rfl, .inl ⟨rfl, _, .inl (.inl (h89 _ _ eD))⟩, _, rfl, _, rfl, c, p, pt, rfl, .inl (.inl (h89 _ _ ec)), by omega, hp.2, hptl.2, ?_⟩
                refine ⟨D, nv acc, _, rfl, rfl, h89 _ _ eD, ?_, ?_⟩
                · have l1 := congrArg List.length eg'
                  rw [List.length_append, List.length_append] at l1
                  have l2 := metAt_len p ts us pts
                  rw [nv_length]
                  exact small1000 (by omega)
                · refine ⟨_, acc ++ [pnum p pt], rfl, same_upd2 h79 nD, ?_, Held.upd nDp (hh7.mono h89), ?_, eg'⟩
                  · rw [upd_ne nDr]
                    exact h89 _ _ e7
                  · rw [upd_same, nv_append]
                    rfl
              · refine ifF (show decide (V.int ((valAt p us pt : Nat) : Int) = V.int 0) = false from dec_F (by omega)) ?_
                rw [metAt_no fun z => z2 z.2] at eg
                exact ⟨_, acc, rfl, h79, h89 _ _ e7, hh7.mono h89, h89 _ _ eD, eg⟩
            · refine ifF (show decide (V.int ((valAt p ts pt : Nat) : Int) = V.int 0) = false from dec_F (by omega)) ?_
              rw [metAt_no fun z => z1 z.1] at eg
              exact iteF ⟨_, acc, rfl, h78, s8 _ _ e7, hh7.mono s8, s8 _ _ eD, eg⟩
          · rintro σ H7 ⟨v7, acc, rfl, s7, e7, hh7, eD, eg⟩
            rw [List.length_map, hh7.len, List.drop_length, metAt_nil, List.append_nil] at eg
            rw [← eg] at eD
            have lm := metAt_len p ts us pts
            refine ⟨_, rfl, D, metAt p ts us pts, bothZero p n ts us, rfl, .inl (.inl eD), by omega, range_rise _ _, fun k => by rw [← hpts]; exact both_mem (by omega) ts us k, ?_, fun H8 z _ ez => q' _ z ez⟩
            have lb := List.length_filter_le (fun x => valAt p ts (Kzt1.coords p n x) == 0 && valAt p us (Kzt1.coords p n x) == 0) (List.range (p ^ n))
            rw [List.length_range] at lb
            have : p ^ n ≤ 343 := Nat.le_trans (Nat.pow_le_pow_left hp.2 n) (pow7_le n hn.2)
            show ((List.range (p ^ n)).filter _).length ≤ 400
            omega
end
theorem dfn_mk {K : PySem.W.Frag} {h : Heap} {mg : Str → Option Value} (X : K.In h) (G : h.Ns mainGlobals mg) {x : Str} {st : Stmt} {ps : List Str} {f : Addr} {oc kV doc pm cdv ct : Value} {od an : Option Addr} {osl : Array (Option Value)}
    (a : PySem.W.nsIn K mainGlobals x = some (some (.ref f))) (l : K.lookup f = some ⟨oc, od, .func (PySem.W.fnOf x x (defArgs st) (defBody st) (defScope st) .none kV doc pm an cdv ct), osl⟩) (c : PySem.W.codeIn K cdv x = true) (k : PySem.W.keepIn K (.ref f) = true)
    (b : ∀ (kV doc pm : Value) (an : Option Addr) (cdv ct : Value) (us : List Value), us.length = ps.length → bindArgs (PySem.W.fnOf x x (defArgs st) (defBody st) (defScope st) .none kV doc pm an cdv ct) ⟨us, []⟩ = pure (ps.zip us)) : Dfn K mg x st ps :=
  ⟨f, _, fun_mk l c k, (fun_mk l c k).binds b, PySem.W.mg_of X G a⟩
theorem primes_mk {K : PySem.W.Frag} {h : Heap} {mg : Str → Option Value} (X : K.In h) (G : h.Ns mainGlobals mg) {a : Addr} {t1 t2 t3 t4 : Tok} {od : Option Addr} {n : Nat} {osl : Array (Option Value)}
    (g : PySem.W.nsIn K mainGlobals "PRIMES" = some (some (.ref a))) (l : K.lookup a = some ⟨.type "tuple", od, .seq #[.int 2 t1, .int 3 t2, .int 5 t3, .int 7 t4] n, osl⟩) :
    ∃ a, mg "PRIMES" = some (.ref a) ∧ ∀ H : Hp, SqT K H a (nv [2, 3, 5, 7]) :=
  ⟨a, PySem.W.mg_of X G g, fun H => .inr ⟨_, _, _, l, rfl, rfl, (by show 4 ≤ sizeLine; decide), .cons ⟨_, rfl⟩ (.cons ⟨_, rfl⟩ (.cons ⟨_, rfl⟩ (.cons ⟨_, rfl⟩ .nil)))⟩⟩
theorem nat_of {z : Int} (h : PySem.W.Codec.inInt 0 4294967295 z = true) : ∃ k : Nat, z = (k : Int) := by
  unfold PySem.W.Codec.inInt at h
  rw [Bool.and_eq_true, decide_eq_true_eq] at h
  exact ⟨z.toNat, by omega⟩
theorem nats_of : ∀ {l : List Int}, (∀ x ∈ l, PySem.W.Codec.inInt 0 4294967295 x = true) → ∃ m : List Nat, l = zs m
  | [], _ => ⟨[], rfl⟩
  | x :: l, h => by
    obtain ⟨k, rfl⟩ := nat_of (h x List.mem_cons_self)
    obtain ⟨m, rfl⟩ := nats_of (l := l) fun y hy => h y (List.mem_cons_of_mem _ hy)
    exact ⟨k :: m, rfl⟩
theorem common_req {K : PySem.W.Frag} {H : Hp} {p n : Int} {f t : List Int} {a b : Addr} {E : XK} (hp : PySem.W.Codec.inInt 0 4294967295 p = true) (hn : PySem.W.Codec.inInt 0 4294967295 n = true) (hl : PySem.W.Codec.inLen 0 400 f = true)
    (hf : ∀ x ∈ f, PySem.W.Codec.inInt 0 4294967295 x = true) (hlt : PySem.W.Codec.inLen 0 400 t = true) (ht : ∀ x ∈ t, PySem.W.Codec.inInt 0 4294967295 x = true) (s3 : SqL K H a (f.map V.int)) (s4 : SqL K H b (t.map V.int)) :
    spCommon K [.int p, .int n, .ref a, .ref b] H (fun v H' => Dw K H' v (.list ((PyKzt4.common p n f t).map PySem.W.WData.int))) E := by
  obtain ⟨p, rfl⟩ := nat_of hp
  obtain ⟨n, rfl⟩ := nat_of hn
  obtain ⟨F, rfl⟩ := nats_of hf
  obtain ⟨T, rfl⟩ := nats_of ht
  have hl' : (zs F).length ≤ 400 := (PySem.W.Codec.inNat_iff.mp hl).2
  have hl2 : (zs T).length ≤ 400 := (PySem.W.Codec.inNat_iff.mp hlt).2
  refine ⟨a, b, p, n, F, T, rfl, s3, s4, by simpa [zs] using hl', by simpa [zs] using hl2, fun H' r hr => ?_⟩
  have e : PyKzt4.common p n (zs F) (zs T) = commonAns p n F T := common_spec p n F T
  rw [e]
  exact .lst (SqL.of hr) (dw_ints (commonAns p n F T))
theorem all_mk {P : Program} {w : World} {K : PySem.W.Frag} {h : Heap} {mg : Str → Option Value} {fa aP fX f0 f1 f2 f3 f4 f5 f6 f7 f8 f9 f10 f11 f12 f13 : Addr} (X : K.In h) (G : h.Ns mainGlobals mg) (hfa : mg "common" = some (.ref fa))
    {nP : Nat} {u1 u2 u3 u4 w0 w1 w2 : Tok} {odP od0 an0 od1 an1 od2 an2 od3 an3 od4 an4 od5 an5 od6 an6 od7 an7 od8 an8 od9 an9 od10 an10 od11 an11 od12 an12 od13 an13 od14 an14 : Option Addr} {slP sl0 sl1 sl2 sl3 sl4 sl5 sl6 sl7 sl8 sl9 sl10 sl11 sl12 sl13 sl14 : Array (Option Value)} {oc0 kV0 dc0 pm0 cd0 ct0 oc1 kV1 dc1 pm1 cd1 ct1 oc2 kV2 dc2 pm2 cd2 ct2 oc3 kV3 dc3 pm3 cd3 ct3 oc4 kV4 dc4 pm4 cd4 ct4 oc5 kV5 dc5 pm5 cd5 ct5 oc6 kV6 dc6 pm6 cd6 ct6 oc7 kV7 dc7 pm7 cd7 ct7 oc8 kV8 dc8 pm8 cd8 ct8 oc9 kV9 dc9 pm9 cd9 ct9 oc10 kV10 dc10 pm10 cd10 ct10 oc11 kV11 dc11 pm11 cd11 ct11 oc12 kV12 dc12 pm12 cd12 ct12 oc13 kV13 dc13 pm13 cd13 ct13 oc14 kV14 dc14 pm14 cd14 ct14 : Value}
    (gP : PySem.W.nsIn K mainGlobals "PRIMES" = some (some (.ref aP))) (lP : K.lookup aP = some ⟨.type "tuple", odP, .seq #[.int 2 u1, .int 3 u2, .int 5 u3, .int 7 u4] nP, slP⟩)
    (gc0 : PySem.W.nsIn K mainGlobals "MOST_UNKNOWNS" = some (some (.int 3 w0)))
    (gc1 : PySem.W.nsIn K mainGlobals "MOST_TIMES" = some (some (.int 12 w1)))
    (gc2 : PySem.W.nsIn K mainGlobals "NOT_AS_TOLD" = some (some (.int (-22) w2)))
    (gz0 : PySem.W.nsIn K mainGlobals "len" = some none)
    (gz1 : PySem.W.nsIn K mainGlobals "range" = some none)
    (gz2 : PySem.W.nsIn K mainGlobals "max" = some none)
    (gz3 : PySem.W.nsIn K mainGlobals "sum" = some none)
    (gz4 : PySem.W.nsIn K mainGlobals "zip" = some none)
    (gz5 : PySem.W.nsIn K mainGlobals "sorted" = some none)
    (gz6 : PySem.W.nsIn K mainGlobals "set" = some none)
    (gz7 : PySem.W.nsIn K mainGlobals "list" = some none)
    (gz8 : PySem.W.nsIn K mainGlobals "reversed" = some none)
    (a0 : PySem.W.nsIn K mainGlobals "has_sizes" = some (some (.ref f0))) (l0 : K.lookup f0 = some ⟨oc0, od0, .func (PySem.W.fnOf "has_sizes" "has_sizes" (defArgs sHas) (defBody sHas) (defScope sHas) .none kV0 dc0 pm0 an0 cd0 ct0), sl0⟩) (c0 : PySem.W.codeIn K cd0 "has_sizes" = true) (k0 : PySem.W.keepIn K (.ref f0) = true)
    (a1 : PySem.W.nsIn K mainGlobals "terms_of" = some (some (.ref f1))) (l1 : K.lookup f1 = some ⟨oc1, od1, .func (PySem.W.fnOf "terms_of" "terms_of" (defArgs sTerms) (defBody sTerms) (defScope sTerms) .none kV1 dc1 pm1 an1 cd1 ct1), sl1⟩) (c1 : PySem.W.codeIn K cd1 "terms_of" = true) (k1 : PySem.W.keepIn K (.ref f1) = true)
    (a2 : PySem.W.nsIn K mainGlobals "is_polynomial" = some (some (.ref f2))) (l2 : K.lookup f2 = some ⟨oc2, od2, .func (PySem.W.fnOf "is_polynomial" "is_polynomial" (defArgs sPoly) (defBody sPoly) (defScope sPoly) .none kV2 dc2 pm2 an2 cd2 ct2), sl2⟩) (c2 : PySem.W.codeIn K cd2 "is_polynomial" = true) (k2 : PySem.W.keepIn K (.ref f2) = true)
    (a3 : PySem.W.nsIn K mainGlobals "is_term" = some (some (.ref f3))) (l3 : K.lookup f3 = some ⟨oc3, od3, .func (PySem.W.fnOf "is_term" "is_term" (defArgs sTerm) (defBody sTerm) (defScope sTerm) .none kV3 dc3 pm3 an3 cd3 ct3), sl3⟩) (c3 : PySem.W.codeIn K cd3 "is_term" = true) (k3 : PySem.W.keepIn K (.ref f3) = true)
    (a4 : PySem.W.nsIn K mainGlobals "place_of" = some (some (.ref f4))) (l4 : K.lookup f4 = some ⟨oc4, od4, .func (PySem.W.fnOf "place_of" "place_of" (defArgs sPlace) (defBody sPlace) (defScope sPlace) .none kV4 dc4 pm4 an4 cd4 ct4), sl4⟩) (c4 : PySem.W.codeIn K cd4 "place_of" = true) (k4 : PySem.W.keepIn K (.ref f4) = true)
    (a5 : PySem.W.nsIn K mainGlobals "term_degree" = some (some (.ref f5))) (l5 : K.lookup f5 = some ⟨oc5, od5, .func (PySem.W.fnOf "term_degree" "term_degree" (defArgs sTDeg) (defBody sTDeg) (defScope sTDeg) .none kV5 dc5 pm5 an5 cd5 ct5), sl5⟩) (c5 : PySem.W.codeIn K cd5 "term_degree" = true) (k5 : PySem.W.keepIn K (.ref f5) = true)
    (a6 : PySem.W.nsIn K mainGlobals "points_of" = some (some (.ref f6))) (l6 : K.lookup f6 = some ⟨oc6, od6, .func (PySem.W.fnOf "points_of" "points_of" (defArgs sPts) (defBody sPts) (defScope sPts) .none kV6 dc6 pm6 an6 cd6 ct6), sl6⟩) (c6 : PySem.W.codeIn K cd6 "points_of" = true) (k6 : PySem.W.keepIn K (.ref f6) = true)
    (a7 : PySem.W.nsIn K mainGlobals "value_at" = some (some (.ref f7))) (l7 : K.lookup f7 = some ⟨oc7, od7, .func (PySem.W.fnOf "value_at" "value_at" (defArgs sVal) (defBody sVal) (defScope sVal) .none kV7 dc7 pm7 an7 cd7 ct7), sl7⟩) (c7 : PySem.W.codeIn K cd7 "value_at" = true) (k7 : PySem.W.keepIn K (.ref f7) = true)
    (a8 : PySem.W.nsIn K mainGlobals "term_value" = some (some (.ref f8))) (l8 : K.lookup f8 = some ⟨oc8, od8, .func (PySem.W.fnOf "term_value" "term_value" (defArgs sTVal) (defBody sTVal) (defScope sTVal) .none kV8 dc8 pm8 an8 cd8 ct8), sl8⟩) (c8 : PySem.W.codeIn K cd8 "term_value" = true) (k8 : PySem.W.keepIn K (.ref f8) = true)
    (a9 : PySem.W.nsIn K mainGlobals "power_of" = some (some (.ref f9))) (l9 : K.lookup f9 = some ⟨oc9, od9, .func (PySem.W.fnOf "power_of" "power_of" (defArgs sPow) (defBody sPow) (defScope sPow) .none kV9 dc9 pm9 an9 cd9 ct9), sl9⟩) (c9 : PySem.W.codeIn K cd9 "power_of" = true) (k9 : PySem.W.keepIn K (.ref f9) = true)
    (a10 : PySem.W.nsIn K mainGlobals "counted" = some (some (.ref f10))) (l10 : K.lookup f10 = some ⟨oc10, od10, .func (PySem.W.fnOf "counted" "counted" (defArgs sCtd) (defBody sCtd) (defScope sCtd) .none kV10 dc10 pm10 an10 cd10 ct10), sl10⟩) (c10 : PySem.W.codeIn K cd10 "counted" = true) (k10 : PySem.W.keepIn K (.ref f10) = true)
    (a11 : PySem.W.nsIn K mainGlobals "rows_of" = some (some (.ref f11))) (l11 : K.lookup f11 = some ⟨oc11, od11, .func (PySem.W.fnOf "rows_of" "rows_of" (defArgs sRows) (defBody sRows) (defScope sRows) .none kV11 dc11 pm11 an11 cd11 ct11), sl11⟩) (c11 : PySem.W.codeIn K cd11 "rows_of" = true) (k11 : PySem.W.keepIn K (.ref f11) = true)
    (a12 : PySem.W.nsIn K mainGlobals "whole_grid" = some (some (.ref f12))) (l12 : K.lookup f12 = some ⟨oc12, od12, .func (PySem.W.fnOf "whole_grid" "whole_grid" (defArgs sWG) (defBody sWG) (defScope sWG) .none kV12 dc12 pm12 an12 cd12 ct12), sl12⟩) (c12 : PySem.W.codeIn K cd12 "whole_grid" = true) (k12 : PySem.W.keepIn K (.ref f12) = true)
    (a13 : PySem.W.nsIn K mainGlobals "point_number" = some (some (.ref f13))) (l13 : K.lookup f13 = some ⟨oc13, od13, .func (PySem.W.fnOf "point_number" "point_number" (defArgs sPN) (defBody sPN) (defScope sPN) .none kV13 dc13 pm13 an13 cd13 ct13), sl13⟩) (c13 : PySem.W.codeIn K cd13 "point_number" = true) (k13 : PySem.W.keepIn K (.ref f13) = true)
    (a14 : PySem.W.nsIn K mainGlobals "common" = some (some (.ref fX))) (l14 : K.lookup fX = some ⟨oc14, od14, .func (PySem.W.fnOf "common" "common" (defArgs sCommon) (defBody sCommon) (defScope sCommon) .none kV14 dc14 pm14 an14 cd14 ct14), sl14⟩) (c14 : PySem.W.codeIn K cd14 "common" = true) (k14 : PySem.W.keepIn K (.ref fX) = true) :
    ∃ fd : FuncData, (∀ (s : Shared) (us : List Value), us.length = (["p", "n", "f", "h"] : List Str).length → BindsTo s fd ⟨us, []⟩ ((["p", "n", "f", "h"] : List Str).zip us)) ∧ ∀ base : Heap, K.In base → base.Ns mainGlobals mg → FnOk P w K mg base CX0 4 fa fd ["p", "n", "f", "h"] (spCommon K) := by
  have e := hfa.symm.trans (PySem.W.mg_of X G a14)
  cases e
  have TTxtP : TxtP K mg := ⟨primes_mk X G gP lP,
    ⟨_, PySem.W.mg_of X G gc0⟩,
    ⟨_, PySem.W.mg_of X G gc1⟩,
    ⟨_, PySem.W.mg_of X G gc2⟩,
    PySem.W.mg_none_of X G gz0,
    PySem.W.mg_none_of X G gz1,
    PySem.W.mg_none_of X G gz2,
    PySem.W.mg_none_of X G gz3,
    dfn_mk X G a0 l0 c0 k0 (fun _ _ _ _ _ _ us hl => match us, hl with | [_, _], _ => rfl),
    dfn_mk X G a1 l1 c1 k1 (fun _ _ _ _ _ _ us hl => match us, hl with | [_, _], _ => rfl),
    dfn_mk X G a2 l2 c2 k2 (fun _ _ _ _ _ _ us hl => match us, hl with | [_, _, _], _ => rfl),
    dfn_mk X G a3 l3 c3 k3 (fun _ _ _ _ _ _ us hl => match us, hl with | [_, _], _ => rfl),
    dfn_mk X G a4 l4 c4 k4 (fun _ _ _ _ _ _ us hl => match us, hl with | [_], _ => rfl),
    dfn_mk X G a5 l5 c5 k5 (fun _ _ _ _ _ _ us hl => match us, hl with | [_], _ => rfl)⟩
  have TTxtV : TxtV K mg := ⟨PySem.W.mg_none_of X G gz1,
    PySem.W.mg_none_of X G gz4,
    dfn_mk X G a6 l6 c6 k6 (fun _ _ _ _ _ _ us hl => match us, hl with | [_], _ => rfl),
    dfn_mk X G a7 l7 c7 k7 (fun _ _ _ _ _ _ us hl => match us, hl with | [_, _, _], _ => rfl),
    dfn_mk X G a8 l8 c8 k8 (fun _ _ _ _ _ _ us hl => match us, hl with | [_, _, _], _ => rfl),
    dfn_mk X G a9 l9 c9 k9 (fun _ _ _ _ _ _ us hl => match us, hl with | [_, _, _], _ => rfl)⟩
  have TTxtC : TxtC K mg := ⟨PySem.W.mg_none_of X G gz0,
    PySem.W.mg_none_of X G gz5,
    PySem.W.mg_none_of X G gz6,
    dfn_mk X G a10 l10 c10 k10 (fun _ _ _ _ _ _ us hl => match us, hl with | [_], _ => rfl)⟩
  have TTxtU : TxtU K mg := ⟨PySem.W.mg_none_of X G gz1,
    PySem.W.mg_none_of X G gz7,
    PySem.W.mg_none_of X G gz8,
    dfn_mk X G a11 l11 c11 k11 (fun _ _ _ _ _ _ us hl => match us, hl with | [_], _ => rfl),
    dfn_mk X G a12 l12 c12 k12 (fun _ _ _ _ _ _ us hl => match us, hl with | [_, _], _ => rfl),
    dfn_mk X G a13 l13 c13 k13 (fun _ _ _ _ _ _ us hl => match us, hl with | [_, _], _ => rfl)⟩
  have FX := fun_mk (st := sCommon) l14 c14 k14
  exact ⟨PySem.W.fnOf "common" "common" (defArgs sCommon) (defBody sCommon) (defScope sCommon) .none kV14 dc14 pm14 an14 cd14 ct14, fun s us hu => match us, hu with | [_, _, _, _], _ => .of_eq rfl, fun base _ _ => ok_common FX TTxtP TTxtV TTxtC TTxtU⟩
end Nn
open PySem PySem.W PyProof.Rows
set_option maxRecDepth 100000 in
set_option maxHeartbeats 8000000 in
theorem PySem.Challenge.cw_notnought_s07_common_holds : PySem.Challenge.rw_notnought_s07_common.Holds := by
  w_on; k_headS; (case hw => exact ⟨[.int 2, .int 1, .list [], .list []], by decide +kernel, by decide +kernel⟩)
  k_fillS
  refine L2.walk_specK (r := PySem.Challenge.rw_notnought_s07_common) (k := 4) (CX := L2.CX0) (ps := ["p", "n", "f", "h"]) (sp := Nn.spCommon) (by decide +kernel) rfl rfl ⟨rfl, by decide, by decide⟩ (fun w h Y => PySem.W.kIn_of Y) ?F ?S (fun _ _ _ _ z => z)
  case F =>
    intro w mg fa h Y KX G hmg
    refine' Nn.all_mk KX G hmg ?gP ?lP ?gc0 ?gc1 ?gc2 ?gz0 ?gz1 ?gz2 ?gz3 ?gz4 ?gz5 ?gz6 ?gz7 ?gz8 ?a0 ?l0 ?c0 ?k0 ?a1 ?l1 ?c1 ?k1 ?a2 ?l2 ?c2 ?k2 ?a3 ?l3 ?c3 ?k3 ?a4 ?l4 ?c4 ?k4 ?a5 ?l5 ?c5 ?k5 ?a6 ?l6 ?c6 ?k6 ?a7 ?l7 ?c7 ?k7 ?a8 ?l8 ?c8 ?k8 ?a9 ?l9 ?c9 ?k9 ?a10 ?l10 ?c10 ?k10 ?a11 ?l11 ?c11 ?k11 ?a12 ?l12 ?c12 ?k12 ?a13 ?l13 ?c13 ?k13 ?a14 ?l14 ?c14 ?k14
    (case gP => k_is); (case lP => k_is); (case gc0 => k_is); (case gc1 => k_is)
    (case gc2 => k_is); (case gz0 => k_is); (case gz1 => k_is); (case gz2 => k_is)
    (case gz3 => k_is); (case gz4 => k_is); (case gz5 => k_is); (case gz6 => k_is)
    (case gz7 => k_is); (case gz8 => k_is); (case a0 => k_is); (case l0 => k_is)
    (case c0 => k_is); (case k0 => k_is); (case a1 => k_is); (case l1 => k_is)
    (case c1 => k_is); (case k1 => k_is); (case a2 => k_is); (case l2 => k_is)
    (case c2 => k_is); (case k2 => k_is); (case a3 => k_is); (case l3 => k_is)
    (case c3 => k_is); (case k3 => k_is); (case a4 => k_is); (case l4 => k_is)
    (case c4 => k_is); (case k4 => k_is); (case a5 => k_is); (case l5 => k_is)
    (case c5 => k_is); (case k5 => k_is); (case a6 => k_is); (case l6 => k_is)
    (case c6 => k_is); (case k6 => k_is); (case a7 => k_is); (case l7 => k_is)
    (case c7 => k_is); (case k7 => k_is); (case a8 => k_is); (case l8 => k_is)
    (case c8 => k_is); (case k8 => k_is); (case a9 => k_is); (case l9 => k_is)
    (case c9 => k_is); (case k9 => k_is); (case a10 => k_is); (case l10 => k_is)
    (case c10 => k_is); (case k10 => k_is); (case a11 => k_is); (case l11 => k_is)
    (case c11 => k_is); (case k11 => k_is); (case a12 => k_is); (case l12 => k_is)
    (case c12 => k_is); (case k12 => k_is); (case a13 => k_is); (case l13 => k_is)
    (case c13 => k_is); (case k13 => k_is); (case a14 => k_is); (case l14 => k_is)
    (case c14 => k_is); (case k14 => k_is)
  case S =>
    intro K H xs a hO hwi hask hx
    obtain ⟨p, n, f, t, u⟩ := a
    cases hx with
    | cons h1 hx => cases hx with
    | cons h2 hx => cases hx with
    | cons h3 hx => cases hx with
    | cons h4 hx =>
      cases hx
      cases h1
      cases h2
      cases h3 with
      | lst s3 d3 =>
      cases h4 with
      | lst s4 d4 =>
        have e3 := L2.ints_dw f _ d3
        have e4 := L2.ints_dw t _ d4
        subst e3 e4
        have q : ((Codec.inInt 0 4294967295 p) && ((Codec.inInt 0 4294967295 n) && ((Codec.inLen 0 400 f && f.all (Codec.inInt 0 4294967295)) && ((Codec.inLen 0 400 t && t.all (Codec.inInt 0 4294967295)) && true)))) = true := hwi
        simp only [Bool.and_eq_true, List.all_eq_true] at q
        exact Nn.common_req q.1 q.2.1 q.2.2.1.1 q.2.2.1.2 q.2.2.2.1.1 q.2.2.2.1.2 s3 s4
#print axioms PySem.Challenge.cw_notnought_s07_common_holds

