import PyProof.Rows.All
import Wide.All
import OpenK.AllK
import Wide.FinOn
import HandS.ForMost
import HandS.Evl
import HandS.IsInst
import HandS.Strs
import HandS.Defaults
import HandS.SortInts
import HandS.HeadEnd
import HandS.HeadHook1
import HandS.HeadHook2
import HandS.SetBool
import HandS.SetFor
import HandS.Dict
import KE.KDictSum
import HandS.Iter
import HandS.Deep
import HandS.Style
import KE.DataFind
import HandS.Conv
import HandS.More
import KE.SortCalls
import HandS.ExcIs
import HandS.ForExc
import HandS.Hot
import HandS.HotCalls
import HandS.ExcCtx
import HandS.WordsExc
import HandS.HeadHook4
import PyProof.SumAny
import PyProof.ListOps
import KE.KUnpackStar
import PyProof.SetRoads
import HandS.FStr
import KE.DataMinMax
import HandS.SortRule
import HandS.Flow
import KE.KStateDown
import HandS.Exc
import HandS.ExcOwn
import HandS.Head0
import HandS.Head1
import HandS.Head2
import PySem.Challenge.RW_stiffbars_k08_built_or_no_steps
set_option Elab.async false
set_option linter.all false
set_option maxRecDepth 100000
set_option maxHeartbeats 8000000
/-! Frames by counts: sets of joints as tests, bars that lie among them, slim bars (those that crowd no joints), tight sets. Core Lean alone. -/
namespace Fr
abbrev Bar := Nat × Nat
abbrev JS := Nat → Bool

theorem countP_four {α : Type} {p q r s : α → Bool} : ∀ {l : List α}, (∀ x ∈ l, (p x).toNat + (q x).toNat ≤ (r x).toNat + (s x).toNat) → l.countP p + l.countP q ≤ l.countP r + l.countP s
  | [], _ => by simp
  | a :: l, h => by
    have ih := countP_four (l := l) fun x hx => h x (List.mem_cons_of_mem _ hx)
    have ha := h a List.mem_cons_self
    simp only [List.countP_cons]
    cases hp : p a <;> cases hq : q a <;> cases hr : r a <;> cases hs : s a <;> simp [hp, hq, hr, hs] at ha ⊢ <;> omega

theorem countP_four_eq {α : Type} {p q r s : α → Bool} {l : List α} (h : ∀ x ∈ l, (p x).toNat + (q x).toNat = (r x).toNat + (s x).toNat) : l.countP p + l.countP q = l.countP r + l.countP s :=
  Nat.le_antisymm (countP_four fun x hx => Nat.le_of_eq (h x hx)) (countP_four fun x hx => Nat.le_of_eq (h x hx).symm)

theorem countP_sub {α : Type} {p q : α → Bool} {l : List α} (h : ∀ x ∈ l, p x = true → q x = true) : l.countP p ≤ l.countP q :=
  List.countP_mono_left h

theorem countP_same {α : Type} {p q : α → Bool} {l : List α} (h : ∀ x ∈ l, p x = q x) : l.countP p = l.countP q :=
  List.countP_congr fun x hx => by rw [h x hx]

def card (n : Nat) (S : JS) : Nat := (List.range n).countP S
def ins (bs : List Bar) (S : JS) : Nat := bs.countP fun b => S b.1 && S b.2
def cup (S T : JS) : JS := fun x => S x || T x
def cap (S T : JS) : JS := fun x => S x && T x
def Ok (n : Nat) (bs : List Bar) : Prop := ∀ b ∈ bs, b.1 < n ∧ b.2 < n ∧ b.1 ≠ b.2
/-- bars that crowd no joints -/
def Slim (n : Nat) (bs : List Bar) : Prop := ∀ S : JS, 2 ≤ card n S → ins bs S + 3 ≤ 2 * card n S
/-- joints that have no room for a bar more -/
def Tight (n : Nat) (bs : List Bar) (S : JS) : Prop := 2 ≤ card n S ∧ ins bs S + 3 = 2 * card n S

theorem card_cup_cap (n : Nat) (S T : JS) : card n S + card n T = card n (cup S T) + card n (cap S T) := by
  unfold card cup cap
  exact countP_four_eq fun x _ => by cases S x <;> cases T x <;> rfl
theorem ins_cup_cap (bs : List Bar) (S T : JS) : ins bs S + ins bs T ≤ ins bs (cup S T) + ins bs (cap S T) := by
  unfold ins cup cap
  exact countP_four fun x _ => by cases S x.1 <;> cases T x.1 <;> cases S x.2 <;> cases T x.2 <;> decide
theorem card_mono {n : Nat} {S T : JS} (h : ∀ x, x < n → S x = true → T x = true) : card n S ≤ card n T :=
  countP_sub fun x hx => h x (List.mem_range.mp hx)
theorem card_same {n : Nat} {S T : JS} (h : ∀ x, x < n → S x = T x) : card n S = card n T :=
  countP_same fun x hx => h x (List.mem_range.mp hx)
theorem ins_mono {bs : List Bar} {S T : JS} (h : ∀ x, S x = true → T x = true) : ins bs S ≤ ins bs T :=
  countP_sub fun b _ e => by
    rw [Bool.and_eq_true] at e ⊢
    exact ⟨h _ e.1, h _ e.2⟩
theorem ins_same {n : Nat} {bs : List Bar} {S T : JS} (ok : Ok n bs) (h : ∀ x, x < n → S x = T x) : ins bs S = ins bs T :=
  countP_same fun b hb => by rw [h _ (ok b hb).1, h _ (ok b hb).2.1]
theorem card_le (n : Nat) (S : JS) : card n S ≤ n := by
  have := List.countP_le_length (p := S) (l := List.range n)
  simpa [card] using this
theorem card_pos {n x : Nat} {S : JS} (hx : x < n) (h : S x = true) : 0 < card n S :=
  List.countP_pos_iff.mpr ⟨x, List.mem_range.mpr hx, h⟩
theorem card_zero {n : Nat} {S : JS} (h : card n S = 0) {x : Nat} (hx : x < n) : S x = false := by
  cases e : S x with
  | false => rfl
  | true =>
    have := card_pos hx e
    omega
def one (a : Nat) : JS := fun x => x == a
def two (a b : Nat) : JS := fun x => x == a || x == b
theorem card_one {n a : Nat} (h : a < n) : card n (one a) = 1 := by
  unfold card one
  have : (List.range n).countP (fun x => x == a) = (List.range n).count a := rfl
  rw [this, List.count_range]
  simp [h]
theorem card_two {n a b : Nat} (ha : a < n) (hb : b < n) (ne : a ≠ b) : card n (two a b) = 2 := by
  have h := card_cup_cap n (one a) (one b)
  rw [card_one ha, card_one hb] at h
  have e1 : card n (cap (one a) (one b)) = 0 := by
    unfold card
    rw [List.countP_eq_zero]
    intro x _ e
    simp [cap, one] at e
    exact ne (e.1.symm.trans e.2)
  have e2 : card n (cup (one a) (one b)) = card n (two a b) := card_same fun x _ => rfl
  omega
theorem two_le_card {n a b : Nat} {S : JS} (ha : a < n) (hb : b < n) (ne : a ≠ b) (h1 : S a = true) (h2 : S b = true) : 2 ≤ card n S := by
  rw [← card_two ha hb ne]
  refine card_mono fun x _ e => ?_
  simp [two] at e
  rcases e with rfl | rfl <;> assumption
/-- one joint alone, or none -/
theorem le_one_of {n : Nat} {S : JS} (h : card n S ≤ 1) {a b : Nat} (ha : a < n) (hb : b < n) (h1 : S a = true) (h2 : S b = true) : a = b := by
  by_cases e : a = b
  · exact e
  · have := two_le_card ha hb e h1 h2
    omega
theorem exists_two {n : Nat} {S : JS} (h : 2 ≤ card n S) : ∃ a b, a < b ∧ b < n ∧ S a = true ∧ S b = true := by
  obtain ⟨a, ha, h1⟩ : ∃ a, a < n ∧ S a = true := by
    have : 0 < card n S := by omega
    obtain ⟨a, ha, h1⟩ := List.countP_pos_iff.mp this
    exact ⟨a, List.mem_range.mp ha, h1⟩
  have hc := card_cup_cap n (fun x => S x && !(x == a)) (one a)
  rw [card_one ha] at hc
  have e1 : card n (cup (fun x => S x && !(x == a)) (one a)) = card n S := card_same fun x _ => by
    show (S x && !(x == a) || (x == a)) = S x
    cases e : (x == a) with
    | false => simp
    | true =>
      rw [beq_iff_eq.mp e, h1]
      rfl
  have e2 : card n (cap (fun x => S x && !(x == a)) (one a)) = 0 := by
    unfold card
    rw [List.countP_eq_zero]
    intro x _ e
    simp [cap, one] at e
    exact e.1.2 e.2
  have : 0 < card n (fun x => S x && !(x == a)) := by omega
  obtain ⟨b, hb, h2⟩ := List.countP_pos_iff.mp this
  simp at h2 hb
  by_cases l : a < b
  · exact ⟨a, b, l, hb, h1, h2.1⟩
  · exact ⟨b, a, by omega, ha, h2.1, h1⟩

/-- fewer than two joints: no bar lies among them -/
theorem ins_small {n : Nat} {bs : List Bar} {S : JS} (ok : Ok n bs) (h : card n S ≤ 1) : ins bs S = 0 := by
  unfold ins
  rw [List.countP_eq_zero]
  intro b hb e
  rw [Bool.and_eq_true] at e
  obtain ⟨l1, l2, ne⟩ := ok b hb
  exact ne (le_one_of h l1 l2 e.1 e.2)

theorem Slim.le {n : Nat} {bs : List Bar} (h : Slim n bs) (S : JS) (hS : 2 ≤ card n S) : ins bs S + 3 ≤ 2 * card n S := h S hS

/-- two tight sets with two joints together: both the union and the intersection are tight -/
theorem Tight.cup {n : Nat} {bs : List Bar} (hl : Slim n bs) {S T : JS} (hS : Tight n bs S) (hT : Tight n bs T) (h : 2 ≤ card n (cap S T)) : Tight n bs (cup S T) ∧ Tight n bs (cap S T) := by
  have c := card_cup_cap n S T
  have i := ins_cup_cap bs S T
  have h2 := hl _ h
  have hc : card n (cap S T) ≤ card n (Fr.cup S T) := card_mono fun x _ e => by
    simp [cap] at e
    simp [Fr.cup, e.1]
  have h1 := hl (Fr.cup S T) (by omega)
  obtain ⟨s1, s2⟩ := hS
  obtain ⟨t1, t2⟩ := hT
  exact ⟨⟨by omega, by omega⟩, ⟨h, by omega⟩⟩
theorem Tight.cup_of {n : Nat} {bs : List Bar} (hl : Slim n bs) {S T : JS} (hS : Tight n bs S) (hT : Tight n bs T) {a b : Nat} (ha : a < n) (hb : b < n) (ne : a ≠ b)
    (s1 : S a = true) (s2 : S b = true) (t1 : T a = true) (t2 : T b = true) : Tight n bs (Fr.cup S T) :=
  (hS.cup hl hT (two_le_card ha hb ne (by simp [cap, s1, t1]) (by simp [cap, s2, t2]))).1
theorem Tight.same {n : Nat} {bs : List Bar} (ok : Ok n bs) {S T : JS} (h : Tight n bs S) (e : ∀ x, x < n → S x = T x) : Tight n bs T := by
  obtain ⟨h1, h2⟩ := h
  rw [card_same e] at h1 h2
  rw [ins_same ok e] at h2
  exact ⟨h1, h2⟩

theorem bool_three {a b c d e f : Bool} (h1 : ¬ ((a && b) = true ∧ (e && f) = true)) (h2 : ¬ ((c && d) = true ∧ (e && f) = true)) :
    ((a && b) || (c && d)).toNat + (e && f).toNat ≤ (((a || c) || e) && ((b || d) || f)).toNat + false.toNat := by
  revert a b c d e f
  decide
/-- three tight sets, two by two with one joint together: the union is tight -/
theorem Tight.three {n : Nat} {bs : List Bar} (ok : Ok n bs) (hl : Slim n bs) {S T U : JS} (hS : Tight n bs S) (hT : Tight n bs T) (hU : Tight n bs U)
    (h1 : card n (cap S T) = 1) (h2 : card n (cap (Fr.cup S T) U) = 2) (h3 : card n (cap S U) = 1) (h4 : card n (cap T U) = 1) : Tight n bs (Fr.cup (Fr.cup S T) U) := by
  have c1 := card_cup_cap n S T
  have c2 := card_cup_cap n (Fr.cup S T) U
  obtain ⟨s1, s2⟩ := hS
  obtain ⟨t1, t2⟩ := hT
  obtain ⟨u1, u2⟩ := hU
  have n1 := ins_small ok (S := cap S T) (by omega)
  have n2 := ins_small ok (S := cap S U) (by omega)
  have n3 := ins_small ok (S := cap T U) (by omega)
  have b := hl (Fr.cup (Fr.cup S T) U) (by omega)
  -- no bar lies in two of the three
  have z : ∀ x ∈ bs, ∀ A B : JS, ins bs (cap A B) = 0 → ¬ ((A x.1 && A x.2) = true ∧ (B x.1 && B x.2) = true) := fun x hx A B h e => by
    unfold ins at h
    rw [List.countP_eq_zero] at h
    refine h x hx ?_
    simp only [Bool.and_eq_true] at e
    simp [cap, e]
  have k1 : ins bs S + ins bs T ≤ bs.countP (fun x => (S x.1 && S x.2) || (T x.1 && T x.2)) + bs.countP (fun _ => false) := countP_four fun x hx => by
    have := z x hx S T n1
    cases e1 : (S x.1 && S x.2) <;> cases e2 : (T x.1 && T x.2) <;> simp_all
  have k2 : bs.countP (fun x => (S x.1 && S x.2) || (T x.1 && T x.2)) + ins bs U ≤ ins bs (Fr.cup (Fr.cup S T) U) + bs.countP (fun _ => false) := countP_four fun x hx => by
    have y1 := z x hx S U n2
    have y2 := z x hx T U n3
    simp only [Fr.cup]
    exact bool_three y1 y2
  have k3 : bs.countP (fun _ => false) = 0 := by simp
  exact ⟨by omega, by omega⟩
end Fr

/-! Bars handed out to their ends: what each joint carries; paths turned about. -/
namespace Fr
abbrev Cs := List (List Nat)
def at_ (cs : Cs) (v : Nat) : List Nat := cs.getD v []
/-- how many of the bars that lie among S, by what the joints below k carry -/
def outs (cs : Cs) (S : JS) : Nat → Nat
  | 0 => 0
  | k + 1 => outs cs S k + if S k = true then (at_ cs k).countP S else 0
theorem at_set {cs : Cs} {v w : Nat} {l : List Nat} (hv : v < cs.length) : at_ (cs.set v l) w = if v = w then l else at_ cs w := by
  unfold at_
  by_cases h : v = w
  · subst h
    simp [List.getD, hv]
  · simp [List.getD, h, List.getElem?_set_ne h]
theorem at_len {cs : Cs} {v : Nat} (h : at_ cs v ≠ []) : v < cs.length := by
  by_cases l : v < cs.length
  · exact l
  · refine absurd ?_ h
    unfold at_
    simp [List.getD, Nat.le_of_not_lt l]
theorem outs_congr {cs ds : Cs} {S : JS} : ∀ {k : Nat}, (∀ v, v < k → S v = true → (at_ cs v).countP S = (at_ ds v).countP S) → outs cs S k = outs ds S k
  | 0, _ => rfl
  | k + 1, h => by
    have ih := outs_congr (k := k) fun v hv => h v (by omega)
    unfold outs
    rw [ih]
    by_cases hs : S k = true
    · rw [if_pos hs, if_pos hs, h k (by omega) hs]
    · rw [if_neg hs, if_neg hs]
/-- one list changed -/
theorem outs_set {cs : Cs} {S : JS} {v : Nat} {l : List Nat} (hv : v < cs.length) : ∀ {k : Nat}, v < k → outs (cs.set v l) S k + (if S v = true then (at_ cs v).countP S else 0) = outs cs S k + (if S v = true then l.countP S else 0)
  | 0, h => by omega
  | k + 1, h => by
    unfold outs
    rw [at_set hv]
    by_cases hk : v = k
    · subst hk
      have e : outs (cs.set v l) S v = outs cs S v := outs_congr fun w hw _ => by rw [at_set hv, if_neg (by omega)]
      rw [e, if_pos rfl]
      omega
    · have ih := outs_set (cs := cs) (S := S) (l := l) hv (k := k) (by omega)
      rw [if_neg hk]
      omega
/-- what is carried are the bars -/
structure Fits (n : Nat) (cs : Cs) (bs : List Bar) : Prop where
  len : cs.length = n
  two : ∀ v, (at_ cs v).length ≤ 2
  low : ∀ v w, w ∈ at_ cs v → w < n ∧ w ≠ v
  out : ∀ S : JS, ins bs S = outs cs S n
/-- the bar from b to j is turned about -/
def turn (cs : Cs) (b j : Nat) : Cs := (cs.set b ((at_ cs b).erase j)).set j (at_ (cs.set b ((at_ cs b).erase j)) j ++ [b])
theorem turn_len (cs : Cs) (b j : Nat) : (turn cs b j).length = cs.length := by simp [turn]
theorem turn_at {cs : Cs} {b j w : Nat} (hb : b < cs.length) (hj : j < cs.length) (ne : b ≠ j) : at_ (turn cs b j) w = if j = w then at_ cs j ++ [b] else if b = w then (at_ cs b).erase j else at_ cs w := by
  unfold turn
  rw [at_set (by simpa using hj)]
  by_cases h : j = w
  · rw [if_pos h, if_pos h, at_set hb, if_neg ne]
  · rw [if_neg h, if_neg h, at_set hb]
theorem countP_erase {S : JS} : ∀ {l : List Nat} {j : Nat}, j ∈ l → (l.erase j).countP S + (if S j = true then 1 else 0) = l.countP S
  | a :: l, j, h => by
    rw [List.erase_cons]
    by_cases e : a = j
    · subst e
      simp only [beq_self_eq_true, if_true]
      rw [List.countP_cons]
    · have e2 : (a == j) = false := by simpa using e
      rw [e2]
      simp only [Bool.false_eq_true, if_false]
      rcases List.mem_cons.mp h with h | h
      · exact absurd h.symm e
      · have ih := countP_erase (S := S) h
        rw [List.countP_cons, List.countP_cons]
        omega
theorem outs_turn {n : Nat} {cs : Cs} {b j : Nat} (hl : cs.length = n) (hb : b < n) (hj : j < n) (ne : b ≠ j) (hm : j ∈ at_ cs b) (S : JS) : outs (turn cs b j) S n = outs cs S n := by
  have h1 := outs_set (cs := cs) (S := S) (l := (at_ cs b).erase j) (v := b) (by omega) (k := n) hb
  have h2 := outs_set (cs := cs.set b ((at_ cs b).erase j)) (S := S) (l := at_ (cs.set b ((at_ cs b).erase j)) j ++ [b]) (v := j) (by simp; omega) (k := n) hj
  have h3 := countP_erase (S := S) hm
  rw [List.countP_append] at h2
  have h4 : List.countP S [b] = if S b = true then 1 else 0 := by
    simp [List.countP_cons]
  rw [h4] at h2
  unfold turn
  by_cases hsb : S b = true <;> by_cases hsj : S j = true <;> simp only [hsb, hsj, if_true, if_false, Bool.false_eq_true] at h1 h2 h3 <;> omega
/-! ### the joints that carried bars lead to -/
abbrev Ah := List (Nat × Nat)
def keys (ah : Ah) : List Nat := ah.map (·.1)
def look (ah : Ah) (k : Nat) : Nat := ((ah.find? fun p => p.1 == k).map (·.2)).getD 0
/-- the ends of what a joint carries -/
def visit (j : Nat) : List Nat → Ah → List Nat → Ah × List Nat
  | [], ah, wt => (ah, wt)
  | f :: fs, ah, wt => if f ∈ keys ah then visit j fs ah wt else visit j fs (ah ++ [(f, j)]) (wt ++ [f])
def reach (cs : Cs) : Nat → Ah → List Nat → Ah
  | 0, ah, _ => ah
  | k + 1, ah, wt => match wt.getLast? with
    | none => ah
    | some j => reach cs k (visit j (at_ cs j) ah wt.dropLast).1 (visit j (at_ cs j) ah wt.dropLast).2
def reached (cs : Cs) (start : Nat) : Ah := reach cs (2 * cs.length + 2) [(start, start)] [start]
theorem keys_append (ah : Ah) (f j : Nat) : keys (ah ++ [(f, j)]) = keys ah ++ [f] := by simp [keys]
/-- what holds of the joints found so far -/
structure Seen (n : Nat) (cs : Cs) (start : Nat) (ah : Ah) (wt : List Nat) : Prop where
  nd : (keys ah).Nodup
  low : ∀ k ∈ keys ah, k < n
  head : ∃ r, ah = (start, start) :: r
  par : ∀ (i f p : Nat), ah[i]? = some (f, p) → i ≠ 0 → f ∈ at_ cs p ∧ ∃ i' q, i' < i ∧ ah[i']? = some (p, q)
  wsub : ∀ k ∈ wt, k ∈ keys ah
/-- all but those that wait lead to joints that are found -/
def Shut (cs : Cs) (ah : Ah) (wt : List Nat) : Prop := ∀ k ∈ keys ah, k ∉ wt → ∀ f ∈ at_ cs k, f ∈ keys ah
theorem visit_seen {n : Nat} {cs : Cs} {start j : Nat} (hlow : ∀ v w, w ∈ at_ cs v → w < n ∧ w ≠ v) : ∀ (fs : List Nat) (ah : Ah) (wt : List Nat), (∀ f ∈ fs, f ∈ at_ cs j) → j ∈ keys ah → Seen n cs start ah wt →
    Seen n cs start (visit j fs ah wt).1 (visit j fs ah wt).2 ∧ (∀ k ∈ keys ah, k ∈ keys (visit j fs ah wt).1) ∧ (∀ f ∈ fs, f ∈ keys (visit j fs ah wt).1) ∧ (∀ k ∈ wt, k ∈ (visit j fs ah wt).2) ∧ (∀ k ∈ keys (visit j fs ah wt).1, k ∈ keys ah ∨ k ∈ (visit j fs ah wt).2)
    ∧ (visit j fs ah wt).1.length + wt.length = ah.length + (visit j fs ah wt).2.length
  | [], ah, wt, _, _, s => ⟨s, fun _ h => h, (fun _ h => by cases h), fun _ h => h, fun _ h => .inl h, rfl⟩
  | f :: fs, ah, wt, hf, hj, s => by
    unfold visit
    by_cases hk : f ∈ keys ah
    · rw [if_pos hk]
      obtain ⟨a, b, c, d, e, g⟩ := visit_seen hlow fs ah wt (fun x hx => hf x (List.mem_cons_of_mem _ hx)) hj s
      refine ⟨a, b, fun x hx => ?_, d, e, g⟩
      rcases List.mem_cons.mp hx with rfl | hx
      · exact b _ hk
      · exact c x hx
    · rw [if_neg hk]
      have hfj := hf f List.mem_cons_self
      obtain ⟨r, hr⟩ := s.head
      have s' : Seen n cs start (ah ++ [(f, j)]) (wt ++ [f]) := by
        refine ⟨?_, fun k hk' => ?_, ⟨r ++ [(f, j)], by rw [hr]; rfl⟩, fun i g p hg hi => ?_, fun k hk' => ?_⟩
        · rw [keys_append, List.nodup_append]
          refine ⟨s.nd, by simp, fun x hx y hy => ?_⟩
          rw [List.mem_singleton.mp hy]
          exact fun e => hk (e ▸ hx)
        · rw [keys_append] at hk'
          rcases List.mem_append.mp hk' with h | h
          · exact s.low k h
          · rw [List.mem_singleton.mp h]
            exact (hlow j f hfj).1
        · by_cases hl : i < ah.length
          · rw [List.getElem?_append_left hl] at hg
            obtain ⟨h1, i', q, h2, h3⟩ := s.par i g p hg hi
            exact ⟨h1, i', q, h2, by rw [List.getElem?_append_left (by omega)]; exact h3⟩
          · rw [List.getElem?_append_right (by omega)] at hg
            have e : i = ah.length := by
              by_cases z : i - ah.length = 0
              · omega
              · obtain ⟨m, hm⟩ : ∃ m, i - ah.length = m + 1 := ⟨i - ah.length - 1, by omega⟩
                rw [hm] at hg
                simp at hg
            subst e
            simp at hg
            obtain ⟨rfl, rfl⟩ := hg
            refine ⟨hfj, ?_⟩
            obtain ⟨⟨a, q⟩, hm, e⟩ := List.mem_map.mp hj
            obtain ⟨i', hi'⟩ := List.getElem?_of_mem hm
            have li := (List.getElem?_eq_some_iff.mp hi').1
            refine ⟨i', q, li, ?_⟩
            rw [List.getElem?_append_left li, hi']
            simp at e
            rw [e]
        · rw [keys_append]
          rcases List.mem_append.mp hk' with h | h
          · exact List.mem_append_left _ (s.wsub k h)
          · exact List.mem_append_right _ h
      obtain ⟨a, b, c, d, e, g⟩ := visit_seen hlow fs (ah ++ [(f, j)]) (wt ++ [f]) (fun x hx => hf x (List.mem_cons_of_mem _ hx)) (by rw [keys_append]; exact List.mem_append_left _ hj) s'
      refine ⟨a, fun k hk' => b k (by rw [keys_append]; exact List.mem_append_left _ hk'), fun x hx => ?_, fun k hk' => d k (List.mem_append_left _ hk'), fun k hk' => ?_, ?_⟩
      · rcases List.mem_cons.mp hx with rfl | hx
        · exact b _ (by rw [keys_append]; exact List.mem_append_right _ (List.mem_singleton.mpr rfl))
        · exact c x hx
      · rcases e k hk' with h | h
        · rw [keys_append] at h
          rcases List.mem_append.mp h with h | h
          · exact .inl h
          · exact .inr (d k (List.mem_append_right _ h))
        · exact .inr h
      · simp at g
        omega
theorem seen_small {n : Nat} {cs : Cs} {start : Nat} {ah : Ah} {wt : List Nat} (s : Seen n cs start ah wt) : ah.length ≤ n := by
  have h := List.Nodup.length_le_of_subset s.nd (l₂ := List.range n) fun k hk => List.mem_range.mpr (s.low k hk)
  simpa [keys] using h
theorem dropLast_mem {α : Type} {l : List α} {x : α} (h : x ∈ l.dropLast) : x ∈ l := List.dropLast_subset l h
theorem reach_seen {n : Nat} {cs : Cs} {start : Nat} (hlow : ∀ v w, w ∈ at_ cs v → w < n ∧ w ≠ v) : ∀ (k : Nat) (ah : Ah) (wt : List Nat), Seen n cs start ah wt → Shut cs ah wt → 2 * (n - ah.length) + wt.length < k →
    Seen n cs start (reach cs k ah wt) [] ∧ Shut cs (reach cs k ah wt) []
  | 0, _, _, _, _, h => by omega
  | k + 1, ah, wt, s, sh, h => by
    unfold reach
    cases hl : wt.getLast? with
    | none =>
      have e : wt = [] := by simpa using hl
      subst e
      exact ⟨⟨s.nd, s.low, s.head, s.par, (fun _ h => by cases h)⟩, sh⟩
    | some j =>
      dsimp only
      have hne : wt ≠ [] := fun z => by rw [z] at hl; cases hl
      have ew : wt = wt.dropLast ++ [j] := by
        have e1 := List.dropLast_concat_getLast hne
        rw [List.getLast?_eq_some_getLast hne] at hl
        rw [Option.some.inj hl] at e1
        exact e1.symm
      have hj : j ∈ keys ah := s.wsub j (by rw [ew]; exact List.mem_append_right _ (List.mem_singleton.mpr rfl))
      have s0 : Seen n cs start ah wt.dropLast := ⟨s.nd, s.low, s.head, s.par, fun x hx => s.wsub x (dropLast_mem hx)⟩
      obtain ⟨a, b, c, d, e, g⟩ := visit_seen hlow (at_ cs j) ah wt.dropLast (fun _ h => h) hj s0
      have ll : wt.length = wt.dropLast.length + 1 := by
        have := congrArg List.length ew
        simpa using this
      have sm := seen_small a
      refine reach_seen hlow k _ _ a (fun x hx hw f hf => ?_) ?_
      · rcases e x hx with h1 | h1
        · by_cases hxj : x = j
          · subst hxj
            exact c f hf
          · refine b f (sh x h1 (fun z => ?_) f hf)
            rw [ew] at z
            rcases List.mem_append.mp z with z | z
            · exact hw (d x z)
            · exact hxj (List.mem_singleton.mp z)
        · exact absurd h1 hw
      · have hlen : ah.length ≤ (visit j (at_ cs j) ah wt.dropLast).1.length := by
          have := List.Nodup.length_le_of_subset s.nd (l₂ := keys (visit j (at_ cs j) ah wt.dropLast).1) b
          simpa [keys] using this
        omega
theorem reached_seen {n : Nat} {cs : Cs} {start : Nat} (hl : cs.length = n) (hlow : ∀ v w, w ∈ at_ cs v → w < n ∧ w ≠ v) (hs : start < n) : Seen n cs start (reached cs start) [] ∧ Shut cs (reached cs start) [] := by
  unfold reached
  refine reach_seen hlow _ _ _ ⟨by simp [keys], fun k hk => ?_, ⟨[], rfl⟩, fun i f p h hi => ?_, fun k hk => ?_⟩ (fun k hk hw => ?_) ?_
  · simp [keys] at hk
    omega
  · obtain ⟨m, rfl⟩ : ∃ m, i = m + 1 := ⟨i - 1, by omega⟩
    simp at h
  · simpa [keys] using hk
  · simp [keys] at hk
    exact absurd (List.mem_singleton.mpr hk) hw
  · simp
    omega
end Fr

/-! Laying a bar: a joint rid of what it carries; when a bar is taken, and which joints it would crowd. -/
namespace Fr
def back (ah : Ah) (start : Nat) : Nat → Cs → Nat → Cs
  | 0, cs, _ => cs
  | k + 1, cs, j => if j = start then cs else back ah start k (turn cs (look ah j) j) (look ah j)
def freeOf (cs : Cs) (start spared : Nat) : List Nat := (keys (reached cs start)).filter fun j => decide ((at_ cs j).length < 2) && (!decide (j = start) && !decide (j = spared))
def passOn (cs : Cs) (start spared : Nat) : Option Cs := match freeOf cs start spared with
  | [] => none
  | j :: _ => some (back (reached cs start) start (cs.length + 1) cs j)
def unload (start spared : Nat) : Nat → Cs → Cs × Bool
  | 0, cs => (cs, true)
  | k + 1, cs => if at_ cs start = [] then (cs, true) else match passOn cs start spared with
    | none => (cs, false)
    | some cs' => unload start spared k cs'
theorem look_at {ah : Ah} (nd : (keys ah).Nodup) {i j q : Nat} (h : ah[i]? = some (j, q)) : look ah j = q := by
  have hm := List.mem_of_getElem? h
  unfold look
  have key : ∀ (l : Ah), (keys l).Nodup → (j, q) ∈ l → l.find? (fun p => p.1 == j) = some (j, q) := fun l => by
    induction l with
    | nil => intro _ h; cases h
    | cons p l ih =>
      intro nd h
      have nd' : p.1 ∉ keys l ∧ (keys l).Nodup := by simpa [keys] using nd
      rw [List.find?_cons]
      rcases List.mem_cons.mp h with e | h
      · subst e
        simp
      · have e2 : (p.1 == j) = false := by
          have : p.1 ≠ j := fun e => nd'.1 (e ▸ List.mem_map.mpr ⟨(j, q), h, rfl⟩)
          simpa using this
        rw [e2]
        exact ih nd'.2 h
  rw [key ah nd hm]
  rfl
theorem nd_pos {ah : Ah} (nd : (keys ah).Nodup) {i i' j p q : Nat} (h : ah[i]? = some (j, p)) (h' : ah[i']? = some (j, q)) : i = i' := by
  have a : (keys ah)[i]? = some j := by simp [keys, h]
  have b : (keys ah)[i']? = some j := by simp [keys, h']
  obtain ⟨h1, e1⟩ := List.getElem?_eq_some_iff.mp a
  obtain ⟨h2, e2⟩ := List.getElem?_eq_some_iff.mp b
  exact (List.getElem_inj nd).mp (e1.trans e2.symm)
def one01 (p : Prop) [Decidable p] : Nat := if p then 1 else 0
theorem back_spec {n : Nat} {cs0 : Cs} {start : Nat} {ah : Ah} (sn : Seen n cs0 start ah []) : ∀ (k : Nat) (cs : Cs) (i j q : Nat), ah[i]? = some (j, q) → i < k → cs.length = n → (∀ v w, w ∈ at_ cs v → w < n ∧ w ≠ v) →
    (∀ i' v p, i' < i → ah[i']? = some (v, p) → at_ cs v = at_ cs0 v) →
    (back ah start k cs j).length = n ∧ (∀ v w, w ∈ at_ (back ah start k cs j) v → w < n ∧ w ≠ v) ∧ (∀ S : JS, outs (back ah start k cs j) S n = outs cs S n) ∧
      ∀ v, (at_ (back ah start k cs j) v).length + one01 (v = start) = (at_ cs v).length + one01 (v = j)
  | 0, _, _, _, _, _, h, _, _, _ => by omega
  | k + 1, cs, i, j, q, hij, hik, hl, hlow, hsame => by
    unfold back
    by_cases hj : j = start
    · rw [if_pos hj]
      exact ⟨hl, hlow, fun _ => rfl, fun v => by rw [hj]⟩
    · rw [if_neg hj, look_at sn.nd hij]
      obtain ⟨r, hr⟩ := sn.head
      have hi0 : i ≠ 0 := fun z => by
        subst z
        rw [hr] at hij
        simp at hij
        exact hj hij.1.symm
      obtain ⟨hm, i', q', hi', hq⟩ := sn.par i j q hij hi0
      have hjn : j < n := sn.low j (List.mem_map.mpr ⟨(j, q), List.mem_of_getElem? hij, rfl⟩)
      have hqn : q < n := sn.low q (List.mem_map.mpr ⟨(q, q'), List.mem_of_getElem? hq, rfl⟩)
      have eq0 := hsame i' q q' hi' hq
      have hm' : j ∈ at_ cs q := by rw [eq0]; exact hm
      have nqj : q ≠ j := fun e => (hlow q j hm').2 e.symm
      have hlt : (turn cs q j).length = n := by rw [turn_len]; exact hl
      have tat : ∀ w, at_ (turn cs q j) w = if j = w then at_ cs j ++ [q] else if q = w then (at_ cs q).erase j else at_ cs w := fun w => turn_at (by omega) (by omega) nqj
      have hA : ∀ v w, w ∈ at_ (turn cs q j) v → w < n ∧ w ≠ v := fun v w hw => by
        rw [tat v] at hw
        by_cases e1 : j = v
        · subst e1
          rw [if_pos rfl] at hw
          rcases List.mem_append.mp hw with h | h
          · exact hlow _ w h
          · rw [List.mem_singleton.mp h]
            exact ⟨hqn, nqj⟩
        · rw [if_neg e1] at hw
          by_cases e2 : q = v
          · subst e2
            rw [if_pos rfl] at hw
            exact hlow _ w (List.mem_of_mem_erase hw)
          · rw [if_neg e2] at hw
            exact hlow _ w hw
      have hB : ∀ i'' v p, i'' < i' → ah[i'']? = some (v, p) → at_ (turn cs q j) v = at_ cs0 v := fun i'' v p hi'' hv => by
        have n1 : j ≠ v := fun e => by
          subst e
          have := nd_pos sn.nd hij hv
          omega
        have n2 : q ≠ v := fun e => by
          subst e
          have := nd_pos sn.nd hq hv
          omega
        rw [tat v, if_neg n1, if_neg n2]
        exact hsame i'' v p (by omega) hv
      obtain ⟨a, b, c, d⟩ := back_spec sn k (turn cs q j) i' q q' hq (by omega) hlt hA hB
      refine ⟨a, b, fun S => by rw [c S, outs_turn hl hqn hjn nqj hm' S], fun v => ?_⟩
      have hv := d v
      have tv := tat v
      by_cases e1 : j = v
      · subst e1
        rw [if_pos rfl] at tv
        rw [tv, List.length_append] at hv
        have z1 : one01 (j = q) = 0 := if_neg fun e => nqj e.symm
        have z2 : one01 (j = j) = 1 := if_pos rfl
        have z3 : [q].length = 1 := rfl
        omega
      · rw [if_neg e1] at tv
        have z2 : one01 (v = j) = 0 := if_neg fun e => e1 e.symm
        by_cases e2 : q = v
        · subst e2
          rw [if_pos rfl] at tv
          rw [tv, List.length_erase_of_mem hm'] at hv
          have z1 : one01 (q = q) = 1 := if_pos rfl
          have z3 : 0 < (at_ cs q).length := List.length_pos_of_mem hm'
          omega
        · rw [if_neg e2] at tv
          rw [tv] at hv
          have z1 : one01 (v = q) = 0 := if_neg fun e => e2 e.symm
          omega
theorem passOn_some {n : Nat} {cs cs' : Cs} {bs : List Bar} {start spared : Nat} (ft : Fits n cs bs) (hs : start < n) (h : passOn cs start spared = some cs') :
    Fits n cs' bs ∧ (at_ cs' start).length + 1 = (at_ cs start).length ∧ ∀ v, v ≠ start → v = spared → (at_ cs' v).length = (at_ cs v).length := by
  unfold passOn at h
  obtain ⟨sn, _⟩ := reached_seen ft.len ft.low hs
  cases hf : freeOf cs start spared with
  | nil => rw [hf] at h; cases h
  | cons j r =>
    rw [hf] at h
    have e := Option.some.inj h
    have hj : j ∈ freeOf cs start spared := by rw [hf]; exact List.mem_cons_self
    unfold freeOf at hj
    rw [List.mem_filter] at hj
    obtain ⟨hk, hc⟩ := hj
    simp only [Bool.and_eq_true, decide_eq_true_eq, Bool.not_eq_true', decide_eq_false_iff_not] at hc
    obtain ⟨c1, c2, c3⟩ := hc
    obtain ⟨⟨j', q⟩, hm, ej⟩ := List.mem_map.mp hk
    simp at ej
    subst ej
    obtain ⟨i, hi⟩ := List.getElem?_of_mem hm
    have li : i < (reached cs start).length := (List.getElem?_eq_some_iff.mp hi).1
    have sm := seen_small sn
    obtain ⟨a, b, c, d⟩ := back_spec sn (cs.length + 1) cs i j' q hi (by have := ft.len; omega) ft.len ft.low (fun _ _ _ _ _ => rfl)
    rw [e] at a b c d
    have dj := d j'
    have ds := d start
    have z1 : one01 (j' = j') = 1 := if_pos rfl
    have z2 : one01 (j' = start) = 0 := if_neg c2
    have z3 : one01 (start = start) = 1 := if_pos rfl
    have z4 : one01 (start = j') = 0 := if_neg fun z => c2 z.symm
    refine ⟨⟨a, fun v => ?_, b, fun S => by rw [c S]; exact ft.out S⟩, by omega, fun v h1 h2 => ?_⟩
    · have dv := d v
      have tv := ft.two v
      by_cases e1 : v = j'
      · subst e1
        omega
      · have z5 : one01 (v = j') = 0 := if_neg e1
        omega
    · have dv := d v
      have z5 : one01 (v = start) = 0 := if_neg h1
      have z6 : one01 (v = j') = 0 := if_neg fun z => c3 (z.symm.trans h2)
      omega
/-- the joints found, as a test -/
def inL (l : List Nat) : JS := fun x => decide (x ∈ l)
theorem outs_shut {cs : Cs} {ah : Ah} (sh : Shut cs ah []) : ∀ {k v : Nat}, v < k → inL (keys ah) v = true → (at_ cs v).countP (inL (keys ah)) = (at_ cs v).length := fun {k v} _ hv => by
  rw [List.countP_eq_length]
  intro f hf
  exact decide_eq_true (sh v (of_decide_eq_true hv) (by simp) f hf)
/-- all found joints but two carry two bars each -/
theorem outs_low {cs : Cs} {ah : Ah} (sh : Shut cs ah []) {s p : Nat} (hfull : ∀ v ∈ keys ah, v ≠ s → v ≠ p → 2 ≤ (at_ cs v).length) : ∀ k : Nat,
    2 * card k (inL (keys ah)) ≤ outs cs (inL (keys ah)) k + (if s < k ∧ s ∈ keys ah then 2 - (at_ cs s).length else 0) + (if p < k ∧ p ∈ keys ah ∧ p ≠ s then 2 - (at_ cs p).length else 0)
  | 0 => by simp [card]
  | k + 1 => by
    have ih := outs_low sh hfull k
    have ec : card (k + 1) (inL (keys ah)) = card k (inL (keys ah)) + if inL (keys ah) k = true then 1 else 0 := by
      unfold card
      rw [List.range_succ, List.countP_append, List.countP_cons, List.countP_nil]
      simp
    rw [ec]
    unfold outs
    by_cases hk : inL (keys ah) k = true
    · rw [if_pos hk, if_pos hk, outs_shut sh (Nat.lt_succ_self k) hk]
      have hkm : k ∈ keys ah := of_decide_eq_true hk
      by_cases e1 : k = s
      · subst e1
        rw [if_neg (by omega)] at ih
        rw [if_pos ⟨Nat.lt_succ_self _, hkm⟩]
        by_cases e2 : p < k ∧ p ∈ keys ah ∧ p ≠ k
        · rw [if_pos e2] at ih
          rw [if_pos ⟨by omega, e2.2⟩]
          omega
        · rw [if_neg e2] at ih
          have : ¬ (p < k + 1 ∧ p ∈ keys ah ∧ p ≠ k) := fun z => e2 ⟨by omega, z.2⟩
          rw [if_neg this]
          omega
      · have a1 : (if s < k + 1 ∧ s ∈ keys ah then 2 - (at_ cs s).length else 0) = (if s < k ∧ s ∈ keys ah then 2 - (at_ cs s).length else 0) := by
          by_cases z : s < k ∧ s ∈ keys ah
          · rw [if_pos z, if_pos ⟨by omega, z.2⟩]
          · rw [if_neg z, if_neg fun w => z ⟨by omega, w.2⟩]
        rw [a1]
        by_cases e2 : k = p
        · subst e2
          rw [if_neg (show ¬ (k < k ∧ k ∈ keys ah ∧ k ≠ s) by omega)] at ih
          rw [if_pos (show k < k + 1 ∧ k ∈ keys ah ∧ k ≠ s from ⟨Nat.lt_succ_self _, hkm, e1⟩)]
          omega
        · have a2 : (if p < k + 1 ∧ p ∈ keys ah ∧ p ≠ s then 2 - (at_ cs p).length else 0) = (if p < k ∧ p ∈ keys ah ∧ p ≠ s then 2 - (at_ cs p).length else 0) := by
            by_cases z : p < k ∧ p ∈ keys ah ∧ p ≠ s
            · rw [if_pos z, if_pos ⟨by omega, z.2⟩]
            · rw [if_neg z, if_neg fun w => z ⟨by omega, w.2⟩]
          rw [a2]
          have := hfull k hkm e1 e2
          omega
    · rw [if_neg hk, if_neg hk]
      have hkm : k ∉ keys ah := fun z => hk (decide_eq_true z)
      have a1 : (if s < k + 1 ∧ s ∈ keys ah then 2 - (at_ cs s).length else 0) = (if s < k ∧ s ∈ keys ah then 2 - (at_ cs s).length else 0) := by
        by_cases z : s < k ∧ s ∈ keys ah
        · rw [if_pos z, if_pos ⟨by omega, z.2⟩]
        · rw [if_neg z, if_neg fun w => z ⟨by have : s ≠ k := fun e => hkm (e ▸ w.2); omega, w.2⟩]
      have a2 : (if p < k + 1 ∧ p ∈ keys ah ∧ p ≠ s then 2 - (at_ cs p).length else 0) = (if p < k ∧ p ∈ keys ah ∧ p ≠ s then 2 - (at_ cs p).length else 0) := by
        by_cases z : p < k ∧ p ∈ keys ah ∧ p ≠ s
        · rw [if_pos z, if_pos ⟨by omega, z.2⟩]
        · rw [if_neg z, if_neg fun w => z ⟨by have : p ≠ k := fun e => hkm (e ▸ w.2.1); omega, w.2⟩]
      rw [a1, a2]
      omega
theorem passOn_none {cs : Cs} {start spared : Nat} (h : passOn cs start spared = none) : ∀ v ∈ keys (reached cs start), v ≠ start → v ≠ spared → 2 ≤ (at_ cs v).length := fun v hv h1 h2 => by
  unfold passOn at h
  cases hf : freeOf cs start spared with
  | cons j r => rw [hf] at h; cases h
  | nil =>
    by_cases z : 2 ≤ (at_ cs v).length
    · exact z
    · have hm : v ∈ freeOf cs start spared := by
        unfold freeOf
        rw [List.mem_filter]
        refine ⟨hv, ?_⟩
        simp only [Bool.and_eq_true, decide_eq_true_eq, Bool.not_eq_true', decide_eq_false_iff_not]
        exact ⟨by omega, h1, h2⟩
      rw [hf] at hm
      cases hm
/-- what is found from a joint that carries a bar: two joints at least -/
theorem reach_two {n : Nat} {cs : Cs} {bs : List Bar} {start : Nat} (ft : Fits n cs bs) (hs : start < n) (hc : at_ cs start ≠ []) : 2 ≤ card n (inL (keys (reached cs start))) := by
  obtain ⟨sn, sh⟩ := reached_seen ft.len ft.low hs
  obtain ⟨r, hr⟩ := sn.head
  have hst : start ∈ keys (reached cs start) := by rw [hr]; simp [keys]
  obtain ⟨f, hf⟩ := List.exists_mem_of_ne_nil _ hc
  have hfk := sh start hst (by simp) f hf
  have hl := ft.low start f hf
  exact two_le_card hs hl.1 (fun e => hl.2 e.symm) (decide_eq_true hst) (decide_eq_true hfk)
theorem start_mem {n : Nat} {cs : Cs} {bs : List Bar} {start : Nat} (ft : Fits n cs bs) (hs : start < n) : start ∈ keys (reached cs start) := by
  obtain ⟨sn, _⟩ := reached_seen ft.len ft.low hs
  obtain ⟨r, hr⟩ := sn.head
  rw [hr]
  simp [keys]
theorem ins_reached {n : Nat} {cs : Cs} {bs : List Bar} {start spared : Nat} (ft : Fits n cs bs) (hs : start < n) (h : passOn cs start spared = none) :
    2 * card n (inL (keys (reached cs start))) ≤ ins bs (inL (keys (reached cs start))) + (2 - (at_ cs start).length) + (if spared < n ∧ spared ∈ keys (reached cs start) ∧ spared ≠ start then 2 - (at_ cs spared).length else 0) := by
  obtain ⟨sn, sh⟩ := reached_seen ft.len ft.low hs
  have := outs_low sh (passOn_none h) n
  rw [if_pos ⟨hs, start_mem ft hs⟩] at this
  rw [ft.out]
  exact this
theorem unload_spec {n : Nat} {bs : List Bar} {start spared : Nat} (hs : start < n) : ∀ (k : Nat) (cs : Cs), Fits n cs bs → (at_ cs start).length < k →
    Fits n (unload start spared k cs).1 bs ∧ (∀ v, v ≠ start → v = spared → (at_ (unload start spared k cs).1 v).length = (at_ cs v).length) ∧
      ((unload start spared k cs).2 = true → at_ (unload start spared k cs).1 start = []) ∧ ((unload start spared k cs).2 = false → at_ (unload start spared k cs).1 start ≠ [] ∧ passOn (unload start spared k cs).1 start spared = none)
  | 0, _, _, h => by omega
  | k + 1, cs, ft, h => by
    unfold unload
    by_cases he : at_ cs start = []
    · rw [if_pos he]
      exact ⟨ft, fun _ _ _ => rfl, fun _ => he, (fun z => by cases z)⟩
    · rw [if_neg he]
      cases hp : passOn cs start spared with
      | none =>
        dsimp only
        exact ⟨ft, fun _ _ _ => rfl, (fun z => by cases z), fun _ => ⟨he, hp⟩⟩
      | some cs' =>
        dsimp only
        obtain ⟨f1, f2, f3⟩ := passOn_some ft hs hp
        obtain ⟨a, b, c, d⟩ := unload_spec hs k cs' f1 (by omega)
        exact ⟨a, fun v h1 h2 => (b v h1 h2).trans (f3 v h1 h2), c, d⟩
/-- the joint whose hands are freed first is always rid of its bars -/
theorem unload_all {n : Nat} {cs : Cs} {bs : List Bar} {start : Nat} (ft : Fits n cs bs) (sl : Slim n bs) (hs : start < n) : (unload start start 3 cs).2 = true := by
  obtain ⟨a, _, _, d⟩ := unload_spec (spared := start) hs 3 cs ft (by have := ft.two start; omega)
  cases h : (unload start start 3 cs).2 with
  | true => rfl
  | false =>
    obtain ⟨h1, h2⟩ := d h
    have q := ins_reached a hs h2
    rw [if_neg (by omega)] at q
    have t := reach_two a hs h1
    have s := sl _ t
    have l : 0 < (at_ (unload start start 3 cs).1 start).length := List.length_pos_iff.mpr h1
    omega
def lay (cs : Cs) (one other : Nat) : Cs × Option (List Nat) :=
  let c1 := (unload one one 3 cs).1
  let c2 := unload other one 3 c1
  if c2.2 = true then (c2.1.set one (at_ c2.1 one ++ [other]), none) else (c2.1, some (keys (reached c2.1 other)))
theorem ins_append (bs : List Bar) (b : Bar) (S : JS) : ins (bs ++ [b]) S = ins bs S + if (S b.1 && S b.2) = true then 1 else 0 := by
  unfold ins
  rw [List.countP_append, List.countP_cons, List.countP_nil, Nat.zero_add]
/-- a bar is taken: it and those before are slim -/
theorem lay_yes {n : Nat} {cs cs' : Cs} {bs : List Bar} {one other : Nat} (ft : Fits n cs bs) (ok : Ok n bs) (sl : Slim n bs) (h1 : one < n) (h2 : other < n) (ne : one ≠ other) (h : lay cs one other = (cs', none)) :
    Fits n cs' (bs ++ [(one, other)]) ∧ Slim n (bs ++ [(one, other)]) := by
  obtain ⟨a, _, c, _⟩ := unload_spec (spared := one) h1 3 cs ft (by have := ft.two one; omega)
  have c := c (unload_all ft sl h1)
  obtain ⟨a2, b2, c2, d2⟩ := unload_spec (spared := one) h2 3 (unload one one 3 cs).1 a (by have := a.two other; omega)
  unfold lay at h
  dsimp only at h
  by_cases hy : (unload other one 3 (unload one one 3 cs).1).2 = true
  · rw [if_pos hy] at h
    have e := (Prod.mk.inj h).1
    have e1 : at_ (unload other one 3 (unload one one 3 cs).1).1 one = [] := by
      have := b2 one ne rfl
      rw [c] at this
      exact List.eq_nil_of_length_eq_zero this
    have e2 := c2 hy
    generalize hG : (unload other one 3 (unload one one 3 cs).1).1 = G at a2 e e1 e2
    rw [e1] at e
    have hl : one < G.length := by rw [a2.len]; exact h1
    have out' : ∀ S : JS, outs cs' S n = outs G S n + if (S one && S other) = true then 1 else 0 := fun S => by
      have := outs_set (cs := G) (S := S) (v := one) (l := [] ++ [other]) hl (k := n) h1
      rw [e, e1] at this
      simp only [List.nil_append, List.countP_nil, List.countP_cons, Nat.zero_add, ite_self, Nat.add_zero] at this
      rw [this]
      cases S one <;> cases S other <;> simp
    have ft' : Fits n cs' (bs ++ [(one, other)]) := by
      refine ⟨by rw [← e, List.length_set]; exact a2.len, fun v => ?_, fun v w hw => ?_, fun S => ?_⟩
      · rw [← e, at_set hl]
        split
        · simp
        · exact a2.two v
      · rw [← e, at_set hl] at hw
        split at hw
        · rename_i ev
          have hw : w ∈ [other] := hw
          rw [List.mem_singleton.mp hw, ← ev]
          exact ⟨h2, fun z => ne z.symm⟩
        · exact a2.low v w hw
      · rw [out' S, ins_append, a2.out S]
    refine ⟨ft', fun S hS => ?_⟩
    rw [ins_append]
    by_cases hb : (S one && S other) = true
    · rw [if_pos hb]
      rw [Bool.and_eq_true] at hb
      -- what is carried within S: two each, and none at the two ends
      have lim : ∀ k : Nat, outs G S k + (if one < k then 2 else 0) + (if other < k then 2 else 0) ≤ 2 * card k S := fun k => by
        induction k with
        | zero => simp [outs, card]
        | succ k ih =>
          have ec : card (k + 1) S = card k S + if S k = true then 1 else 0 := by
            unfold card
            rw [List.range_succ, List.countP_append, List.countP_cons, List.countP_nil]
            simp
          rw [ec]
          unfold outs
          have tk := a2.two k
          have ck : (at_ G k).countP S ≤ (at_ G k).length := List.countP_le_length
          by_cases k1 : one = k
          · subst k1
            rw [if_pos hb.1, if_pos hb.1, e1, if_pos (Nat.lt_succ_self _)]
            rw [if_neg (Nat.lt_irrefl _)] at ih
            by_cases k2 : other < one
            · rw [if_pos k2] at ih
              rw [if_pos (by omega)]
              simp
              omega
            · rw [if_neg k2] at ih
              rw [if_neg (by omega)]
              simp
              omega
          · by_cases k2 : other = k
            · subst k2
              rw [if_pos hb.2, if_pos hb.2, e2, if_pos (Nat.lt_succ_self _)]
              rw [if_neg (Nat.lt_irrefl _)] at ih
              by_cases k3 : one < other
              · rw [if_pos k3] at ih
                rw [if_pos (by omega)]
                simp
                omega
              · rw [if_neg k3] at ih
                rw [if_neg (by omega)]
                simp
                omega
            · have w1 : (if one < k + 1 then 2 else 0) = if one < k then 2 else 0 := by
                by_cases z : one < k
                · rw [if_pos z, if_pos (by omega)]
                · rw [if_neg z, if_neg (by omega)]
              have w2 : (if other < k + 1 then 2 else 0) = if other < k then 2 else 0 := by
                by_cases z : other < k
                · rw [if_pos z, if_pos (by omega)]
                · rw [if_neg z, if_neg (by omega)]
              rw [w1, w2]
              split <;> omega
      have := lim n
      rw [if_pos h1, if_pos h2] at this
      rw [a2.out S]
      omega
    · rw [if_neg hb]
      exact sl S hS
  · rw [if_neg hy] at h
    cases (Prod.mk.inj h).2
/-- a bar is refused: the joints told have no room for it -/
theorem lay_no {n : Nat} {cs cs' : Cs} {bs : List Bar} {one other : Nat} {ks : List Nat} (ft : Fits n cs bs) (sl : Slim n bs) (h1 : one < n) (h2 : other < n) (ne : one ≠ other) (h : lay cs one other = (cs', some ks)) :
    Fits n cs' bs ∧ ks.Nodup ∧ (∀ k ∈ ks, k < n) ∧ one ∈ ks ∧ other ∈ ks ∧ Tight n bs (inL ks) := by
  obtain ⟨a, _, c, _⟩ := unload_spec (spared := one) h1 3 cs ft (by have := ft.two one; omega)
  have c := c (unload_all ft sl h1)
  obtain ⟨a2, b2, c2, d2⟩ := unload_spec (spared := one) h2 3 (unload one one 3 cs).1 a (by have := a.two other; omega)
  unfold lay at h
  dsimp only at h
  by_cases hy : (unload other one 3 (unload one one 3 cs).1).2 = true
  · rw [if_pos hy] at h
    cases (Prod.mk.inj h).2
  · rw [if_neg hy] at h
    obtain ⟨e, ek⟩ := Prod.mk.inj h
    have ek := Option.some.inj ek
    have hf : (unload other one 3 (unload one one 3 cs).1).2 = false := by simpa using hy
    obtain ⟨g1, g2⟩ := d2 hf
    have e1 : at_ (unload other one 3 (unload one one 3 cs).1).1 one = [] := by
      have := b2 one ne rfl
      rw [c] at this
      exact List.eq_nil_of_length_eq_zero this
    rw [e] at a2 g1 g2 e1 ek
    subst ek
    obtain ⟨sn, sh⟩ := reached_seen a2.len a2.low h2
    have q := ins_reached a2 h2 g2
    have t := reach_two a2 h2 g1
    have s := sl _ t
    have l : 0 < (at_ cs' other).length := List.length_pos_iff.mpr g1
    have hone : one ∈ keys (reached cs' other) := by
      by_cases z : one ∈ keys (reached cs' other)
      · exact z
      · rw [if_neg fun w => z w.2.1] at q
        omega
    rw [if_pos ⟨h1, hone, ne⟩, e1] at q
    refine ⟨a2, sn.nd, sn.low, hone, start_mem a2 h2, t, ?_⟩
    have : ([] : List Nat).length = 0 := rfl
    omega
end Fr

/-! Values as plain data, apart from where they stand: what an expression evaluates to, given the data in the slots. -/
namespace Pl
open PySem PySem.Spec PyProof.Rows L2
open Evl (Ex)

inductive D where
  | non | bl (b : Bool) | int (i : Int) | str (s : Str) | adr (a : Addr) | ty (n : String) | ro (ns : List Int) | lst (ds : List D) | tup (ds : List D)
  /-- a dict by its keys and values, an instance by its attributes -/
  | dc (ks : List L2.Key) (ds : List D) | ob (C : Addr) (fs : List Str) (ds : List D)
  /-- a dict that is walked, by its keys -/
  | fz (ns : List Int)
  /-- such a dict, by its keys and values -/
  | fv (ks : List L2.Key) (ds : List D)
  /-- an exception of the class at C -/
  | er (C : Addr)

mutual
/-- v stands for the data d, by what the part S of the heap holds -/
inductive Rd (K : PySem.W.Frag) (S : Hp) : V → D → Prop
  | non : Rd K S .non .non
  | bl (b : Bool) : Rd K S (.bl b) (.bl b)
  | int (i : Int) : Rd K S (.int i) (.int i)
  | str (x : Str) : Rd K S (.str x) (.str x)
  | adr (a : Addr) : Rd K S (.ref a) (.adr a)
  | ty (n : String) : Rd K S (.ty n) (.ty n)
  | ro {a : Addr} {ns : List Int} : SqL K S a (ns.map V.int) → Rd K S (.ref a) (.ro ns)
  | lst {a : Addr} {xs : List V} {ds : List D} : S a = some (.lst xs) → RdL K S xs ds → Rd K S (.ref a) (.lst ds)
  | tup {a : Addr} {xs : List V} {ds : List D} : S a = some (.tup xs) → RdL K S xs ds → Rd K S (.ref a) (.tup ds)
  | dc {a : Addr} {ks : List L2.Key} {xs : List V} {ds : List D} : S a = some (.dK (ks.zip xs)) → ks.length = xs.length → RdL K S xs ds → Rd K S (.ref a) (.dc ks ds)
  | ob {a C dx : Addr} {fs : List Str} {xs : List V} {ds : List D} : S a = some (.ins C dx (fs.zip xs)) → fs.length = xs.length → RdL K S xs ds → Rd K S (.ref a) (.ob C fs ds)
  | fz {a : Addr} {o : Obj} {kvs : List (L2.Key × V)} {ns : List Int} : S a = some (.frz o (.dK kvs)) → kvs.map (·.1) = ns.map Sum.inl → Rd K S (.ref a) (.fz ns)
  | fv {a : Addr} {o : Obj} {ks : List L2.Key} {xs : List V} {ds : List D} : S a = some (.frz o (.dK (ks.zip xs))) → ks.length = xs.length → RdL K S xs ds → Rd K S (.ref a) (.fv ks ds)
  | er {a C : Addr} {o : Obj} {u : HO} : S a = some (.frz o u) → o.cls = .ref C → o.dict = none → (∃ vs, o.data = .fields vs) → Rd K S (.ref a) (.er C)
inductive RdL (K : PySem.W.Frag) (S : Hp) : List V → List D → Prop
  | nil : RdL K S [] []
  | cons {v : V} {vs : List V} {d : D} {ds : List D} : Rd K S v d → RdL K S vs ds → RdL K S (v :: vs) (d :: ds)
end

section
variable {K : PySem.W.Frag} {S S' S2 H H' H2 : Hp}
mutual
theorem Rd.mono (e : Ex S S') : ∀ {v : V} {d : D}, Rd K S v d → Rd K S' v d
  | _, _, .non => .non
  | _, _, .bl b => .bl b
  | _, _, .int i => .int i
  | _, _, .str x => .str x
  | _, _, .adr a => .adr a
  | _, _, .ty n => .ty n
  | _, _, .ro h => .ro (Evl.ex_l e h)
  | _, _, .lst h r => .lst (e _ _ h) (RdL.mono e r)
  | _, _, .tup h r => .tup (e _ _ h) (RdL.mono e r)
  | _, _, .dc h l r => .dc (e _ _ h) l (RdL.mono e r)
  | _, _, .ob h l r => .ob (e _ _ h) l (RdL.mono e r)
  | _, _, .fz h l => .fz (e _ _ h) l
  | _, _, .fv h l r => .fv (e _ _ h) l (RdL.mono e r)
  | _, _, .er h c d v => .er (e _ _ h) c d v
theorem RdL.mono (e : Ex S S') : ∀ {vs : List V} {ds : List D}, RdL K S vs ds → RdL K S' vs ds
  | _, _, .nil => .nil
  | _, _, .cons h r => .cons (Rd.mono e h) (RdL.mono e r)
end
theorem RdL.length : ∀ {vs : List V} {ds : List D}, RdL K S vs ds → vs.length = ds.length
  | _, _, .nil => rfl
  | _, _, .cons _ r => congrArg (· + 1) r.length
theorem RdL.append : ∀ {vs ws : List V} {ds es : List D}, RdL K S vs ds → RdL K S ws es → RdL K S (vs ++ ws) (ds ++ es)
  | _, _, _, _, .nil, s => s
  | _, _, _, _, .cons h r, s => .cons h (RdL.append r s)
theorem RdL.get : ∀ {vs : List V} {ds : List D} {i : Nat} {d : D}, RdL K S vs ds → ds[i]? = some d → ∃ v, vs[i]? = some v ∧ Rd K S v d
  | _, _, _, _, .nil, e => by simp at e
  | _, _, 0, _, .cons h _, e => by simp at e; subst e; exact ⟨_, rfl, h⟩
  | _, _, i + 1, _, .cons _ r, e => by
    obtain ⟨v, h1, h2⟩ := RdL.get (i := i) r (by simpa using e)
    exact ⟨v, by simpa using h1, h2⟩
theorem RdL.getV : ∀ {vs : List V} {ds : List D} {i : Nat} {v : V}, RdL K S vs ds → vs[i]? = some v → ∃ d, ds[i]? = some d ∧ Rd K S v d
  | _, _, _, _, .nil, e => by simp at e
  | _, _, 0, _, .cons h _, e => by simp at e; subst e; exact ⟨_, rfl, h⟩
  | _, _, i + 1, _, .cons _ r, e => by
    obtain ⟨v, h1, h2⟩ := RdL.getV (i := i) r (by simpa using e)
    exact ⟨v, by simpa using h1, h2⟩
theorem RdL.take : ∀ {vs : List V} {ds : List D} (n : Nat), RdL K S vs ds → RdL K S (vs.take n) (ds.take n)
  | _, _, 0, _ => .nil
  | _, _, _ + 1, .nil => .nil
  | _, _, n + 1, .cons h r => .cons h (RdL.take n r)
theorem RdL.drop : ∀ {vs : List V} {ds : List D} (n : Nat), RdL K S vs ds → RdL K S (vs.drop n) (ds.drop n)
  | _, _, 0, r => r
  | _, _, _ + 1, .nil => .nil
  | _, _, n + 1, .cons _ r => RdL.drop n r
theorem RdL.eraseIdx : ∀ {vs : List V} {ds : List D} (n : Nat), RdL K S vs ds → RdL K S (vs.eraseIdx n) (ds.eraseIdx n)
  | _, _, _, .nil => .nil
  | _, _, 0, .cons _ r => r
  | _, _, n + 1, .cons h r => .cons h (RdL.eraseIdx n r)
theorem RdL.set {v : V} {d : D} (h : Rd K S v d) : ∀ {vs : List V} {ds : List D} (n : Nat), RdL K S vs ds → RdL K S (vs.set n v) (ds.set n d)
  | _, _, _, .nil => .nil
  | _, _, 0, .cons _ r => .cons h r
  | _, _, n + 1, .cons h' r => .cons h' (RdL.set h n r)
theorem RdL.ints : ∀ {vs : List V} {ns : List Int}, RdL K S vs (ns.map D.int) → vs = ns.map V.int
  | _, [], .nil => rfl
  | _, _ :: _, .cons h r => by cases h; rw [RdL.ints r]; rfl
theorem RdL.ofInts : ∀ (ns : List Int), RdL K S (ns.map V.int) (ns.map D.int)
  | [] => .nil
  | n :: ns => .cons (.int n) (RdL.ofInts ns)
theorem RdL.bools : ∀ {vs : List V} {ns : List Bool}, RdL K S vs (ns.map D.bl) → vs = ns.map V.bl
  | _, [], .nil => rfl
  | _, _ :: _, .cons h r => by cases h; rw [RdL.bools r]; rfl

/-- from the stable part S of the heap H to S' of H': all stands, and what of H was not of S does not come into S' -/
structure Ext (S H S' H' : Hp) : Prop where
  s : Ex S S'
  h : Ex H H'
  sub : Ex S' H'
  dis : ∀ a, S a = none → H a ≠ none → S' a = none
theorem Ext.refl (e : Ex S H) : Ext S H S H := ⟨Ex.refl S, Ex.refl H, e, fun _ h _ => h⟩
theorem Ext.trans (a : Ext S H S' H') (b : Ext S' H' S2 H2) : Ext S H S2 H2 where
  s := a.s.trans b.s
  h := a.h.trans b.h
  sub := b.sub
  dis := fun p h1 h2 => b.dis p (a.dis p h1 h2) fun z => by
    cases q : H p with
    | none => exact h2 q
    | some o => rw [a.h p o q] at z; cases z
theorem sub_none (e : Ex S H) {p : Addr} (h : H p = none) : S p = none := Evl.fresh_back e h
/-- a new object that is told -/
theorem Ext.new (e : Ex S H) {p : Addr} {o : HO} (h : H p = none) : Ext S H (upd S p o) (upd H p o) where
  s := Ex.new (sub_none e h)
  h := Ex.new h
  sub := fun a u q => by
    by_cases ha : a = p
    · subst ha; rw [upd_same] at q ⊢; exact q
    · rw [upd_ne ha] at q ⊢; exact e a u q
  dis := fun a h1 h2 => by
    have ha : a ≠ p := fun z => h2 (z ▸ h)
    rw [upd_ne ha]; exact h1
/-- a new object that is not told -/
theorem Ext.hid (e : Ex S H) {p : Addr} {o : HO} (h : H p = none) : Ext S H S (upd H p o) where
  s := Ex.refl S
  h := Ex.new h
  sub := fun a u q => by
    have ha : a ≠ p := fun z => by subst z; rw [sub_none e h] at q; cases q
    rw [upd_ne ha]; exact e a u q
  dis := fun _ h1 _ => h1
/-- an object that was not of S, and stands, is told -/
theorem Ext.tell (a : Ext S H S' H') {p : Addr} {o : HO} (n : S' p = none) (h : H p = none) (q : H' p = some o) : Ext S H (upd S' p o) H' where
  s := a.s.trans (Ex.new n)
  h := a.h
  sub := fun b u z => by
    by_cases hb : b = p
    · subst hb; rw [upd_same] at z; rw [q]; exact z
    · rw [upd_ne hb] at z; exact a.sub b u z
  dis := fun b h1 h2 => by
    have hb : b ≠ p := fun z => h2 (z ▸ h)
    rw [upd_ne hb]; exact a.dis b h1 h2
end

/-! ### slots -/
inductive Sl where
  | u | k (d : D) | o (ds : List D)
abbrev Rho := List Sl
section
variable (K : PySem.W.Frag)
structure Env (S : Hp) (σ : L2.St) (ρ : Rho) : Prop where
  len : σ.length = ρ.length
  val : ∀ (i : Nat) (d : D), ρ[i]? = some (.k d) → ∃ v, σ[i]? = some (some v) ∧ Rd K S v d
def EvD (te : TE) (ρ : Rho) (d : D) : Prop := ∀ S H σ, Ex S H → Env K S σ ρ → ∀ Q : VK, (∀ v S' H', Ext S H S' H' → Rd K S' v d → Q v H') → te σ H Q
/-- a list that is made on the way, and no one else's -/
def EvF (te : TE) (ρ : Rho) (es : List D) : Prop := ∀ S H σ, Ex S H → Env K S σ ρ → ∀ Q : VK, (∀ p vs S' H', Ext S H S' H' → H p = none → S' p = none → H' p = some (.lst vs) → RdL K S' vs es → Q (.ref p) H') → te σ H Q
def EvT (tt : TT) (ρ : Rho) (b : Bool) : Prop := ∀ S H σ, Ex S H → Env K S σ ρ → ∀ Q : Bool → Hp → Prop, (∀ S' H', Ext S H S' H' → Q b H') → tt σ H Q
def EvA (ta : TA) (ρ : Rho) (ds : List D) : Prop := ∀ S H σ, Ex S H → Env K S σ ρ → ∀ Q : List V → Hp → Prop, (∀ vs S' H', Ext S H S' H' → RdL K S' vs ds → Q vs H') → ta σ H Q
def EvO (to : TO) (ρ : Rho) (o : Option Int) : Prop := ∀ S H σ, Ex S H → Env K S σ ρ → ∀ Q : Option Int → Hp → Prop, (∀ S' H', Ext S H S' H' → Q o H') → to σ H Q
/-- a two-place operation, a call by values -/
def RV (r : R2) (x y z : D) : Prop := ∀ S H v u, Ex S H → Rd K S v x → Rd K S u y → ∀ Q : VK, (∀ w S' H', Ext S H S' H' → Rd K S' w z → Q w H') → r v u H Q
def RVF (r : R2) (x y : D) (es : List D) : Prop := ∀ S H v u, Ex S H → Rd K S v x → Rd K S u y → ∀ Q : VK, (∀ p vs S' H', Ext S H S' H' → H p = none → S' p = none → H' p = some (.lst vs) → RdL K S' vs es → Q (.ref p) H') → r v u H Q
def RC (r : List V → Hp → VK → Prop) (xs : List D) (z : D) : Prop := ∀ S H vs, Ex S H → RdL K S vs xs → ∀ Q : VK, (∀ w S' H', Ext S H S' H' → Rd K S' w z → Q w H') → r vs H Q
def RCF (r : List V → Hp → VK → Prop) (xs : List D) (es : List D) : Prop := ∀ S H vs, Ex S H → RdL K S vs xs → ∀ Q : VK, (∀ p ws S' H', Ext S H S' H' → H p = none → S' p = none → H' p = some (.lst ws) → RdL K S' ws es → Q (.ref p) H') → r vs H Q
end

section
variable {K : PySem.W.Frag} {ρ : Rho} {ta tb te tx : TE} {t u : TT} {tA tR : TA} {x y z d e : D} {r : R2}
theorem Env.mono {S S' : Hp} {σ : L2.St} (e : Ex S S') (h : Env K S σ ρ) : Env K S' σ ρ := ⟨h.len, fun i d q => by
  obtain ⟨v, h1, h2⟩ := h.val i d q
  exact ⟨v, h1, h2.mono e⟩⟩
theorem EvF.data {es : List D} (h : EvF K te ρ es) : EvD K te ρ (.lst es) := fun S H σ e v Q q => h S H σ e v Q fun p vs S' H' x hp sp h' rl =>
  q (.ref p) (upd S' p (.lst vs)) H' (x.tell sp hp h') (.lst upd_same (rl.mono (Ex.new sp)))
theorem EvD.to (h : EvD K te ρ d) (e : d = x) : EvD K te ρ x := e ▸ h
theorem EvF.to {es fs : List D} (h : EvF K te ρ es) (e : es = fs) : EvF K te ρ fs := e ▸ h
theorem EvT.to {b c : Bool} (h : EvT K t ρ b) (e : b = c) : EvT K t ρ c := e ▸ h
theorem ev_var {i : Nat} (h : ρ[i]? = some (.k d)) : EvD K (tVar i) ρ d := fun S H σ e v Q q => by
  obtain ⟨w, h1, h2⟩ := v.val i d h
  exact ⟨w, h1, q w S H (Ext.refl e) h2⟩
theorem ev_int {i : Int} : EvD K (tC (.int i)) ρ (.int i) := fun S H σ e _ Q q => q _ S H (Ext.refl e) (.int i)
theorem ev_bl {b : Bool} : EvD K (tC (.bl b)) ρ (.bl b) := fun S H σ e _ Q q => q _ S H (Ext.refl e) (.bl b)
theorem ev_non : EvD K (tC .non) ρ .non := fun S H σ e _ Q q => q _ S H (Ext.refl e) .non
theorem ev_str {s : Str} : EvD K (tC (.str s)) ρ (.str s) := fun S H σ e _ Q q => q _ S H (Ext.refl e) (.str s)
theorem ev_adr {a : Addr} : EvD K (tC (.ref a)) ρ (.adr a) := fun S H σ e _ Q q => q _ S H (Ext.refl e) (.adr a)
theorem ev_ty {n : String} : EvD K (tC (.ty n)) ρ (.ty n) := fun S H σ e _ Q q => q _ S H (Ext.refl e) (.ty n)
theorem ev_op (ha : EvD K ta ρ x) (hb : EvD K tb ρ y) (hr : RV K r x y z) : EvD K (tOp r ta tb) ρ z := fun S H σ e v Q q =>
  ha S H σ e v _ fun w1 S1 H1 x1 r1 => hb S1 H1 σ x1.sub (v.mono x1.s) _ fun w2 S2 H2 x2 r2 => hr S2 H2 w1 w2 x2.sub (r1.mono x2.s) r2 Q fun w S3 H3 x3 r3 => q w S3 H3 ((x1.trans x2).trans x3) r3
theorem ev_opF {es : List D} (ha : EvD K ta ρ x) (hb : EvD K tb ρ y) (hr : RVF K r x y es) : EvF K (tOp r ta tb) ρ es := fun S H σ e v Q q =>
  ha S H σ e v _ fun w1 S1 H1 x1 r1 => hb S1 H1 σ x1.sub (v.mono x1.s) _ fun w2 S2 H2 x2 r2 => hr S2 H2 w1 w2 x2.sub (r1.mono x2.s) r2 Q fun p vs S3 H3 x3 hp sp h3 r3 =>
    q p vs S3 H3 ((x1.trans x2).trans x3) (Evl.fresh_back (x1.h.trans x2.h) hp) sp h3 r3
theorem ea_nil : EvA K tNil ρ [] := fun S H σ e _ Q q => q [] S H (Ext.refl e) .nil
theorem ea_cons {ds : List D} (h : EvD K ta ρ d) (hr : EvA K tR ρ ds) : EvA K (tCons ta tR) ρ (d :: ds) := fun S H σ e v Q q =>
  h S H σ e v _ fun w1 S1 H1 x1 r1 => hr S1 H1 σ x1.sub (v.mono x1.s) _ fun ws S2 H2 x2 r2 => q (w1 :: ws) S2 H2 (x1.trans x2) (.cons (r1.mono x2.s) r2)
theorem ev_cb {rc : List V → Hp → VK → Prop} {ds : List D} (ha : EvA K tA ρ ds) (hr : RC K rc ds z) : EvD K (tCB rc tA) ρ z := fun S H σ e v Q q =>
  ha S H σ e v _ fun ws S1 H1 x1 r1 => hr S1 H1 ws x1.sub r1 Q fun w S2 H2 x2 r2 => q w S2 H2 (x1.trans x2) r2
theorem ev_cbF {rc : List V → Hp → VK → Prop} {ds es : List D} (ha : EvA K tA ρ ds) (hr : RCF K rc ds es) : EvF K (tCB rc tA) ρ es := fun S H σ e v Q q =>
  ha S H σ e v _ fun ws S1 H1 x1 r1 => hr S1 H1 ws x1.sub r1 Q fun p us S2 H2 x2 hp sp h2 r2 => q p us S2 H2 (x1.trans x2) (Evl.fresh_back x1.h hp) sp h2 r2
theorem ev_lst {ds : List D} (ha : EvA K tA ρ ds) (hl : ds.length ≤ 100000) : EvF K (tLst tA) ρ ds := fun S H σ e v Q q =>
  ha S H σ e v _ fun ws S1 H1 x1 r1 => ⟨Evl.sz_of (by rw [r1.length]; exact hl), fun p hp => q p ws S1 (upd H1 p (.lst ws)) (x1.trans (Ext.hid x1.sub hp)) (Evl.fresh_back x1.h hp) (sub_none x1.sub hp) upd_same r1⟩
theorem ev_tup {ds : List D} (ha : EvA K tA ρ ds) (hl : ds.length ≤ 100000) : EvD K (tTup tA) ρ (.tup ds) := fun S H σ e v Q q =>
  ha S H σ e v _ fun ws S1 H1 x1 r1 => ⟨Evl.sz_of (by rw [r1.length]; exact hl), fun p hp => q (.ref p) (upd S1 p (.tup ws)) (upd H1 p (.tup ws)) (x1.trans (Ext.new x1.sub hp)) (.tup upd_same (r1.mono (Ex.new (sub_none x1.sub hp))))⟩
theorem et_test {b : Bool} (h : EvD K te ρ (.bl b)) : EvT K (tTest te) ρ b := fun S H σ e v Q q =>
  h S H σ e v _ fun w S1 H1 x1 r1 => by cases r1; exact ⟨b, rfl, q S1 H1 x1⟩
theorem et_B {b : Bool} (h : EvD K te ρ (.bl b)) : EvT K (tB te) ρ b := fun S H σ e v Q q =>
  h S H σ e v _ fun w S1 H1 x1 r1 => by cases r1; exact ⟨b, rfl, q S1 H1 x1⟩
theorem et_not {b : Bool} (h : EvT K t ρ b) : EvT K (tNot t) ρ (!b) := fun S H σ e v Q q => h S H σ e v _ fun S1 H1 x1 => q S1 H1 x1
theorem et_and {a b : Bool} (h1 : EvT K t ρ a) (h2 : a = true → EvT K u ρ b) : EvT K (tAnd t u) ρ (a && b) := fun S H σ e v Q q => h1 S H σ e v _ fun S1 H1 x1 => by
  cases a with
  | true =>
    show u σ H1 Q
    exact h2 rfl S1 H1 σ x1.sub (v.mono x1.s) Q fun S2 H2 x2 => q S2 H2 (x1.trans x2)
  | false =>
    show Q false H1
    exact q S1 H1 x1
theorem et_or {a b : Bool} (h1 : EvT K t ρ a) (h2 : a = false → EvT K u ρ b) : EvT K (tOr t u) ρ (a || b) := fun S H σ e v Q q => h1 S H σ e v _ fun S1 H1 x1 => by
  cases a with
  | true =>
    show Q true H1
    exact q S1 H1 x1
  | false =>
    show u σ H1 Q
    exact h2 rfl S1 H1 σ x1.sub (v.mono x1.s) Q fun S2 H2 x2 => q S2 H2 (x1.trans x2)
theorem et_yes : EvT K tYes ρ true := fun S H σ e v Q q => q S H (Ext.refl e)
theorem ev_andV {a : Bool} {z : D} (h1 : EvD K ta ρ (.bl a)) (h2 : a = true → EvD K tb ρ z) (h3 : a = false → z = .bl false) : EvD K (tAndV ta tb) ρ z := fun S H σ e v Q q => h1 S H σ e v _ fun w S1 H1 x1 r1 => by
  cases r1
  refine ⟨a, rfl, ?_⟩
  cases a with
  | true =>
    show tb σ H1 Q
    exact h2 rfl S1 H1 σ x1.sub (v.mono x1.s) Q fun w S2 H2 x2 r2 => q w S2 H2 (x1.trans x2) r2
  | false =>
    show Q (.bl false) H1
    rw [h3 rfl] at q
    exact q _ S1 H1 x1 (.bl false)
theorem ev_and {a b : Bool} (h1 : EvD K ta ρ (.bl a)) (h2 : a = true → EvD K tb ρ (.bl b)) : EvD K (tAndV ta tb) ρ (.bl (a && b)) :=
  ev_andV h1 (fun e => by subst e; exact h2 rfl) fun e => by subst e; rfl
theorem ev_or {a b : Bool} (h1 : EvD K ta ρ (.bl a)) (h2 : a = false → EvD K tb ρ (.bl b)) : EvD K (tOrV ta tb) ρ (.bl (a || b)) := fun S H σ e v Q q => h1 S H σ e v _ fun w S1 H1 x1 r1 => by
  cases r1
  refine ⟨a, rfl, ?_⟩
  cases a with
  | true =>
    show Q (.bl true) H1
    exact q _ S1 H1 x1 (.bl true)
  | false =>
    show tb σ H1 Q
    exact h2 rfl S1 H1 σ x1.sub (v.mono x1.s) Q fun w S2 H2 x2 r2 => q w S2 H2 (x1.trans x2) r2
theorem ev_not {a : Bool} (h1 : EvD K ta ρ (.bl a)) : EvD K (tNotV ta) ρ (.bl (!a)) := fun S H σ e v Q q => h1 S H σ e v _ fun w S1 H1 x1 r1 => by
  cases r1
  exact ⟨a, rfl, q _ S1 H1 x1 (.bl _)⟩
theorem ev_if {b : Bool} (h : EvT K t ρ b) (h1 : b = true → EvD K ta ρ d) (h2 : b = false → EvD K tb ρ d) : EvD K (tIf t ta tb) ρ d := fun S H σ e v Q q => h S H σ e v _ fun S1 H1 x1 => by
  cases b with
  | true =>
    show ta σ H1 Q
    exact h1 rfl S1 H1 σ x1.sub (v.mono x1.s) Q fun w S2 H2 x2 r2 => q w S2 H2 (x1.trans x2) r2
  | false =>
    show tb σ H1 Q
    exact h2 rfl S1 H1 σ x1.sub (v.mono x1.s) Q fun w S2 H2 x2 r2 => q w S2 H2 (x1.trans x2) r2

/-! ### operations by values -/
theorem rv_I0 {g : Int → Int → V} {i j : Int} {z : D} (h : ∀ S, Rd K S (g i j) z) : RV K (rI0 g) (.int i) (.int j) z := fun S H v u e r1 r2 Q q => by
  cases r1; cases r2
  exact ⟨i, j, rfl, rfl, q _ S H (Ext.refl e) (h S)⟩
theorem rv_I {C : Int → Int → Prop} {g : Int → Int → V} {i j : Int} {z : D} (hc : C i j) (h : ∀ S, Rd K S (g i j) z) : RV K (rI C g) (.int i) (.int j) z := fun S H v u e r1 r2 Q q => by
  cases r1; cases r2
  exact ⟨i, j, rfl, rfl, hc, q _ S H (Ext.refl e) (h S)⟩
theorem atI_get {α : Type} {xs : List α} {i : Int} {x : α} (h : atI xs i = some x) : ∃ j, ixN xs.length i = some j ∧ xs[j]? = some x := by
  unfold atI at h
  cases e : ixN xs.length i with
  | none => rw [e] at h; cases h
  | some j => rw [e] at h; exact ⟨j, rfl, h⟩
theorem atI_of {α : Type} {xs : List α} {i : Int} {j : Nat} {x : α} (h : ixN xs.length i = some j) (e : xs[j]? = some x) : atI xs i = some x := by
  unfold atI
  rw [h]
  exact e
theorem RdL.at {S : Hp} {vs : List V} {ds : List D} {i : Int} {d : D} (h : RdL K S vs ds) (e : atI ds i = some d) : ∃ v, atI vs i = some v ∧ Rd K S v d := by
  obtain ⟨j, h1, h2⟩ := atI_get e
  obtain ⟨v, h3, h4⟩ := h.get h2
  exact ⟨v, atI_of (by rw [h.length]; exact h1) h3, h4⟩
theorem rv_ixL {ds : List D} {i : Int} {d : D} (h : atI ds i = some d) : RV K (rIx K) (.lst ds) (.int i) d := fun S H v u e r1 r2 Q q => by
  cases r1 with
  | lst ha rl =>
    cases r2
    obtain ⟨w, h1, h2⟩ := rl.at h
    exact .inl ⟨_, _, i, w, rfl, rfl, Evl.sq_of (e _ _ ha), h1, q w S H (Ext.refl e) h2⟩
theorem rv_ixT {ds : List D} {i : Int} {d : D} (h : atI ds i = some d) : RV K (rIx K) (.tup ds) (.int i) d := fun S H v u e r1 r2 Q q => by
  cases r1 with
  | tup ha rl =>
    cases r2
    obtain ⟨w, h1, h2⟩ := rl.at h
    exact .inr (.inl ⟨_, _, i, w, rfl, rfl, Evl.st_of (e _ _ ha), h1, q w S H (Ext.refl e) h2⟩)
theorem rv_ixR {ns : List Int} {i n : Int} (h : atI ns i = some n) : RV K (rIx K) (.ro ns) (.int i) (.int n) := fun S H v u e r1 r2 Q q => by
  cases r1 with
  | ro ha =>
    cases r2
    obtain ⟨j, h1, h2⟩ := atI_get h
    exact .inl ⟨_, _, i, .int n, rfl, rfl, Evl.ex_l e ha, atI_of (by rw [List.length_map]; exact h1) (by rw [List.getElem?_map, h2]; rfl), q _ S H (Ext.refl e) (.int n)⟩
/-- `+` of ints, lists, tuples -/
def rPlus (K : PySem.W.Frag) : R2 := fun x y H Q => rI0 (fun i j => .int (i + j)) x y H Q ∨ rCat x y H Q ∨ rCatT K x y H Q
theorem op_plus {X : Cx} : OpR X (binaryOp .Add) (rPlus X.K) := fun pins s σ H x y v u Q I rx ry h => by
  rcases h with h | h | h
  · exact op_add pins s σ H x y v u Q I rx ry h
  · exact op_cat pins s σ H x y v u Q I rx ry h
  · exact op_catT pins s σ H x y v u Q I rx ry h
theorem rv_plusI {i j : Int} : RV K (rPlus K) (.int i) (.int j) (.int (i + j)) := fun S H v u e r1 r2 Q q => .inl (rv_I0 (fun S => .int _) S H v u e r1 r2 Q q)
theorem rvF_plus {xs ys : List D} (hl : xs.length + ys.length ≤ 100000) : RVF K (rPlus K) (.lst xs) (.lst ys) (xs ++ ys) := fun S H v u e r1 r2 Q q => by
  cases r1 with
  | lst ha rl =>
    cases r2 with
    | lst hb rl2 =>
      exact .inr (.inl ⟨_, _, _, _, rfl, rfl, e _ _ ha, e _ _ hb, Evl.sz_of (by rw [rl.length, rl2.length]; exact hl), fun p hp => q p _ S _ (Ext.hid e hp) hp (sub_none e hp) upd_same (rl.append rl2)⟩)
theorem rv_plusT {xs ys : List D} (hn : xs ≠ []) (hl : xs.length + ys.length ≤ 100000) : RV K (rPlus K) (.tup xs) (.tup ys) (.tup (xs ++ ys)) := fun S H v u e r1 r2 Q q => by
  cases r1 with
  | tup ha rl =>
    cases r2 with
    | tup hb rl2 =>
      refine .inr (.inr ⟨_, _, _, _, rfl, rfl, Evl.st_of (e _ _ ha), Evl.st_of (e _ _ hb), fun z => ?_, Evl.sz_of (by rw [rl.length, rl2.length]; exact hl), fun z => ?_, fun z p hp => ?_⟩)
      · subst z; cases rl; exact hn rfl
      · subst z
        cases rl2
        rw [List.append_nil] at q
        exact q _ S H (Ext.refl e) (.tup ha rl)
      · exact q _ _ _ (Ext.new e hp) (.tup upd_same ((rl.append rl2).mono (Ex.new (sub_none e hp))))
/-! ### calls by values -/
def rLen (K : PySem.W.Frag) : List V → Hp → VK → Prop := fun xs H Q => ∃ p ys, xs = [.ref p] ∧ (SqL K H p ys ∨ SqT K H p ys) ∧ Q (.int ys.length) H
theorem cr_len {X : Cx} : CallR X (.builtin "len") (rLen X.K) := call_len_seq
theorem rc_lenL {ds : List D} : RC K (rLen K) [.lst ds] (.int (ds.length : Int)) := fun S H vs e r Q q => by
  cases r with
  | cons h t =>
    cases t
    cases h with
    | lst ha rl => exact ⟨_, _, rfl, .inl (Evl.sq_of (e _ _ ha)), by rw [rl.length]; exact q _ S H (Ext.refl e) (.int _)⟩
theorem rc_lenT {ds : List D} : RC K (rLen K) [.tup ds] (.int (ds.length : Int)) := fun S H vs e r Q q => by
  cases r with
  | cons h t =>
    cases t
    cases h with
    | tup ha rl => exact ⟨_, _, rfl, .inr (Evl.st_of (e _ _ ha)), by rw [rl.length]; exact q _ S H (Ext.refl e) (.int _)⟩
theorem rc_lenR {ns : List Int} : RC K (rLen K) [.ro ns] (.int (ns.length : Int)) := fun S H vs e r Q q => by
  cases r with
  | cons h t =>
    cases t
    cases h with
    | ro ha => exact ⟨_, _, rfl, .inl (Evl.ex_l e ha), by rw [List.length_map]; exact q _ S H (Ext.refl e) (.int _)⟩
def rListOf (K : PySem.W.Frag) : List V → Hp → VK → Prop := fun xs H Q => ∃ p ys, xs = [.ref p] ∧ (SqL K H p ys ∨ SqT K H p ys) ∧ ∀ l, H l = none → Q (.ref l) (upd H l (.lst ys))
theorem cr_listOf {X : Cx} : CallR X (.type "list") (rListOf X.K) := call_list_of
theorem rc_listL {ds : List D} : RCF K (rListOf K) [.lst ds] ds := fun S H vs e r Q q => by
  cases r with
  | cons h t =>
    cases t
    cases h with
    | lst ha rl => exact ⟨_, _, rfl, .inl (Evl.sq_of (e _ _ ha)), fun p hp => q p _ S _ (Ext.hid e hp) hp (sub_none e hp) upd_same rl⟩
theorem rc_listT {ds : List D} : RCF K (rListOf K) [.tup ds] ds := fun S H vs e r Q q => by
  cases r with
  | cons h t =>
    cases t
    cases h with
    | tup ha rl => exact ⟨_, _, rfl, .inr (Evl.st_of (e _ _ ha)), fun p hp => q p _ S _ (Ext.hid e hp) hp (sub_none e hp) upd_same rl⟩
theorem rc_listR {ns : List Int} : RCF K (rListOf K) [.ro ns] (ns.map D.int) := fun S H vs e r Q q => by
  cases r with
  | cons h t =>
    cases t
    cases h with
    | ro ha => exact ⟨_, _, rfl, .inl (Evl.ex_l e ha), fun p hp => q p _ S _ (Ext.hid e hp) hp (sub_none e hp) upd_same (RdL.ofInts ns)⟩
/-- all(..) of a list of truth values -/
theorem rc_all {bs : List Bool} : RC K (rAll K) [.lst (bs.map D.bl)] (.bl (bs.all id)) := fun S H vs e r Q q => by
  cases r with
  | cons h t =>
    cases t
    cases h with
    | lst ha rl =>
      have z := rl.bools
      subst z
      exact ⟨_, bs, rfl, Evl.sq_of (e _ _ ha), q _ S H (Ext.refl e) (.bl _)⟩
end

/-! ### a def's promise by data -/
section
variable (K : PySem.W.Frag)
def spD (Rel : List D → D → Prop) : Sp := fun vs H Q _ => ∃ S ds d, Ex S H ∧ RdL K S vs ds ∧ Rel ds d ∧ ∀ v S' H', Ext S H S' H' → Rd K S' v d → Q v H'
/-- it hands back a list that is no one else's -/
def spF (Rel : List D → List D → Prop) : Sp := fun vs H Q _ => ∃ S ds es, Ex S H ∧ RdL K S vs ds ∧ Rel ds es ∧ ∀ p ws S' H', Ext S H S' H' → H p = none → S' p = none → H' p = some (.lst ws) → RdL K S' ws es → Q (.ref p) H'
end
section
variable {K : PySem.W.Frag} {ρ : Rho} {tA : TA} {E : XK}
theorem ev_call {Rel : List D → D → Prop} {ds : List D} {d : D} (ha : EvA K tA ρ ds) (hr : Rel ds d) : EvD K (tCall (spD K Rel) [] E tA) ρ d := fun S H σ e v Q q =>
  ha S H σ e v _ fun ws S1 H1 x1 r1 => ⟨S1, ds, d, x1.sub, by rw [List.append_nil]; exact r1, hr, fun w S2 H2 x2 r2 => q w S2 H2 (x1.trans x2) r2⟩
theorem ev_callF {Rel : List D → List D → Prop} {ds es : List D} (ha : EvA K tA ρ ds) (hr : Rel ds es) : EvF K (tCall (spF K Rel) [] E tA) ρ es := fun S H σ e v Q q =>
  ha S H σ e v _ fun ws S1 H1 x1 r1 => ⟨S1, ds, es, x1.sub, by rw [List.append_nil]; exact r1, hr, fun p us S2 H2 x2 hp sp h2 r2 => q p us S2 H2 (x1.trans x2) (Evl.fresh_back x1.h hp) sp h2 r2⟩
end
end Pl

/-! Values as plain data: kinds, ==, in, slices, walks, comprehensions. -/
namespace Pl
open PySem PySem.Spec PyProof.Rows L2
open Evl (Ex)

/-! ### kinds -/
def D.kind : D → String
  | .non => "NoneType" | .bl _ => "bool" | .int _ => "int" | .str _ => "str" | .adr _ => "?" | .ty _ => "?" | .ro _ => "list" | .lst _ => "list" | .tup _ => "tuple" | .dc _ _ => "?" | .ob _ _ _ => "?" | .fz _ => "?" | .fv _ _ => "?" | .er _ => "?"
section
variable {K : PySem.W.Frag} {ρ : Rho}
theorem Rd.ty_of {S H : Hp} {v : V} {d : D} (e : Ex S H) (h : Rd K S v d) (hk : d.kind ≠ "?") : TyX K H v (.type d.kind) := by
  cases h with
  | non => exact .base .non
  | bl b => exact .base (.bl b)
  | int i => exact .base (.int i)
  | str x => exact .base (.str x)
  | adr a => exact absurd rfl hk
  | ty a => exact absurd rfl hk
  | ro h =>
    rcases Evl.ex_l e h with (h | ⟨o, h⟩) | ⟨o, its, n, h1, h2, _⟩
    · exact .base (.lst h)
    · exact .base (.frz h)
    · exact .kList h1 h2
  | lst h _ => exact .base (.lst (e _ _ h))
  | tup h _ => exact .base (.tup (e _ _ h))
  | dc _ _ _ => exact absurd rfl hk
  | ob _ _ _ => exact absurd rfl hk
  | fz _ _ => exact absurd rfl hk
  | fv _ _ _ => exact absurd rfl hk
  | er _ _ _ _ => exact absurd rfl hk
theorem rc_isi {x : D} {T : String} {b : Bool} (h : kitB x.kind T = some b) (hk : x.kind ≠ "?") : RC K (rIsi K) [x, .ty T] (.bl b) := fun S H vs e r Q q => by
  cases r with
  | cons h1 t1 =>
    cases t1 with
    | cons h2 t2 =>
      cases t2
      cases h2
      exact ⟨_, _, _, _, b, rfl, .ty T, h1.ty_of e hk, kit_ty h, q _ S H (Ext.refl e) (.bl b)⟩

/-! ### equality -/
mutual
def D.py : D → PyData
  | .non => .none | .bl b => .bool b | .int i => .int i | .str s => .str s | .adr _ => .none | .ty _ => .none | .ro ns => .list (ns.map PyData.int)
  | .lst ds => .list (pyL ds) | .tup ds => .tuple (pyL ds) | .dc _ _ => .none | .ob _ _ _ => .none | .fz _ => .none | .fv _ _ => .none | .er _ => .none
def pyL : List D → List PyData
  | [] => []
  | d :: ds => d.py :: pyL ds
end
theorem pyL_map (ds : List D) : pyL ds = ds.map D.py := by
  induction ds with
  | nil => rfl
  | cons d ds ih => rw [pyL, ih]; rfl
/-- data that == may be asked of: at most n deep -/
def D.okd : Nat → D → Bool
  | _, .non => true | _, .bl _ => true | _, .int _ => true | _, .str s => PyData.strOk s | _, .adr _ => false | _, .ty _ => false
  | 0, _ => false
  | _ + 1, .ro _ => true
  | n + 1, .lst ds => ds.all (D.okd n)
  | n + 1, .tup ds => ds.all (D.okd n)
  | _ + 1, .dc _ _ => false | _ + 1, .ob _ _ _ => false | _ + 1, .fz _ => false | _ + 1, .fv _ _ => false | _ + 1, .er _ => false
theorem depthAll_le : ∀ (xs : List PyData) (n : Nat), (∀ x ∈ xs, x.depth ≤ n) → PyData.depthAll xs ≤ n
  | [], n, _ => by simp [PyData.depthAll]
  | x :: xs, n, h => by
    have h1 := h x List.mem_cons_self
    have h2 := depthAll_le xs n fun y hy => h y (List.mem_cons_of_mem _ hy)
    simp only [PyData.depthAll]
    omega
theorem canLayAll_of : ∀ (xs : List PyData), (∀ x ∈ xs, x.canLay0 = true) → PyData.canLayAll0 xs = true
  | [], _ => by simp [PyData.canLayAll0]
  | x :: xs, h => by
    simp only [PyData.canLayAll0, Bool.and_eq_true]
    exact ⟨h x List.mem_cons_self, canLayAll_of xs fun y hy => h y (List.mem_cons_of_mem _ hy)⟩
theorem okd_shape : ∀ (n : Nat) (d : D), d.okd n = true → d.py.canLay0 = true ∧ d.py.depth ≤ n
  | n, .non, _ => ⟨by simp [D.py, PyData.canLay0], by simp [D.py, PyData.depth]⟩
  | n, .bl _, _ => ⟨by simp [D.py, PyData.canLay0], by simp [D.py, PyData.depth]⟩
  | n, .int _, _ => ⟨by simp [D.py, PyData.canLay0], by simp [D.py, PyData.depth]⟩
  | n, .str s, h => ⟨by cases n <;> simpa [D.py, PyData.canLay0, D.okd] using h, by simp [D.py, PyData.depth]⟩
  | n, .adr _, h => by cases n <;> simp [D.okd] at h
  | n, .ty _, h => by cases n <;> simp [D.okd] at h
  | n, .dc _ _, h => by cases n <;> simp [D.okd] at h
  | n, .ob _ _ _, h => by cases n <;> simp [D.okd] at h
  | n, .fz _, h => by cases n <;> simp [D.okd] at h
  | n, .fv _ _, h => by cases n <;> simp [D.okd] at h
  | n, .er _, h => by cases n <;> simp [D.okd] at h
  | 0, .ro _, h => by simp [D.okd] at h
  | 0, .lst _, h => by simp [D.okd] at h
  | 0, .tup _, h => by simp [D.okd] at h
  | n + 1, .ro ns, _ => by
    refine ⟨?_, ?_⟩
    · simp only [D.py, PyData.canLay0]
      exact canLayAll_of _ fun x hx => by
        obtain ⟨i, _, rfl⟩ := List.mem_map.mp hx
        simp [PyData.canLay0]
    · simp only [D.py, PyData.depth]
      have := depthAll_le (ns.map PyData.int) 0 fun x hx => by
        obtain ⟨i, _, rfl⟩ := List.mem_map.mp hx
        simp [PyData.depth]
      omega
  | n + 1, .lst ds, h => by
    have hh : ∀ d ∈ ds, d.okd n = true := by simpa [D.okd] using h
    have ih := fun d hd => okd_shape n d (hh d hd)
    refine ⟨?_, ?_⟩
    · simp only [D.py, PyData.canLay0, pyL_map]
      exact canLayAll_of _ fun x hx => by
        obtain ⟨d, hd, rfl⟩ := List.mem_map.mp hx
        exact (ih d hd).1
    · simp only [D.py, PyData.depth, pyL_map]
      have := depthAll_le (ds.map D.py) n fun x hx => by
        obtain ⟨d, hd, rfl⟩ := List.mem_map.mp hx
        exact (ih d hd).2
      omega
  | n + 1, .tup ds, h => by
    have hh : ∀ d ∈ ds, d.okd n = true := by simpa [D.okd] using h
    have ih := fun d hd => okd_shape n d (hh d hd)
    refine ⟨?_, ?_⟩
    · simp only [D.py, PyData.canLay0, pyL_map]
      exact canLayAll_of _ fun x hx => by
        obtain ⟨d, hd, rfl⟩ := List.mem_map.mp hx
        exact (ih d hd).1
    · simp only [D.py, PyData.depth, pyL_map]
      have := depthAll_le (ds.map D.py) n fun x hx => by
        obtain ⟨d, hd, rfl⟩ := List.mem_map.mp hx
        exact (ih d hd).2
      omega
theorem okd_shaped {d : D} (h : d.okd 60 = true) : SeqAt.shaped d.py = true := by
  obtain ⟨h1, h2⟩ := okd_shape 60 d h
  unfold SeqAt.shaped
  rw [h1, decide_eq_true (by omega : d.py.depth ≤ 64)]
  rfl
theorem dpAll_ints {H : Hp} : ∀ (ns : List Int), DpAll K H (ns.map V.int) (ns.map PyData.int)
  | [] => .nil
  | n :: ns => .cons (.int n) (dpAll_ints ns)
theorem dpL {S : Hp} {n : Nat} (ih : ∀ (v : V) (d : D), d.okd n = true → Rd K S v d → Dp K S v d.py) : ∀ (vs : List V) (ds : List D), (∀ d ∈ ds, d.okd n = true) → RdL K S vs ds → DpAll K S vs (pyL ds)
  | _, [], _, .nil => .nil
  | _, _ :: ds, h, .cons (vs := vs) hd r => .cons (ih _ _ (h _ List.mem_cons_self) hd) (dpL ih vs ds (fun d hd => h d (List.mem_cons_of_mem _ hd)) r)
theorem Rd.dp {S : Hp} (n : Nat) : ∀ (v : V) (d : D), d.okd n = true → Rd K S v d → Dp K S v d.py := by
  induction n with
  | zero =>
    intro v d h r
    cases r with
    | non => exact .non
    | bl b => exact .bl b
    | int i => exact .int i
    | str x => exact .str x
    | adr a => simp [D.okd] at h
    | ty a => simp [D.okd] at h
    | ro h' => simp [D.okd] at h
    | lst _ _ => simp [D.okd] at h
    | tup _ _ => simp [D.okd] at h
    | dc _ _ _ => simp [D.okd] at h
    | ob _ _ _ => simp [D.okd] at h
    | fz _ _ => simp [D.okd] at h
    | fv _ _ _ => simp [D.okd] at h
    | er _ _ _ _ => simp [D.okd] at h
  | succ n ih =>
    intro v d h r
    cases r with
    | non => exact .non
    | bl b => exact .bl b
    | int i => exact .int i
    | str x => exact .str x
    | adr a => simp [D.okd] at h
    | ty a => simp [D.okd] at h
    | ro h' => exact .lst h' (dpAll_ints _)
    | lst ha r => exact .lst (Evl.sq_of ha) (dpL ih _ _ (by simpa [D.okd] using h) r)
    | tup ha r => exact .tup (Evl.st_of ha) (dpL ih _ _ (by simpa [D.okd] using h) r)
    | dc _ _ _ => simp [D.okd] at h
    | ob _ _ _ => simp [D.okd] at h
    | fz _ _ => simp [D.okd] at h
    | fv _ _ _ => simp [D.okd] at h
    | er _ _ _ _ => simp [D.okd] at h
/-- no truth values in it: then == is equality -/
def D.sm : Nat → D → Bool
  | _, .non => true | _, .bl _ => false | _, .int _ => true | _, .str _ => true | _, .adr _ => false | _, .ty _ => false
  | 0, _ => false
  | _ + 1, .ro _ => false
  | n + 1, .lst ds => ds.all (D.sm n)
  | n + 1, .tup ds => ds.all (D.sm n)
  | _ + 1, .dc _ _ => false | _ + 1, .ob _ _ _ => false | _ + 1, .fz _ => false | _ + 1, .fv _ _ => false | _ + 1, .er _ => false
theorem eqvAll_iff {n : Nat} (ih : ∀ x y : D, x.sm n = true → y.sm n = true → (PyData.eqv x.py y.py = true ↔ x = y)) : ∀ (xs ys : List D), (∀ x ∈ xs, x.sm n = true) → (∀ y ∈ ys, y.sm n = true) → (PyData.eqvAll (pyL xs) (pyL ys) = true ↔ xs = ys)
  | [], [], _, _ => by simp [pyL, PyData.eqvAll]
  | [], _ :: _, _, _ => by simp [pyL, PyData.eqvAll]
  | _ :: _, [], _, _ => by simp [pyL, PyData.eqvAll]
  | x :: xs, y :: ys, hx, hy => by
    have h1 := ih x y (hx x List.mem_cons_self) (hy y List.mem_cons_self)
    have h2 := eqvAll_iff ih xs ys (fun z hz => hx z (List.mem_cons_of_mem _ hz)) (fun z hz => hy z (List.mem_cons_of_mem _ hz))
    simp only [pyL, PyData.eqvAll, Bool.and_eq_true, h1, h2, List.cons.injEq]
theorem eqv_iff : ∀ (n : Nat) (x y : D), x.sm n = true → y.sm n = true → (PyData.eqv x.py y.py = true ↔ x = y)
  | 0, x, y, hx, hy => by
    cases x <;> simp [D.sm] at hx <;> cases y <;> simp [D.sm] at hy <;> simp [D.py, PyData.eqv]
  | n + 1, x, y, hx, hy => by
    have ih := eqv_iff n
    cases x <;> simp [D.sm] at hx <;> cases y <;> simp [D.sm] at hy <;> simp [D.py, PyData.eqv]
    · exact eqvAll_iff ih _ _ hx hy
    · exact eqvAll_iff ih _ _ hx hy
theorem eqv_dec {x y : D} {b : Bool} (hx : x.sm 60 = true) (hy : y.sm 60 = true) (h : b = true ↔ x = y) : PyData.eqv x.py y.py = b := by
  have e := eqv_iff 60 x y hx hy
  cases b with
  | true => exact e.mpr (h.mp rfl)
  | false =>
    cases q : PyData.eqv x.py y.py with
    | false => rfl
    | true => exact absurd (h.mpr (e.mp q)) (by decide)
theorem rv_eq {x y : D} (hx : x.okd 60 = true) (hy : y.okd 60 = true) : RV K (rEqD K) x y (.bl (PyData.eqv x.py y.py)) := fun S H v u e r1 r2 Q q =>
  ⟨x.py, y.py, Rd.dp 60 _ _ hx (r1.mono e), Rd.dp 60 _ _ hy (r2.mono e), okd_shaped hx, okd_shaped hy, q _ S H (Ext.refl e) (.bl _)⟩
theorem rv_ne {x y : D} (hx : x.okd 60 = true) (hy : y.okd 60 = true) : RV K (rNeD K) x y (.bl (!PyData.eqv x.py y.py)) := fun S H v u e r1 r2 Q q =>
  ⟨x.py, y.py, Rd.dp 60 _ _ hx (r1.mono e), Rd.dp 60 _ _ hy (r2.mono e), okd_shaped hx, okd_shaped hy, q _ S H (Ext.refl e) (.bl _)⟩
/-- == and != where no truth values are in it -/
theorem rv_eqS {x y : D} {b : Bool} (hx : x.okd 60 = true) (hy : y.okd 60 = true) (sx : x.sm 60 = true) (sy : y.sm 60 = true) (h : b = true ↔ x = y) : RV K (rEqD K) x y (.bl b) := by
  rw [← eqv_dec sx sy h]
  exact rv_eq hx hy
theorem rv_neS {x y : D} {b : Bool} (hx : x.okd 60 = true) (hy : y.okd 60 = true) (sx : x.sm 60 = true) (sy : y.sm 60 = true) (h : b = true ↔ x = y) : RV K (rNeD K) x y (.bl (!b)) := by
  rw [← eqv_dec sx sy h]
  exact rv_ne hx hy
theorem rv_eqI {i j : Int} : RV K (rEqD K) (.int i) (.int j) (.bl (decide (i = j))) := rv_eqS rfl rfl rfl rfl (by rw [decide_eq_true_eq]; exact ⟨congrArg D.int, fun e => D.int.inj e⟩)
theorem rv_neI {i j : Int} : RV K (rNeD K) (.int i) (.int j) (.bl (!decide (i = j))) := rv_neS rfl rfl rfl rfl (by rw [decide_eq_true_eq]; exact ⟨congrArg D.int, fun e => D.int.inj e⟩)
theorem rv_eqB {a b : Bool} : RV K (rEqD K) (.bl a) (.bl b) (.bl (a == b)) := rv_eq rfl rfl
theorem rv_neB {a b : Bool} : RV K (rNeD K) (.bl a) (.bl b) (.bl (!(a == b))) := rv_ne rfl rfl
theorem map_int_inj {ns ms : List Int} : ns.map D.int = ms.map D.int ↔ ns = ms :=
  ⟨fun h => (List.map_inj_right (fun a b e => D.int.inj e)).mp h, fun h => h ▸ rfl⟩
theorem okd_ints {ns : List Int} : (D.lst (ns.map D.int)).okd 60 = true := by
  simp [D.okd]
theorem sm_ints {ns : List Int} : (D.lst (ns.map D.int)).sm 60 = true := by
  simp [D.sm]
theorem rv_eqInts {ns ms : List Int} : RV K (rEqD K) (.lst (ns.map D.int)) (.lst (ms.map D.int)) (.bl (decide (ns = ms))) :=
  rv_eqS okd_ints okd_ints sm_ints sm_ints (by rw [decide_eq_true_eq, D.lst.injEq, map_int_inj])
theorem rv_neInts {ns ms : List Int} : RV K (rNeD K) (.lst (ns.map D.int)) (.lst (ms.map D.int)) (.bl (!decide (ns = ms))) :=
  rv_neS okd_ints okd_ints sm_ints sm_ints (by rw [decide_eq_true_eq, D.lst.injEq, map_int_inj])

/-! ### in, of ints -/
theorem inV_ints (i : Int) (ns : List Int) : inV (.int i) (ns.map V.int) = decide (i ∈ ns) := by
  unfold inV
  induction ns with
  | nil => rfl
  | cons n ns ih =>
    rw [List.map_cons, List.any_cons, ih]
    show ((n == i) || decide (i ∈ ns)) = decide (i ∈ n :: ns)
    by_cases e : n = i
    · subst e; simp
    · have e2 : ¬ i = n := fun z => e z.symm
      simp [e, e2]
theorem flat_ints (ns : List Int) : (ns.map V.int).all flatV = true := by
  rw [List.all_map]
  exact List.all_eq_true.mpr fun _ _ => rfl
theorem rv_inL {neg : Bool} {i : Int} {ns : List Int} : RV K (rIn K neg) (.int i) (.lst (ns.map D.int)) (.bl (if neg then !decide (i ∈ ns) else decide (i ∈ ns))) := fun S H v u e r1 r2 Q q => by
  cases r1
  cases r2 with
  | lst ha rl =>
    have z := rl.ints
    subst z
    exact ⟨_, _, rfl, .inl (Evl.sq_of (e _ _ ha)), rfl, flat_ints ns, by rw [inV_ints]; exact q _ S H (Ext.refl e) (.bl _)⟩
theorem rv_inT {neg : Bool} {i : Int} {ns : List Int} : RV K (rIn K neg) (.int i) (.tup (ns.map D.int)) (.bl (if neg then !decide (i ∈ ns) else decide (i ∈ ns))) := fun S H v u e r1 r2 Q q => by
  cases r1
  cases r2 with
  | tup ha rl =>
    have z := rl.ints
    subst z
    exact ⟨_, _, rfl, .inr (Evl.st_of (e _ _ ha)), rfl, flat_ints ns, by rw [inV_ints]; exact q _ S H (Ext.refl e) (.bl _)⟩
/-- is None -/
theorem rv_isN {x : D} {b : Bool} (h : b = true ↔ x = .non) : RV K (fun x y H Q => y = .non ∧ Q (.bl (decide (x = .non))) H) x .non (.bl b) := fun S H v u e r1 r2 Q q => by
  cases r2
  refine ⟨rfl, ?_⟩
  have : decide (v = .non) = b := by
    cases r1 <;> cases b <;> simp at h ⊢
  rw [this]
  exact q _ S H (Ext.refl e) (.bl b)
theorem rv_notN {x : D} {b : Bool} (h : b = true ↔ x = .non) : RV K (fun x y H Q => y = .non ∧ Q (.bl (!decide (x = .non))) H) x .non (.bl (!b)) := fun S H v u e r1 r2 Q q => by
  cases r2
  refine ⟨rfl, ?_⟩
  have : decide (v = .non) = b := by
    cases r1 <;> cases b <;> simp at h ⊢
  rw [this]
  exact q _ S H (Ext.refl e) (.bl _)

/-! ### slices -/
def cutD (xs : List D) (lo hi : Option Int) : List D := (xs.drop (HT.sIx xs.length 0 lo)).take (HT.sIx xs.length xs.length hi - HT.sIx xs.length 0 lo)
theorem RdL.cut {S : Hp} {vs : List V} {ds : List D} (h : RdL K S vs ds) (lo hi : Option Int) : RdL K S (cutV vs lo hi) (cutD ds lo hi) := by
  unfold cutV cutD
  rw [h.length]
  exact (h.drop _).take _
def rSl (K : PySem.W.Frag) : V → Option Int → Option Int → Hp → VK → Prop := fun x lo hi H Q => rSlL K x lo hi H Q ∨ rSlT K x lo hi H Q
theorem sl_any {X : Cx} : SlR X (rSl X.K) := SlR.or sl_list sl_tup
theorem eo_no : EvO K tNoPart ρ none := fun S H σ e v Q q => q S H (Ext.refl e)
theorem eo_some {te : TE} {i : Int} (h : EvD K te ρ (.int i)) : EvO K (tPart te) ρ (some i) := fun S H σ e v Q q =>
  h S H σ e v _ fun w S1 H1 x1 r1 => by cases r1; exact ⟨i, rfl, q S1 H1 x1⟩
theorem ev_slL {te : TE} {tl th : TO} {ds : List D} {lo hi : Option Int} (h : EvD K te ρ (.lst ds)) (h1 : EvO K tl ρ lo) (h2 : EvO K th ρ hi) : EvF K (tSl (rSl K) te tl th) ρ (cutD ds lo hi) := fun S H σ e v Q q =>
  h S H σ e v _ fun w S1 H1 x1 r1 => h1 S1 H1 σ x1.sub (v.mono x1.s) _ fun S2 H2 x2 => h2 S2 H2 σ x2.sub (v.mono (x1.s.trans x2.s)) _ fun S3 H3 x3 => by
    cases r1 with
    | lst ha rl =>
      refine .inl ⟨_, _, rfl, Evl.sq_of (x3.sub _ _ (x3.s _ _ (x2.s _ _ ha))), fun p hp => ?_⟩
      exact q p _ S3 _ (((x1.trans x2).trans x3).trans (Ext.hid x3.sub hp)) (Evl.fresh_back ((x1.trans x2).trans x3).h hp) (sub_none x3.sub hp) upd_same ((rl.cut lo hi).mono (x2.s.trans x3.s))
theorem ev_slR {te : TE} {tl th : TO} {ns : List Int} {lo hi : Option Int} (h : EvD K te ρ (.ro ns)) (h1 : EvO K tl ρ lo) (h2 : EvO K th ρ hi) : EvF K (tSl (rSl K) te tl th) ρ (cutD (ns.map D.int) lo hi) := fun S H σ e v Q q =>
  h S H σ e v _ fun w S1 H1 x1 r1 => h1 S1 H1 σ x1.sub (v.mono x1.s) _ fun S2 H2 x2 => h2 S2 H2 σ x2.sub (v.mono (x1.s.trans x2.s)) _ fun S3 H3 x3 => by
    cases r1 with
    | ro ha =>
      refine .inl ⟨_, _, rfl, Evl.ex_l ((x2.s.trans x3.s).trans x3.sub) ha, fun p hp => ?_⟩
      exact q p _ S3 _ (((x1.trans x2).trans x3).trans (Ext.hid x3.sub hp)) (Evl.fresh_back ((x1.trans x2).trans x3).h hp) (sub_none x3.sub hp) upd_same ((RdL.ofInts ns).cut lo hi)
theorem ev_slT {te : TE} {tl th : TO} {ds : List D} {lo hi : Option Int} (h : EvD K te ρ (.tup ds)) (h1 : EvO K tl ρ lo) (h2 : EvO K th ρ hi) (hn : ¬ (HT.sIx ds.length 0 lo = 0 ∧ HT.sIx ds.length ds.length hi = ds.length)) : EvD K (tSl (rSl K) te tl th) ρ (.tup (cutD ds lo hi)) := fun S H σ e v Q q =>
  h S H σ e v _ fun w S1 H1 x1 r1 => h1 S1 H1 σ x1.sub (v.mono x1.s) _ fun S2 H2 x2 => h2 S2 H2 σ x2.sub (v.mono (x1.s.trans x2.s)) _ fun S3 H3 x3 => by
    cases r1 with
    | tup ha rl =>
      refine .inr ⟨_, _, rfl, Evl.st_of (x3.sub _ _ (x3.s _ _ (x2.s _ _ ha))), by rw [rl.length]; exact hn, fun p hp => ?_⟩
      exact q _ _ _ (((x1.trans x2).trans x3).trans (Ext.new x3.sub hp)) (.tup upd_same ((rl.cut lo hi).mono ((x2.s.trans x3.s).trans (Ex.new (sub_none x3.sub hp)))))
end
end Pl

/-! Values as plain data: walks, targets, list comprehensions. -/
namespace Pl
open PySem PySem.Spec PyProof.Rows L2
open Evl (Ex)

/-! ### slots, more -/
def setV : L2.St → List Nat → List V → L2.St
  | σ, i :: is, v :: vs => setV (σ.set i (some v)) is vs
  | σ, _, _ => σ
def setR : Rho → List (Nat × D) → Rho
  | ρ, p :: ps => setR (ρ.set p.1 (.k p.2)) ps
  | ρ, [] => ρ
def wipeR : Rho → List Nat → Rho
  | ρ, [] => ρ
  | ρ, v :: vs => (wipeR ρ vs).set v .u
section
variable {K : PySem.W.Frag} {S S' H H' : Hp} {σ : L2.St} {ρ : Rho}
theorem Env.set {i : Nat} {v : V} {d : D} (e : Env K S σ ρ) (r : Rd K S v d) : Env K S (σ.set i (some v)) (ρ.set i (.k d)) where
  len := by rw [List.length_set, List.length_set, e.len]
  val := fun j x h => by
    by_cases hj : i = j
    · subst hj
      by_cases hl : i < ρ.length
      · rw [List.getElem?_set_self hl] at h
        cases h
        exact ⟨v, List.getElem?_set_self (by rw [e.len]; exact hl), r⟩
      · rw [List.getElem?_eq_none (by rw [List.length_set]; omega)] at h
        cases h
    · rw [List.getElem?_set_ne hj] at h ⊢
      exact e.val j x h
theorem Env.setU {i : Nat} {v : Option V} (e : Env K S σ ρ) : Env K S (σ.set i v) (ρ.set i .u) where
  len := by rw [List.length_set, List.length_set, e.len]
  val := fun j x h => by
    by_cases hj : i = j
    · subst hj
      by_cases hl : i < ρ.length
      · rw [List.getElem?_set_self hl] at h
        cases h
      · rw [List.getElem?_eq_none (by rw [List.length_set]; omega)] at h
        cases h
    · rw [List.getElem?_set_ne hj] at h ⊢
      exact e.val j x h
theorem Env.setV : ∀ {ps : List (Nat × D)} {vs : List V} {σ : L2.St} {ρ : Rho}, Env K S σ ρ → RdL K S vs (ps.map (·.2)) → Env K S (Pl.setV σ (ps.map (·.1)) vs) (setR ρ ps)
  | [], _, _, _, e, .nil => e
  | p :: ps, _, _, _, e, .cons h r => Env.setV (ps := ps) (e.set h) r
theorem Env.wipe (e : Env K S σ ρ) : ∀ (vs : List Nat), Env K S (L2.wipe σ vs) (wipeR ρ vs)
  | [] => e
  | _ :: vs => (Env.wipe e vs).setU
theorem set_comm_none {σ : L2.St} {i j : Nat} {x : Option V} : (σ.set i x).set j none = if i = j then σ.set j none else (σ.set j none).set i x := by
  by_cases h : i = j
  · subst h
    rw [if_pos rfl, List.set_set]
  · rw [if_neg h, List.set_comm _ _ h]
theorem wipe_set {i : Nat} {x : Option V} : ∀ {vs : List Nat} {σ : L2.St}, i ∈ vs → L2.wipe (σ.set i x) vs = L2.wipe σ vs
  | v :: vs, σ, h => by
    show (L2.wipe (σ.set i x) vs).set v none = (L2.wipe σ vs).set v none
    by_cases hv : i ∈ vs
    · rw [wipe_set hv]
    · have e : i = v := by
        rcases List.mem_cons.mp h with h | h
        · exact h
        · exact absurd h hv
      subst e
      have z : ∀ (ws : List Nat) (σ : L2.St), i ∉ ws → L2.wipe (σ.set i x) ws = (L2.wipe σ ws).set i x := fun ws => by
        induction ws with
        | nil => intro σ _; rfl
        | cons w ws ih =>
          intro σ hw
          show (L2.wipe (σ.set i x) ws).set w none = ((L2.wipe σ ws).set w none).set i x
          have nw : i ≠ w := fun q => hw (by rw [q]; exact List.mem_cons_self)
          rw [ih σ fun h => hw (List.mem_cons_of_mem _ h), List.set_comm _ _ nw]
      rw [z vs σ hv, List.set_set]
theorem wipe_wipe (vs : List Nat) (σ : L2.St) : L2.wipe (L2.wipe σ vs) vs = L2.wipe σ vs := by
  have z : ∀ (ws : List Nat) (σ : L2.St), (∀ w ∈ ws, w ∈ vs) → L2.wipe (L2.wipe σ ws) vs = L2.wipe σ vs := fun ws => by
    induction ws with
    | nil => intro σ _; rfl
    | cons w ws ih =>
      intro σ h
      show L2.wipe ((L2.wipe σ ws).set w none) vs = L2.wipe σ vs
      rw [wipe_set (h w List.mem_cons_self), ih σ fun x hx => h x (List.mem_cons_of_mem _ hx)]
  exact z vs σ fun _ h => h
theorem wipe_setV {vs : List Nat} : ∀ {is : List Nat} {xs : List V} {σ : L2.St}, (∀ i ∈ is, i ∈ vs) → L2.wipe (Pl.setV σ is xs) vs = L2.wipe σ vs
  | [], _, _, _ => by rw [Pl.setV.eq_def]
  | _ :: _, [], _, _ => by rw [Pl.setV.eq_def]
  | i :: is, x :: xs, σ, h => by
    rw [Pl.setV.eq_def]
    dsimp only
    rw [wipe_setV fun j hj => h j (List.mem_cons_of_mem _ hj), wipe_set (h i List.mem_cons_self)]
end

/-! ### walks -/
section
variable (K : PySem.W.Frag)
structure Walks (J : It) (S : Hp) (ds : List D) : Prop where
  go : ∀ S' H' i, Ex S S' → Ex S' H' → i < ds.length → J.go i H'
  yld : ∀ S' H' i x H'' d, Ex S S' → Ex S' H' → ds[i]? = some d → J.yld i H' x H'' → ∃ S'', Ext S' H' S'' H'' ∧ Rd K S'' x d
  stop : ∀ S' H', Ex S S' → Ex S' H' → J.stop ds.length H'
def EvI (wi : TI) (ρ : Rho) (ds : List D) : Prop := ∀ S H σ, Ex S H → Env K S σ ρ → ∀ R : It → Hp → Prop, (∀ J S' H', Ext S H S' H' → Walks K J S' ds → R J H') → wi σ H R
/-- a target takes a datum apart: which slots it sets -/
def EvG (g : TG) (d : D) (ps : List (Nat × D)) : Prop := ∀ S H σ v, Ex S H → Rd K S v d → ∀ Q : L2.St → Hp → Prop, (∀ vs, RdL K S vs (ps.map (·.2)) → Q (setV σ (ps.map (·.1)) vs) H) → g v σ H Q
def EvGs (g : TGs) (ds : List D) (ps : List (Nat × D)) : Prop := ∀ S H σ vs, Ex S H → RdL K S vs ds → ∀ Q : L2.St → Hp → Prop, (∀ ws, RdL K S ws (ps.map (·.2)) → Q (setV σ (ps.map (·.1)) ws) H) → g vs σ H Q
end
section
variable {K : PySem.W.Frag} {ρ : Rho} {te : TE} {tA : TA}
theorem walks_list {S : Hp} {a : Addr} {xs : List V} {ds : List D} (h : S a = some (.lst xs)) (r : RdL K S xs ds) : Walks K (Itl K a) S ds where
  go := fun S' H' i e1 e2 hi => by
    have hx : i < xs.length := by rw [r.length]; exact hi
    exact ⟨xs, xs[i], Evl.sq_of (e2 _ _ (e1 _ _ h)), List.getElem?_eq_getElem hx⟩
  yld := fun S' H' i x H'' d e1 e2 hd y => by
    obtain ⟨rfl, y⟩ := y
    obtain ⟨v, h1, h2⟩ := r.get hd
    have := y xs (Evl.sq_of (e2 _ _ (e1 _ _ h)))
    rw [h1] at this
    cases this
    exact ⟨S', Ext.refl e2, h2.mono e1⟩
  stop := fun S' H' e1 e2 => ⟨xs, Evl.sq_of (e2 _ _ (e1 _ _ h)), by rw [r.length]; exact Nat.le_refl _⟩
theorem ei_list {tl : TE} {ds : List D} (h : EvD K tl ρ (.lst ds)) : EvI K (iList K tl) ρ ds := fun S H σ e v R q =>
  h S H σ e v _ fun w S1 H1 x1 r1 => by
    cases r1 with
    | lst ha rl => exact ⟨_, rfl, ⟨_, Evl.sq_of (x1.sub _ _ ha)⟩, q _ S1 H1 x1 (walks_list ha rl)⟩
theorem walks_ro {S : Hp} {a : Addr} {ns : List Int} (h : SqL K S a (ns.map V.int)) : Walks K (Itl K a) S (ns.map D.int) where
  go := fun S' H' i e1 e2 hi => by
    have hx : i < (ns.map V.int).length := by rw [List.length_map] at hi ⊢; exact hi
    exact ⟨_, (ns.map V.int)[i], Evl.ex_l (e1.trans e2) h, List.getElem?_eq_getElem hx⟩
  yld := fun S' H' i x H'' d e1 e2 hd y => by
    obtain ⟨rfl, y⟩ := y
    obtain ⟨v, h1, h2⟩ := (RdL.ofInts (K := K) (S := S') ns).get hd
    have := y _ (Evl.ex_l (e1.trans e2) h)
    rw [h1] at this
    cases this
    exact ⟨S', Ext.refl e2, h2⟩
  stop := fun S' H' e1 e2 => ⟨_, Evl.ex_l (e1.trans e2) h, by rw [List.length_map, List.length_map]; exact Nat.le_refl _⟩
theorem ei_ro {tl : TE} {ns : List Int} (h : EvD K tl ρ (.ro ns)) : EvI K (iList K tl) ρ (ns.map D.int) := fun S H σ e v R q =>
  h S H σ e v _ fun w S1 H1 x1 r1 => by
    cases r1 with
    | ro ha => exact ⟨_, rfl, ⟨_, Evl.ex_l x1.sub ha⟩, q _ S1 H1 x1 (walks_ro ha)⟩
theorem walks_tup {S : Hp} {a : Addr} {xs : List V} {ds : List D} (h : S a = some (.tup xs)) (r : RdL K S xs ds) : Walks K (Itt K a) S ds where
  go := fun S' H' i e1 e2 hi => by
    have hx : i < xs.length := by rw [r.length]; exact hi
    exact ⟨xs, xs[i], Evl.st_of (e2 _ _ (e1 _ _ h)), List.getElem?_eq_getElem hx⟩
  yld := fun S' H' i x H'' d e1 e2 hd y => by
    obtain ⟨rfl, y⟩ := y
    obtain ⟨v, h1, h2⟩ := r.get hd
    have := y xs (Evl.st_of (e2 _ _ (e1 _ _ h)))
    rw [h1] at this
    cases this
    exact ⟨S', Ext.refl e2, h2.mono e1⟩
  stop := fun S' H' e1 e2 => ⟨xs, Evl.st_of (e2 _ _ (e1 _ _ h)), by rw [r.length]; exact Nat.le_refl _⟩
theorem ei_tup {tl : TE} {ds : List D} (h : EvD K tl ρ (.tup ds)) : EvI K (iTup K tl) ρ ds := fun S H σ e v R q =>
  h S H σ e v _ fun w S1 H1 x1 r1 => by
    cases r1 with
    | tup ha rl => exact ⟨_, rfl, ⟨_, Evl.st_of (x1.sub _ _ ha)⟩, q _ S1 H1 x1 (walks_tup ha rl)⟩
/-- lo, lo + c, .. -/
def rngD (lo : Int) (n : Nat) (c : Int) : List D := (List.range n).map fun i : Nat => .int (lo + (i : Int) * c)
theorem rngD_len (lo : Int) (n : Nat) (c : Int) : (rngD lo n c).length = n := by simp [rngD]
theorem rngD_get {lo : Int} {n : Nat} {c : Int} {i : Nat} {d : D} (h : (rngD lo n c)[i]? = some d) : i < n ∧ d = .int (lo + (i : Int) * c) := by
  have hi : i < n := by
    have := (List.getElem?_eq_some_iff.mp h).1
    rw [rngD_len] at this
    exact this
  refine ⟨hi, ?_⟩
  unfold rngD at h
  rw [List.getElem?_map, List.getElem?_range hi] at h
  exact (Option.some.inj h).symm
theorem walks_rng {S : Hp} {lo : Int} {n : Nat} : Walks K (Itr lo n) S (rngD lo n 1) where
  go := fun S' H' i _ _ hi => by rw [rngD_len] at hi; exact hi
  yld := fun S' H' i x H'' d e1 e2 hd y => by
    obtain ⟨rfl, rfl⟩ := y
    obtain ⟨_, rfl⟩ := rngD_get hd
    rw [Int.mul_one]
    exact ⟨S', Ext.refl e2, .int _⟩
  stop := fun S' H' _ _ => by rw [rngD_len]; exact Nat.le_refl _
theorem ei_rng1 {j : Int} (h : EvA K tA ρ [.int j]) (hj : -100000 ≤ j ∧ j ≤ 100000) : EvI K (iRng1 tA) ρ (rngD 0 j.toNat 1) := fun S H σ e v R q =>
  h S H σ e v _ fun ws S1 H1 x1 r1 => by
    cases r1 with
    | cons h1 t1 =>
      cases t1
      cases h1
      exact ⟨j, rfl, by omega, by omega, q _ S1 H1 x1 walks_rng⟩
theorem ei_rng2 {i j : Int} (h : EvA K tA ρ [.int i, .int j]) (hj : -100000 ≤ i ∧ i ≤ 100000 ∧ -100000 ≤ j ∧ j ≤ 100000) : EvI K (iRng2 tA) ρ (rngD i (j - i).toNat 1) := fun S H σ e v R q =>
  h S H σ e v _ fun ws S1 H1 x1 r1 => by
    cases r1 with
    | cons h1 t1 =>
      cases t1 with
      | cons h2 t2 =>
        cases t2
        cases h1
        cases h2
        exact ⟨i, j, rfl, by omega, q _ S1 H1 x1 walks_rng⟩
theorem walks_rngC {S : Hp} {lo c : Int} {n : Nat} : Walks K (Itc lo c n) S (rngD lo n c) where
  go := fun S' H' i _ _ hi => by rw [rngD_len] at hi; exact hi
  yld := fun S' H' i x H'' d e1 e2 hd y => by
    obtain ⟨rfl, rfl⟩ := y
    obtain ⟨_, rfl⟩ := rngD_get hd
    exact ⟨S', Ext.refl e2, .int _⟩
  stop := fun S' H' _ _ => by rw [rngD_len]; exact Nat.le_refl _
theorem ei_rng3 {i j c : Int} {n : Nat} (h : EvA K tA ρ [.int i, .int j, .int c]) (hj : RgC i j c n) : EvI K (iRng3 tA) ρ (rngD i n c) := fun S H σ e v R q =>
  h S H σ e v _ fun ws S1 H1 x1 r1 => by
    cases r1 with
    | cons h1 t1 =>
      cases t1 with
      | cons h2 t2 =>
        cases t2 with
        | cons h3 t3 =>
          cases t3
          cases h1
          cases h2
          cases h3
          exact ⟨i, j, c, n, rfl, hj, q _ S1 H1 x1 walks_rngC⟩
/-- enumerate -/
def enumD (ds : List D) : List D := (List.range ds.length).map fun i : Nat => .tup [.int (i : Int), ds.getD i .non]
theorem enumD_len (ds : List D) : (enumD ds).length = ds.length := by simp [enumD]
theorem enumD_get {ds : List D} {i : Nat} {d : D} (h : (enumD ds)[i]? = some d) : ∃ x, ds[i]? = some x ∧ d = .tup [.int (i : Int), x] := by
  have hi : i < ds.length := by
    have := (List.getElem?_eq_some_iff.mp h).1
    rw [enumD_len] at this
    exact this
  refine ⟨ds[i], List.getElem?_eq_getElem hi, ?_⟩
  unfold enumD at h
  rw [List.getElem?_map, List.getElem?_range hi] at h
  have := (Option.some.inj h).symm
  rw [this]
  simp [hi]
theorem walks_enum {S : Hp} {a : Addr} {xs : List V} {ds : List D} (h : S a = some (.lst xs)) (r : RdL K S xs ds) : Walks K (Ite K a) S (enumD ds) where
  go := fun S' H' i e1 e2 hi => by
    have hx : i < xs.length := by rw [r.length]; rw [enumD_len] at hi; exact hi
    exact ⟨xs, xs[i], Evl.sq_of (e2 _ _ (e1 _ _ h)), List.getElem?_eq_getElem hx⟩
  yld := fun S' H' i x H'' d e1 e2 hd y => by
    obtain ⟨T, w, rfl, hT, rfl, y⟩ := y
    obtain ⟨z, hz, rfl⟩ := enumD_get hd
    obtain ⟨v, h1, h2⟩ := r.get hz
    have := y xs (Evl.sq_of (e2 _ _ (e1 _ _ h)))
    rw [h1] at this
    cases this
    exact ⟨_, Ext.new e2 hT, .tup upd_same (.cons (.int _) (.cons (h2.mono (e1.trans (Ex.new (sub_none e2 hT)))) .nil))⟩
  stop := fun S' H' e1 e2 => ⟨xs, Evl.sq_of (e2 _ _ (e1 _ _ h)), by rw [enumD_len, r.length]; exact Nat.le_refl _⟩
theorem ei_enum {ds : List D} (h : EvA K tA ρ [.lst ds]) : EvI K (iEnum K tA) ρ (enumD ds) := fun S H σ e v R q =>
  h S H σ e v _ fun ws S1 H1 x1 r1 => by
    cases r1 with
    | cons h1 t1 =>
      cases t1
      cases h1 with
      | lst ha rl => exact ⟨_, _, rfl, Evl.sq_of (x1.sub _ _ ha), q _ S1 H1 x1 (walks_enum ha rl)⟩
/-! ### targets -/
theorem eg_name {i : Nat} {d : D} : EvG K (gName i) d [(i, d)] := fun S H σ v e r Q q => q [v] (.cons r .nil)
theorem setV_append : ∀ {is js : List Nat} {vs ws : List V} {σ : L2.St}, vs.length = is.length → setV (setV σ is vs) js ws = setV σ (is ++ js) (vs ++ ws)
  | [], _, [], _, _, _ => by simp [setV]
  | i :: is, js, v :: vs, ws, σ, h => by
    show setV (setV (σ.set i (some v)) is vs) js ws = setV (σ.set i (some v)) (is ++ js) (vs ++ ws)
    exact setV_append (by simpa using h)
theorem egs_nil : EvGs K gNil [] [] := fun S H σ vs e r Q q => by
  cases r
  exact ⟨rfl, q [] .nil⟩
theorem egs_cons {g : TG} {gs : TGs} {d : D} {ds : List D} {ps qs : List (Nat × D)} (h : EvG K g d ps) (hs : EvGs K gs ds qs) : EvGs K (gCons g gs) (d :: ds) (ps ++ qs) := fun S H σ vs e r Q q => by
  cases r with
  | cons r1 r2 =>
    refine ⟨_, _, rfl, h S H σ _ e r1 _ fun ws rw1 => hs S H _ _ e r2 _ fun us ru => ?_⟩
    have := q (ws ++ us) (by rw [List.map_append]; exact rw1.append ru)
    rw [setV_append (by rw [rw1.length, List.length_map, List.length_map]), ← List.map_append]
    exact this
theorem eg_tup {n : Nat} {gs : TGs} {ds : List D} {ps : List (Nat × D)} (h : EvGs K gs ds ps) (hn : ds.length = n) : EvG K (gTup K n gs) (.tup ds) ps := fun S H σ v e r Q q => by
  cases r with
  | tup ha rl => exact ⟨_, _, rfl, Evl.st_of (e _ _ ha), by rw [rl.length]; exact hn, h S H σ _ e rl Q q⟩
theorem EvG.to {g : TG} {d : D} {ps qs : List (Nat × D)} (h : EvG K g d ps) (e : ps = qs) : EvG K g d qs := e ▸ h

/-! ### list comprehensions -/
theorem evF_lc {wi : TI} {g : TG} {tt : TT} {te : TE} {vs : List Nat} {ds : List D} (hi : EvI K wi ρ ds) (ps : D → List (Nat × D)) (f : D → Bool) (e : D → D) (hg : ∀ d ∈ ds, EvG K g d (ps d)) (hs : ∀ d ∈ ds, ∀ p ∈ ps d, p.1 ∈ vs)
    (ht : ∀ d ∈ ds, EvT K tt (setR (wipeR ρ vs) (ps d)) (f d)) (he : ∀ d ∈ ds, f d = true → EvD K te (setR (wipeR ρ vs) (ps d)) (e d)) (hl : ds.length ≤ 50000) : EvF K (tLc wi g tt te vs) ρ ((ds.filter f).map e) := fun S H σ ee v Q q =>
  hi S H σ ee v _ fun J S1 H1 x1 wk => fun Dl hD => by
    refine ⟨fun i m H' => m = ds.length - i ∧ i ≤ ds.length ∧ ∃ S' us, Ext S1 H1 S' H' ∧ S' Dl = none ∧ H' Dl = some (.lst us) ∧ RdL K S' us (((ds.take i).filter f).map e),
      ⟨ds.length, by simp, Nat.zero_le _, S1, [], Ext.hid x1.sub hD, sub_none x1.sub hD, upd_same, .nil⟩, ?_⟩
    rintro i m H' ⟨rfl, hi, S', us, x, nS, hus, rl⟩
    by_cases hlt : i < ds.length
    · refine .inr ⟨wk.go S' H' i x.s x.sub hlt, fun H2 => ∃ S2 us2, Ext S1 H1 S2 H2 ∧ S2 Dl = none ∧ H2 Dl = some (.lst us2) ∧ RdL K S2 us2 (((ds.take (i + 1)).filter f).map e), fun H2 z => ⟨ds.length - (i + 1), by omega, rfl, hlt, z⟩, fun xv H'' y => ?_⟩
      have hd : ds[i]? = some ds[i] := List.getElem?_eq_getElem hlt
      have hm : ds[i] ∈ ds := List.getElem_mem hlt
      obtain ⟨S2, x2, r2⟩ := wk.yld S' H' i xv H'' ds[i] x.s x.sub hd y
      have tk : ds.take (i + 1) = ds.take i ++ [ds[i]] := (List.take_append_getElem hlt).symm
      refine hg _ hm S2 H'' _ xv x2.sub r2 _ fun ws rws => ⟨?_, ?_⟩
      · rw [wipe_setV fun j hj => by
          obtain ⟨p, hp, rfl⟩ := List.mem_map.mp hj
          exact hs _ hm p hp, wipe_wipe]
      · have ev : Env K S2 (setV (L2.wipe σ vs) ((ps ds[i]).map (·.1)) ws) (setR (wipeR ρ vs) (ps ds[i])) := (((v.mono ((x1.s.trans x.s).trans x2.s)).wipe vs)).setV rws
        have nl : ∀ {S3 H3 : Hp}, Ext S2 H'' S3 H3 → S3 Dl = none := fun x3 => x3.dis Dl (x2.dis Dl nS (by rw [hus]; exact fun z => nomatch z)) (by rw [x2.h Dl _ hus]; exact fun z => nomatch z)
        refine ht _ hm S2 H'' _ x2.sub ev _ fun S3 H3 x3 => ?_
        cases hf : f ds[i] with
        | false =>
          refine ⟨S3, us, (x.trans x2).trans x3, nl x3, (x2.trans x3).h _ _ hus, ?_⟩
          rw [tk, List.filter_append, List.filter_cons, hf]
          simp only [Bool.false_eq_true, if_false, List.filter_nil, List.append_nil]
          exact rl.mono (x2.trans x3).s
        | true =>
          refine he _ hm hf S3 H3 _ x3.sub (ev.mono x3.s) _ fun yv S4 H4 x4 r4 => ?_
          have hu4 := (x2.trans (x3.trans x4)).h _ _ hus
          have n4 := nl (x3.trans x4)
          have ul : us.length ≤ ds.length := by
            rw [rl.length, List.length_map]
            exact Nat.le_trans (List.length_filter_le _ _) (by rw [List.length_take]; omega)
          refine ⟨us, hu4, Evl.sz_lt (by omega), S4, us ++ [yv], ?_, n4, upd_same, ?_⟩
          · have xx := (x.trans x2).trans (x3.trans x4)
            refine ⟨xx.s, fun a o ha => ?_, fun a o ha => ?_, xx.dis⟩
            · rw [upd_ne (ne_of_none ha hD)]
              exact xx.h a o ha
            · rw [upd_ne (fun z => by rw [z, n4] at ha; cases ha)]
              exact xx.sub a o ha
          · rw [tk, List.filter_append, List.filter_cons, hf]
            simp only [if_true, List.filter_nil]
            rw [List.map_append]
            exact (rl.mono (x2.trans (x3.trans x4)).s).append (.cons r4 .nil)
    · have e0 : i = ds.length := by omega
      subst e0
      rw [List.take_length] at rl
      exact .inl ⟨wk.stop S' H' x.s x.sub, q Dl us S' H' (x1.trans x) (Evl.fresh_back x1.h hD) nS hus rl⟩
end
end Pl

/-! Values as plain data: statements. A slot holds a datum (k), a list that is this def's own and may grow (o), or nothing that is known (u). -/
namespace Pl
open PySem PySem.Spec PyProof.Rows L2
open Evl (Ex)

section
variable (K : PySem.W.Frag)
structure Stt (S0 H0 : Hp) (ρ : Rho) (S H : Hp) (σ : L2.St) : Prop where
  ext : Ext S0 H0 S H
  env : Env K S σ ρ
  own : ∀ (i : Nat) (ds : List D), ρ[i]? = some (.o ds) → ∃ p vs, σ[i]? = some (some (.ref p)) ∧ H0 p = none ∧ S p = none ∧ H p = some (.lst vs) ∧ RdL K S vs ds
  apart : ∀ (i j : Nat) (ds es : List D) (p : Addr), ρ[i]? = some (.o ds) → ρ[j]? = some (.o es) → σ[i]? = some (some (.ref p)) → σ[j]? = some (some (.ref p)) → i = j
structure FE where
  nx : Rho → Prop := fun _ => False
  rt : D → Prop := fun _ => False
  rf : List D → Prop := fun _ => False
  bk : Rho → Prop := fun _ => False
  ct : Rho → Prop := fun _ => False
structure Acc (S0 H0 S : Hp) (F : FE) (Dd : Ends) : Prop where
  nx : ∀ ρ S' H' σ, F.nx ρ → Ex S S' → Stt K S0 H0 ρ S' H' σ → Dd.nx σ H'
  bk : ∀ ρ S' H' σ, F.bk ρ → Ex S S' → Stt K S0 H0 ρ S' H' σ → Dd.bk σ H'
  ct : ∀ ρ S' H' σ, F.ct ρ → Ex S S' → Stt K S0 H0 ρ S' H' σ → Dd.ct σ H'
  rt : ∀ d v S' H', F.rt d → Ext S0 H0 S' H' → Rd K S' v d → Dd.rt v H'
  rf : ∀ es p vs S' H', F.rf es → Ext S0 H0 S' H' → H0 p = none → S' p = none → H' p = some (.lst vs) → RdL K S' vs es → Dd.rt (.ref p) H'
/-- from slots ρ the statement comes to one of the ends F -/
def T (t : TS) (ρ : Rho) (F : FE) : Prop := ∀ S0 H0 S H σ Dd, Stt K S0 H0 ρ S H σ → Acc K S0 H0 S F Dd → t Dd σ H
end

section
variable {K : PySem.W.Frag} {S0 H0 S H S' H' : Hp} {σ : L2.St} {ρ ρ' : Rho} {F G : FE} {t u : TS} {te : TE} {d : D} {es ds : List D} {Dd : Ends} {i : Nat}
theorem Acc.mono (e : Ex S S') (a : Acc K S0 H0 S F Dd) : Acc K S0 H0 S' F Dd :=
  ⟨fun ρ S2 H2 σ h x s => a.nx ρ S2 H2 σ h (e.trans x) s, fun ρ S2 H2 σ h x s => a.bk ρ S2 H2 σ h (e.trans x) s, fun ρ S2 H2 σ h x s => a.ct ρ S2 H2 σ h (e.trans x) s, a.rt, a.rf⟩
/-- further on, all slots as they are -/
theorem Stt.go (s : Stt K S0 H0 ρ S H σ) (x : Ext S H S' H') : Stt K S0 H0 ρ S' H' σ where
  ext := s.ext.trans x
  env := s.env.mono x.s
  own := fun i ds h => by
    obtain ⟨p, vs, h1, h2, h3, h4, h5⟩ := s.own i ds h
    exact ⟨p, vs, h1, h2, x.dis p h3 (by rw [h4]; exact fun z => nomatch z), x.h _ _ h4, h5.mono x.s⟩
  apart := s.apart
theorem get_set {α : Type} {l : List α} {i j : Nat} {a b : α} (h : (l.set i a)[j]? = some b) : (i = j ∧ i < l.length ∧ a = b) ∨ (i ≠ j ∧ l[j]? = some b) := by
  by_cases hj : i = j
  · subst hj
    by_cases hl : i < l.length
    · rw [List.getElem?_set_self hl] at h
      exact .inl ⟨rfl, hl, Option.some.inj h⟩
    · rw [List.getElem?_eq_none (by rw [List.length_set]; omega)] at h
      cases h
  · rw [List.getElem?_set_ne hj] at h
    exact .inr ⟨hj, h⟩
theorem Stt.set {v : V} (s : Stt K S0 H0 ρ S H σ) (r : Rd K S v d) : Stt K S0 H0 (ρ.set i (.k d)) S H (σ.set i (some v)) where
  ext := s.ext
  env := s.env.set r
  own := fun j ds h => by
    rcases get_set h with ⟨_, _, e⟩ | ⟨hj, h⟩
    · cases e
    · rw [List.getElem?_set_ne hj]
      exact s.own j ds h
  apart := fun j k ds es p h1 h2 e1 e2 => by
    rcases get_set h1 with ⟨_, _, e⟩ | ⟨hj, h1⟩
    · cases e
    · rcases get_set h2 with ⟨_, _, e⟩ | ⟨hk, h2⟩
      · cases e
      · rw [List.getElem?_set_ne hj] at e1
        rw [List.getElem?_set_ne hk] at e2
        exact s.apart j k ds es p h1 h2 e1 e2
theorem Stt.setV : ∀ {ps : List (Nat × D)} {vs : List V} {σ : L2.St} {ρ : Rho}, Stt K S0 H0 ρ S H σ → RdL K S vs (ps.map (·.2)) → Stt K S0 H0 (setR ρ ps) S H (Pl.setV σ (ps.map (·.1)) vs)
  | [], _, _, _, s, .nil => s
  | p :: ps, _, _, _, s, .cons h r => Stt.setV (ps := ps) (s.set h) r
theorem Stt.setO {p : Addr} {vs : List V} (s : Stt K S0 H0 ρ S H σ) (h0 : H0 p = none) (n : S p = none) (h : H p = some (.lst vs)) (r : RdL K S vs es)
    (new : ∀ j ds, j ≠ i → ρ[j]? = some (.o ds) → σ[j]? ≠ some (some (.ref p))) : Stt K S0 H0 (ρ.set i (.o es)) S H (σ.set i (some (.ref p))) where
  ext := s.ext
  env := ⟨by rw [List.length_set, List.length_set, s.env.len], fun j x h => by
    rcases get_set h with ⟨_, _, e⟩ | ⟨hj, h⟩
    · cases e
    · rw [List.getElem?_set_ne hj]
      exact s.env.val j x h⟩
  own := fun j ds hh => by
    rcases get_set hh with ⟨rfl, hl, e⟩ | ⟨hj, hh⟩
    · cases e
      exact ⟨p, vs, List.getElem?_set_self (by rw [s.env.len]; exact hl), h0, n, h, r⟩
    · rw [List.getElem?_set_ne hj]
      exact s.own j ds hh
  apart := fun j k ds es' q h1 h2 e1 e2 => by
    rcases get_set h1 with ⟨rfl, hl, e⟩ | ⟨hj, h1⟩
    · rcases get_set h2 with ⟨rfl, _, _⟩ | ⟨hk, h2⟩
      · rfl
      · rw [List.getElem?_set_self (by rw [s.env.len]; exact hl)] at e1
        cases e1
        rw [List.getElem?_set_ne hk] at e2
        exact absurd e2 (new k _ (Ne.symm hk) h2)
    · rw [List.getElem?_set_ne hj] at e1
      rcases get_set h2 with ⟨rfl, hl, e⟩ | ⟨hk, h2⟩
      · rw [List.getElem?_set_self (by rw [s.env.len]; exact hl)] at e2
        cases e2
        exact absurd e1 (new j _ (Ne.symm hj) h1)
      · rw [List.getElem?_set_ne hk] at e2
        exact s.apart j k ds es' q h1 h2 e1 e2
/-- a list that is no more changed -/
theorem Stt.freeze (s : Stt K S0 H0 ρ S H σ) (h : ρ[i]? = some (.o ds)) : ∃ S', Ex S S' ∧ Stt K S0 H0 (ρ.set i (.k (.lst ds))) S' H σ := by
  obtain ⟨p, vs, h1, h2, h3, h4, h5⟩ := s.own i ds h
  have x : Ext S0 H0 (upd S p (.lst vs)) H := s.ext.tell h3 h2 h4
  have e : Ex S (upd S p (.lst vs)) := Ex.new h3
  refine ⟨_, e, x, ⟨by rw [List.length_set, s.env.len], fun j y hh => ?_⟩, fun j es hh => ?_, fun j k a b q e1 e2 e3 e4 => ?_⟩
  · rcases get_set hh with ⟨rfl, _, e'⟩ | ⟨_, hh⟩
    · cases e'
      exact ⟨_, h1, .lst upd_same (h5.mono e)⟩
    · obtain ⟨w, w1, w2⟩ := s.env.val j y hh
      exact ⟨w, w1, w2.mono e⟩
  · rcases get_set hh with ⟨_, _, e'⟩ | ⟨hj, hh⟩
    · cases e'
    · obtain ⟨q, us, g1, g2, g3, g4, g5⟩ := s.own j es hh
      refine ⟨q, us, g1, g2, ?_, g4, g5.mono e⟩
      have nq : q ≠ p := fun z => hj (s.apart i j ds es p h hh h1 (by rw [← z]; exact g1))
      rw [upd_ne nq]
      exact g3
  · rcases get_set e1 with ⟨_, _, e'⟩ | ⟨_, e1⟩
    · cases e'
    · rcases get_set e2 with ⟨_, _, e'⟩ | ⟨_, e2⟩
      · cases e'
      · exact s.apart j k a b q e1 e2 e3 e4
/-! ### rules -/
theorem T.freeze (h : ρ[i]? = some (.o ds)) (k : T K t (ρ.set i (.k (.lst ds))) F) : T K t ρ F := fun S0 H0 S H σ Dd s a => by
  obtain ⟨S', e, s'⟩ := s.freeze h
  exact k S0 H0 S' H σ Dd s' (a.mono e)
theorem T.weak (k : T K t ρ F) (n : ∀ ρ, F.nx ρ → G.nx ρ) (r : ∀ d, F.rt d → G.rt d) (f : ∀ d, F.rf d → G.rf d) (b : ∀ ρ, F.bk ρ → G.bk ρ) (c : ∀ ρ, F.ct ρ → G.ct ρ) : T K t ρ G := fun S0 H0 S H σ Dd s a =>
  k S0 H0 S H σ Dd s ⟨fun ρ S' H' σ h => a.nx ρ S' H' σ (n ρ h), fun ρ S' H' σ h => a.bk ρ S' H' σ (b ρ h), fun ρ S' H' σ h => a.ct ρ S' H' σ (c ρ h), fun d v S' H' h => a.rt d v S' H' (r d h), fun es p vs S' H' h => a.rf es p vs S' H' (f es h)⟩
theorem T.seqP {N : Rho → Prop} (h : T K t ρ { F with nx := N }) (k : ∀ ρ', N ρ' → T K u ρ' F) : T K (tSeq t u) ρ F := fun S0 H0 S H σ Dd s a =>
  h S0 H0 S H σ { Dd with nx := u Dd } s ⟨fun ρ' S' H' σ' n e s' => k ρ' n S0 H0 S' H' σ' Dd s' (a.mono e), a.bk, a.ct, a.rt, a.rf⟩
theorem T.seq {ρ1 : Rho} (h : T K t ρ { F with nx := fun r => r = ρ1 }) (k : T K u ρ1 F) : T K (tSeq t u) ρ F := T.seqP h fun _ e => e ▸ k
theorem T.next (h : F.nx ρ) : T K tNext ρ F := fun S0 H0 S H σ Dd s a => a.nx ρ S H σ h (Ex.refl S) s
theorem T.brk (h : F.bk ρ) : T K tBreak ρ F := fun S0 H0 S H σ Dd s a => a.bk ρ S H σ h (Ex.refl S) s
theorem T.cont (h : F.ct ρ) : T K tCont ρ F := fun S0 H0 S H σ Dd s a => a.ct ρ S H σ h (Ex.refl S) s
theorem T.asgG {g : TG} {ps : List (Nat × D)} (h : EvD K te ρ d) (hg : EvG K g d ps) (k : F.nx (setR ρ ps)) : T K (tAsg te g) ρ F := fun S0 H0 S H σ Dd s a =>
  h S H σ s.ext.sub s.env _ fun v S' H' x r => hg S' H' σ v x.sub r _ fun vs rv => a.nx _ S' H' _ k x.s ((s.go x).setV rv)
theorem T.asg (h : EvD K te ρ d) (k : F.nx (ρ.set i (.k d))) : T K (tAsg te (gName i)) ρ F := T.asgG h eg_name k
theorem T.asgF (h : EvF K te ρ es) (k : F.nx (ρ.set i (.o es))) : T K (tAsg te (gName i)) ρ F := fun S0 H0 S H σ Dd s a =>
  h S H σ s.ext.sub s.env _ fun p vs S' H' x hp sp h' r => a.nx _ S' H' _ k x.s ((s.go x).setO (Evl.fresh_back s.ext.h hp) sp h' r fun j ds _ hh e => by
    obtain ⟨q, us, g1, g2, g3, g4, g5⟩ := s.own j ds hh
    rw [g1] at e
    cases e
    rw [hp] at g4
    cases g4)
theorem T.drop (h : EvD K te ρ d) (k : F.nx ρ) : T K (tDrop te) ρ F := fun S0 H0 S H σ Dd s a =>
  h S H σ s.ext.sub s.env _ fun v S' H' x r => a.nx _ S' H' _ k x.s (s.go x)
theorem T.ret (h : EvD K te ρ d) (k : F.rt d) : T K (tRet te) ρ F := fun S0 H0 S H σ Dd s a =>
  h S H σ s.ext.sub s.env _ fun v S' H' x r => a.rt d v S' H' k (s.ext.trans x) r
theorem T.retN (k : F.rt .non) : T K tRetN ρ F := fun S0 H0 S H σ Dd s a => a.rt .non .non S H k s.ext .non
theorem T.retF (h : EvF K te ρ es) (k : F.rf es) : T K (tRet te) ρ F := fun S0 H0 S H σ Dd s a =>
  h S H σ s.ext.sub s.env _ fun p vs S' H' x hp sp h' r => a.rf es p vs S' H' k (s.ext.trans x) (Evl.fresh_back s.ext.h hp) sp h' r
theorem T.retO (h : ρ[i]? = some (.o es)) (k : F.rf es) : T K (tRet (tVar i)) ρ F := fun S0 H0 S H σ Dd s a => by
  obtain ⟨p, vs, h1, h2, h3, h4, h5⟩ := s.own i es h
  exact ⟨_, h1, a.rf es p vs S H k s.ext h2 h3 h4 h5⟩
theorem T.ifS {c : TT} {b : Bool} (h : EvT K c ρ b) (h1 : b = true → T K t ρ F) (h2 : b = false → T K u ρ F) : T K (tIfS c t u) ρ F := fun S0 H0 S H σ Dd s a =>
  h S H σ s.ext.sub s.env _ fun S' H' x => by
    cases b with
    | true =>
      show t Dd σ H'
      exact h1 rfl S0 H0 S' H' σ Dd (s.go x) (a.mono x.s)
    | false =>
      show u Dd σ H'
      exact h2 rfl S0 H0 S' H' σ Dd (s.go x) (a.mono x.s)
/-- for: the word by the turn and the slots -/
theorem T.for {wi : TI} {g : TG} (hi : EvI K wi ρ ds) (Pv : Nat → Rho → Prop) (h0 : Pv 0 ρ) (hs : ∀ (i : Nat) (d : D) (ρ' : Rho), ds[i]? = some d → Pv i ρ' → ∃ ps, EvG K g d ps ∧ T K t (setR ρ' ps) { F with nx := Pv (i + 1), ct := Pv (i + 1), bk := F.nx })
    (hd : ∀ ρ', Pv ds.length ρ' → F.nx ρ') : T K (tFor wi g t) ρ F := fun S0 H0 S H σ Dd s a =>
  hi S H σ s.ext.sub s.env _ fun J S1 H1 x1 wk => by
    refine ⟨fun i m σ' H' => m = ds.length - i ∧ i ≤ ds.length ∧ ∃ ρ' S', Pv i ρ' ∧ Ex S1 S' ∧ Stt K S0 H0 ρ' S' H' σ', ⟨ds.length, by simp, Nat.zero_le _, ρ, S1, h0, Ex.refl S1, s.go x1⟩, ?_⟩
    rintro i m σ' H' ⟨rfl, hi, ρ', S', p, e, s'⟩
    by_cases hlt : i < ds.length
    · have hdd : ds[i]? = some ds[i] := List.getElem?_eq_getElem hlt
      obtain ⟨ps, hg, ht⟩ := hs i ds[i] ρ' hdd p
      refine .inr ⟨wk.go S' H' i e s'.ext.sub hlt, fun σ2 H2 => ∃ ρ2 S2, Pv (i + 1) ρ2 ∧ Ex S1 S2 ∧ Stt K S0 H0 ρ2 S2 H2 σ2, fun σ2 H2 z => ⟨ds.length - (i + 1), by omega, rfl, hlt, z⟩, fun xv H'' y => ?_⟩
      obtain ⟨S2, x2, r2⟩ := wk.yld S' H' i xv H'' ds[i] e s'.ext.sub hdd y
      refine hg S2 H'' σ' xv x2.sub r2 _ fun ws rw => ?_
      have e2 : Ex S1 S2 := e.trans x2.s
      refine ht S0 H0 S2 H'' _ _ ((s'.go x2).setV rw) ⟨fun ρ3 S3 H3 σ3 n e3 s3 => ⟨ρ3, S3, n, e2.trans e3, s3⟩, fun ρ3 S3 H3 σ3 n e3 s3 => a.nx ρ3 S3 H3 σ3 n ((x1.s.trans e2).trans e3) s3, fun ρ3 S3 H3 σ3 n e3 s3 => ⟨ρ3, S3, n, e2.trans e3, s3⟩, a.rt, a.rf⟩
    · have e0 : i = ds.length := by omega
      subst e0
      exact .inl ⟨wk.stop S' H' e s'.ext.sub, a.nx ρ' S' H' σ' (hd ρ' p) (x1.s.trans e) s'⟩
theorem T.while {c : TT} (Pv : Nat → Rho → Prop) {m0 : Nat} (h0 : Pv m0 ρ) (hs : ∀ (m : Nat) (ρ' : Rho), Pv m ρ' → ∃ b, EvT K c ρ' b ∧ (b = true → T K t ρ' { F with nx := fun r => ∃ m', m' < m ∧ Pv m' r, ct := fun r => ∃ m', m' < m ∧ Pv m' r, bk := F.nx }) ∧ (b = false → F.nx ρ')) :
    T K (tWhile c t) ρ F := fun S0 H0 S H σ Dd s a => by
  refine ⟨fun m σ' H' => ∃ ρ' S', Pv m ρ' ∧ Ex S S' ∧ Stt K S0 H0 ρ' S' H' σ', ⟨m0, ρ, S, h0, Ex.refl S, s⟩, ?_⟩
  rintro m σ' H' ⟨ρ', S', p, e, s'⟩
  obtain ⟨b, hb, h1, h2⟩ := hs m ρ' p
  refine hb S' H' σ' s'.ext.sub s'.env _ fun S2 H2 x2 => ?_
  cases b with
  | true =>
    refine ⟨fun σ3 H3 => ∃ m', m' < m ∧ ∃ ρ3 S3, Pv m' ρ3 ∧ Ex S S3 ∧ Stt K S0 H0 ρ3 S3 H3 σ3, fun σ3 H3 z => z, ?_⟩
    have e2 := e.trans x2.s
    exact h1 rfl S0 H0 S2 H2 σ' _ (s'.go x2) ⟨fun ρ3 S3 H3 σ3 ⟨m', l, n⟩ e3 s3 => ⟨m', l, ρ3, S3, n, e2.trans e3, s3⟩, fun ρ3 S3 H3 σ3 n e3 s3 => a.nx ρ3 S3 H3 σ3 n (e2.trans e3) s3, fun ρ3 S3 H3 σ3 ⟨m', l, n⟩ e3 s3 => ⟨m', l, ρ3, S3, n, e2.trans e3, s3⟩, a.rt, a.rf⟩
  | false => exact a.nx ρ' S2 H2 σ' (h2 rfl) (e.trans x2.s) (s'.go x2)
/-! ### own lists -/
/-- own list at slot i gets the content es -/
theorem Stt.put {p : Addr} {vs ws : List V} (s : Stt K S0 H0 ρ S H σ) (h : ρ[i]? = some (.o ds)) (hp : σ[i]? = some (some (.ref p))) (r : RdL K S ws es) : Stt K S0 H0 (ρ.set i (.o es)) S (upd H p (.lst ws)) σ := by
  obtain ⟨q, us, h1, h2, h3, h4, h5⟩ := s.own i ds h
  rw [hp] at h1
  cases h1
  have hi : i < ρ.length := (List.getElem?_eq_some_iff.mp h).1
  have nx : ∀ {a : Addr} {o : HO}, S a = some o → a ≠ p := fun e z => by rw [z, h3] at e; cases e
  refine ⟨⟨s.ext.s, fun a o e => ?_, fun a o e => ?_, s.ext.dis⟩, ⟨by rw [List.length_set, s.env.len], fun j y hh => ?_⟩, fun j fs hh => ?_, fun j k a b q e1 e2 e3 e4 => ?_⟩
  · rw [upd_ne fun z => by rw [z, h2] at e; cases e]
    exact s.ext.h a o e
  · rw [upd_ne (nx e)]
    exact s.ext.sub a o e
  · rcases get_set hh with ⟨_, _, e'⟩ | ⟨_, hh⟩
    · cases e'
    · exact s.env.val j y hh
  · rcases get_set hh with ⟨rfl, _, e'⟩ | ⟨hj, hh⟩
    · cases e'
      exact ⟨p, ws, hp, h2, h3, upd_same, r⟩
    · obtain ⟨q, us', g1, g2, g3, g4, g5⟩ := s.own j fs hh
      refine ⟨q, us', g1, g2, g3, ?_, g5⟩
      have nq : q ≠ p := fun z => hj (s.apart i j ds fs p h hh hp (by rw [← z]; exact g1))
      rw [upd_ne nq]
      exact g4
  · have z : ∀ {j : Nat} {a : List D}, (ρ.set i (.o es))[j]? = some (.o a) → ∃ a', ρ[j]? = some (.o a') := fun {j a} e => by
      rcases get_set e with ⟨rfl, _, _⟩ | ⟨_, e⟩
      · exact ⟨ds, h⟩
      · exact ⟨a, e⟩
    obtain ⟨a', e1'⟩ := z e1
    obtain ⟨b', e2'⟩ := z e2
    exact s.apart j k a' b' q e1' e2' e3 e4
theorem T.append (h : ρ[i]? = some (.o ds)) (he : EvD K te ρ d) (hl : ds.length < 100000) (k : F.nx (ρ.set i (.o (ds ++ [d])))) : T K (tDrop (tBM K "list" rAppend (tVar i) (tCons te tNil))) ρ F := fun S0 H0 S H σ Dd s a => by
  obtain ⟨p, vs, h1, h2, h3, h4, h5⟩ := s.own i ds h
  refine ⟨_, h1, .inl ⟨rfl, _, Evl.sq_of h4⟩, ?_⟩
  refine he S H σ s.ext.sub s.env _ fun v S' H' x r => ?_
  have s' := s.go x
  refine ⟨p, vs, v, rfl, rfl, x.h _ _ h4, Evl.sz_lt (by rw [h5.length]; exact hl), ?_⟩
  exact a.nx _ S' _ σ k x.s (s'.put (vs := vs) h h1 ((h5.mono x.s).append (.cons r .nil)))
/-! ### a look at own lists: all that is told is flat -/
def Sl.see : Sl → Sl
  | .o ds => .k (.lst ds)
  | s => s
def see (ρ : Rho) : Rho := ρ.map Sl.see
def D.flat : D → Bool
  | .non => true | .bl _ => true | .int _ => true | .str _ => true | .adr _ => true | .ty _ => true
  | _ => false
theorem Rd.flat {v : V} {S2 : Hp} (h : Rd K S v d) (f : d.flat = true) : Rd K S2 v d := by
  cases h <;> first | (simp [D.flat] at f; done) | constructor
theorem RdL.flat {S2 : Hp} : ∀ {vs : List V} {ds : List D}, RdL K S vs ds → (∀ d ∈ ds, d.flat = true) → RdL K S2 vs ds
  | _, _, .nil, _ => .nil
  | _, _, .cons h r, f => .cons (h.flat (f _ List.mem_cons_self)) (RdL.flat r fun d hd => f d (List.mem_cons_of_mem _ hd))
def Owns (ρ : Rho) (σ : L2.St) (p : Addr) : Prop := ∃ (i : Nat) (ds : List D), ρ[i]? = some (.o ds) ∧ σ[i]? = some (some (.ref p))
open Classical in
noncomputable def withOwn (ρ : Rho) (σ : L2.St) (S H : Hp) : Hp := fun a => match S a with
  | some o => some o
  | none => if Owns ρ σ a then H a else none
open Classical in
noncomputable def woOwn (ρ : Rho) (σ : L2.St) (S : Hp) : Hp := fun a => if Owns ρ σ a then none else S a
theorem Stt.see (s : Stt K S0 H0 ρ S H σ) : Ex (withOwn ρ σ S H) H ∧ Env K (withOwn ρ σ S H) σ (see ρ) ∧ ∀ S' H', Ext (withOwn ρ σ S H) H S' H' → Ex S (woOwn ρ σ S') ∧ Stt K S0 H0 ρ (woOwn ρ σ S') H' σ := by
  have e1 : Ex S (withOwn ρ σ S H) := fun a o e => by unfold withOwn; rw [e]
  have e2 : Ex (withOwn ρ σ S H) H := fun a o e => by
    unfold withOwn at e
    cases q : S a with
    | some w => rw [q] at e; cases e; exact s.ext.sub a _ q
    | none =>
      rw [q] at e
      dsimp only at e
      split at e
      · exact e
      · cases e
  have no : ∀ a, Owns ρ σ a → S a = none := fun a ⟨i, ds, h1, h2⟩ => by
    obtain ⟨p, vs, g1, g2, g3, g4, g5⟩ := s.own i ds h1
    rw [g1] at h2
    cases h2
    exact g3
  refine ⟨e2, ⟨?_, fun i d h => ?_⟩, fun S' H' x => ?_⟩
  · unfold Pl.see; rw [List.length_map]; exact s.env.len
  · unfold Pl.see at h
    rw [List.getElem?_map] at h
    cases q : ρ[i]? with
    | none => rw [q] at h; cases h
    | some z =>
      rw [q] at h
      cases z with
      | u => cases h
      | k d' =>
        cases h
        obtain ⟨v, h1, h2⟩ := s.env.val i _ q
        exact ⟨v, h1, h2.mono e1⟩
      | o ds =>
        cases h
        obtain ⟨p, vs, g1, g2, g3, g4, g5⟩ := s.own i ds q
        refine ⟨_, g1, .lst ?_ (g5.mono e1)⟩
        unfold withOwn
        rw [g3]
        dsimp only
        rw [if_pos ⟨i, ds, q, g1⟩]
        exact g4
  · have eS : Ex S (woOwn ρ σ S') := fun a o e => by
      unfold woOwn
      rw [if_neg fun z => by rw [no a z] at e; cases e]
      exact x.s a o (e1 a o e)
    refine ⟨eS, ⟨s.ext.s.trans eS, s.ext.h.trans x.h, fun a o e => ?_, fun a h1 h2 => ?_⟩, s.env.mono eS, fun i ds h => ?_, s.apart⟩
    · unfold woOwn at e
      split at e
      · cases e
      · exact x.sub a o e
    · unfold woOwn
      split
      · rfl
      · rename_i hn
        refine x.dis a ?_ fun z => ?_
        · unfold withOwn
          rw [s.ext.dis a h1 h2]
          dsimp only
          rw [if_neg hn]
        · cases q : H0 a with
          | none => exact h2 q
          | some o => rw [s.ext.h a o q] at z; cases z
    · obtain ⟨p, vs, g1, g2, g3, g4, g5⟩ := s.own i ds h
      refine ⟨p, vs, g1, g2, ?_, x.h _ _ g4, g5.mono eS⟩
      unfold woOwn
      rw [if_pos ⟨i, ds, h, g1⟩]
theorem T.ifV {c : TT} {b : Bool} (h : EvT K c (see ρ) b) (h1 : b = true → T K t ρ F) (h2 : b = false → T K u ρ F) : T K (tIfS c t u) ρ F := fun S0 H0 S H σ Dd s a => by
  obtain ⟨e, v, w⟩ := s.see
  refine h _ H σ e v _ fun S' H' x => ?_
  obtain ⟨eS, s'⟩ := w S' H' x
  cases b with
  | true =>
    show t Dd σ H'
    exact h1 rfl S0 H0 _ H' σ Dd s' (a.mono eS)
  | false =>
    show u Dd σ H'
    exact h2 rfl S0 H0 _ H' σ Dd s' (a.mono eS)
theorem T.asgV {g : TG} {ps : List (Nat × D)} (h : EvD K te (see ρ) d) (hg : EvG K g d ps) (hf : ∀ p ∈ ps, p.2.flat = true) (k : F.nx (setR ρ ps)) : T K (tAsg te g) ρ F := fun S0 H0 S H σ Dd s a => by
  obtain ⟨e, v, w⟩ := s.see
  refine h _ H σ e v _ fun x S' H' xx r => hg S' H' σ x xx.sub r _ fun vs rv => ?_
  obtain ⟨eS, s'⟩ := w S' H' xx
  exact a.nx _ _ H' _ k eS (s'.setV (rv.flat fun d hd => by
    obtain ⟨p, hp, rfl⟩ := List.mem_map.mp hd
    exact hf p hp))
theorem T.retV (h : EvD K te (see ρ) d) (hf : d.flat = true) (k : F.rt d) : T K (tRet te) ρ F := fun S0 H0 S H σ Dd s a => by
  obtain ⟨e, v, w⟩ := s.see
  refine h _ H σ e v _ fun x S' H' xx r => ?_
  obtain ⟨eS, s'⟩ := w S' H' xx
  exact a.rt d x _ H' k s'.ext (r.flat hf)
theorem T.appendV (h : ρ[i]? = some (.o ds)) (he : EvD K te (see ρ) d) (hf : d.flat = true) (hl : ds.length < 100000) (k : F.nx (ρ.set i (.o (ds ++ [d])))) : T K (tDrop (tBM K "list" rAppend (tVar i) (tCons te tNil))) ρ F := fun S0 H0 S H σ Dd s a => by
  obtain ⟨e, v, w⟩ := s.see
  obtain ⟨p, vs, h1, h2, h3, h4, h5⟩ := s.own i ds h
  refine ⟨_, h1, .inl ⟨rfl, _, Evl.sq_of h4⟩, ?_⟩
  refine he _ H σ e v _ fun x S' H' xx r => ?_
  obtain ⟨eS, s'⟩ := w S' H' xx
  refine ⟨p, vs, x, rfl, rfl, xx.h _ _ h4, Evl.sz_lt (by rw [h5.length]; exact hl), ?_⟩
  exact a.nx _ _ _ σ k eS (s'.put (vs := vs) h h1 ((h5.mono eS).append (.cons (r.flat hf) .nil)))
/-- xs[k] = e -/
theorem T.setV {ti : TE} {k j : Nat} (h : ρ[i]? = some (.o ds)) (he : EvD K te (see ρ) d) (hf : d.flat = true) (hi : EvD K ti (see ρ) (.int (j : Int))) (hj : j < ds.length) (k : F.nx (ρ.set i (.o (ds.set j d)))) : T K (tAsg te (gSub (tVar i) ti rSetL)) ρ F := fun S0 H0 S H σ Dd s a => by
  obtain ⟨e, v, w⟩ := s.see
  obtain ⟨p, vs, h1, h2, h3, h4, h5⟩ := s.own i ds h
  refine he _ H σ e v _ fun x S1 H1 x1 r1 => ⟨_, h1, ?_⟩
  refine hi S1 H1 σ x1.sub (v.mono x1.s) _ fun y S2 H2 x2 r2 => ?_
  cases r2
  obtain ⟨eS, s'⟩ := w S2 H2 (x1.trans x2)
  refine ⟨p, vs, _, j, rfl, rfl, (x1.trans x2).h _ _ h4, ?_, ?_⟩
  · unfold ixN
    rw [h5.length]
    have hz : ¬ ((j : Int) < 0) := by omega
    first
      | (rw [if_neg hz]; simp [hj]; done)
      | (simp [hj]; done)
      | (simp [hz, hj]; omega)
  · exact a.nx _ _ _ σ k eS (s'.put (vs := vs) h h1 (RdL.set (r1.flat hf) _ (h5.mono eS)))
end

/-! ### a def -/
def startR (n : Nat) (ds : List D) : Rho := ds.map Sl.k ++ List.replicate (n - ds.length) .u
section
variable {K : PySem.W.Frag} {t : TS} {N : List Str}
theorem stt_start {S H : Hp} {vs : List V} {ds : List D} (e : Ex S H) (r : RdL K S vs ds) : Stt K S H (startR N.length ds) S H (L2.start N vs) where
  ext := Ext.refl e
  env := ⟨by unfold L2.start startR; rw [List.length_append, List.length_append, List.length_map, List.length_map, List.length_replicate, List.length_replicate, r.length], fun i d h => by
    unfold startR at h
    unfold L2.start
    by_cases hi : i < ds.length
    · rw [List.getElem?_append_left (by rw [List.length_map]; exact hi), List.getElem?_map, List.getElem?_eq_getElem hi] at h
      cases h
      obtain ⟨v, h1, h2⟩ := r.get (List.getElem?_eq_getElem hi)
      exact ⟨v, by rw [List.getElem?_append_left (by rw [List.length_map, r.length]; exact hi), List.getElem?_map, h1]; rfl, h2⟩
    · rw [List.getElem?_append_right (by rw [List.length_map]; omega), List.getElem?_replicate] at h
      split at h <;> cases h⟩
  own := fun i ds' h => by
    unfold startR at h
    by_cases hi : i < ds.length
    · rw [List.getElem?_append_left (by rw [List.length_map]; exact hi), List.getElem?_map, List.getElem?_eq_getElem hi] at h
      cases h
    · rw [List.getElem?_append_right (by rw [List.length_map]; omega), List.getElem?_replicate] at h
      split at h <;> cases h
  apart := fun i j a b p h => by
    unfold startR at h
    by_cases hi : i < ds.length
    · rw [List.getElem?_append_left (by rw [List.length_map]; exact hi), List.getElem?_map, List.getElem?_eq_getElem hi] at h
      cases h
    · rw [List.getElem?_append_right (by rw [List.length_map]; omega), List.getElem?_replicate] at h
      split at h <;> cases h
/-- a def that hands back the datum d -/
def FE.tell (d : D) : FE := { nx := fun _ => d = .non, rt := fun x => x = d, rf := fun es => .lst es = d }
def FE.own (es : List D) : FE := { rf := fun x => x = es }
theorem T.fin {Rel : List D → D → Prop} {vs : List V} {H : Hp} {Q : VK} {E : XK} (h : spD K Rel vs H Q E) (k : ∀ ds d, Rel ds d → T K t (startR N.length ds) (.tell d)) : t { nx := fun _ H' => Q .non H', rt := Q } (L2.start N vs) H := by
  obtain ⟨S, ds, d, e, r, rel, q⟩ := h
  refine k ds d rel S H S H _ _ (stt_start e r) ⟨fun ρ S' H' σ n _ s => ?_, fun _ _ _ _ z => z.elim, fun _ _ _ _ z => z.elim, fun x v S' H' n x' r' => ?_, fun es p ws S' H' n x' h0 sp hp r' => ?_⟩
  · have n : d = .non := n
    subst n
    exact q .non S' H' s.ext .non
  · have n : x = d := n
    subst n
    exact q v S' H' x' r'
  · have n : D.lst es = d := n
    subst n
    exact q (.ref p) (upd S' p (.lst ws)) H' (x'.tell sp h0 hp) (.lst upd_same (r'.mono (Ex.new sp)))
theorem T.finF {Rel : List D → List D → Prop} {vs : List V} {H : Hp} {Q : VK} {E : XK} (h : spF K Rel vs H Q E) (k : ∀ ds es, Rel ds es → T K t (startR N.length ds) (.own es)) : t { nx := fun _ H' => Q .non H', rt := Q } (L2.start N vs) H := by
  obtain ⟨S, ds, es, e, r, rel, q⟩ := h
  refine k ds es rel S H S H _ _ (stt_start e r) ⟨fun _ _ _ _ z => z.elim, fun _ _ _ _ z => z.elim, fun _ _ _ _ z => z.elim, fun _ _ _ _ z => z.elim, fun fs p ws S' H' n x' h0 sp hp r' => ?_⟩
  have n : fs = es := n
  subst n
  exact q p ws S' H' x' h0 sp hp r'
theorem spD_len {Rel : List D → D → Prop} {n : Nat} (h : ∀ ds d, Rel ds d → ds.length = n) : ∀ vs H Q E, spD K Rel vs H Q E → vs.length = n := fun vs H Q E ⟨S, ds, d, _, r, rel, _⟩ => r.length.trans (h ds d rel)
theorem spF_len {Rel : List D → List D → Prop} {n : Nat} (h : ∀ ds d, Rel ds d → ds.length = n) : ∀ vs H Q E, spF K Rel vs H Q E → vs.length = n := fun vs H Q E ⟨S, ds, d, _, r, rel, _⟩ => r.length.trans (h ds d rel)
end
end Pl

/-! set(xs) of whole numbers, sorted(set(xs)). -/
namespace Sx
open PySem PySem.Spec PyProof.Rows L2

theorem int_of : ∀ {us : List Value} {ns : List Int}, IntsAre us ns → ∀ (j : Nat) (u : Value), us[j]? = some u → ∃ tk, u = .int (ns.getD j 0) tk := fun h j u e => IntsAre.int_at h j u e
theorem ints_len : ∀ {us : List Value} {ns : List Int}, IntsAre us ns → us.length = ns.length
  | _, _, .nil => rfl
  | _, _, .cons _ _ h => congrArg (· + 1) (ints_len h)
section
variable {prog : Program} {w : World} {A : Around} {R : Result → Shared → Prop} {I : Addr} {fp wr : List Addr} {G : Array GenState → Array GenState → Prop} {n : Nat} {P : Nat → Value → Prop} {St : Nat → Shared → Prop}
/-- what is in the set behind j turns -/
def Got (w : World) (h : Heap) (S : Addr) (ns : List Int) (j : Nat) : Prop := ∃ (T : Int → Bool) (m : Nat), SetR w h S T m ∧ m ≤ j ∧ ∀ k, T k = true ↔ k ∈ ns.take j
theorem Got.at {h h' : Heap} {S : Addr} {ns : List Int} {j : Nat} (g : Got w h S ns j) (k : ∀ o, h.get? S = some o → h'.get? S = some o) : Got w h' S ns j := by
  obtain ⟨T, m, r, x⟩ := g
  exact ⟨T, m, r.at k, x⟩
theorem fill (W : WalksS prog w A.in1 I fp wr G n P St) (S : Addr) (hS : S ∉ fp) (ns : List Int) (hz : ns.length = n) (hr : n + 2 < scanBound) (hv : ∀ j u, P j u → ∃ tk, u = .int (ns.getD j 0) tk) :
    ∀ (left j : Nat) (s : Shared), n - j = left → j ≤ n → St j s → Got w s.heap S ns j → (∀ s2, Moved (S :: wr) G s s2 → Got w s2.heap S ns n → R (.ok (.ret .none)) s2) →
      codeAny (model prog w) A (.builtin "set.update.loop" ⟨[.ref S, .ref I], []⟩) R s := by
  have nw : S ∉ wr := fun q => hS (W.sub _ q)
  have up : ∀ b ∈ wr, b ∈ S :: wr := fun b q => List.mem_cons_of_mem _ q
  intro left
  induction left with
  | zero =>
    intro j s hk hj st g k
    obtain rfl : j = n := by omega
    refine codeAny_builtin PyProof.Rows.F.entry_set_update_loop ?_
    rw [Around.under_plainId PyProof.Rows.F.plain_set_update_loop _]
    show wpAny _ A.in1 (pyNext (.ref I) >>= _) _ _ s
    refine wpAny_bind (W.done s _ _ st fun s2 mv => ?_)
    show wpAny _ A.in1 (ret Value.none) _ _ s2
    exact wpAny_pure (k s2 (mv.mono up) (g.at fun o q => mv.heap S _ nw q))
  | succ left ih =>
    intro j s hk hj st g k
    have lt : j < n := by omega
    refine codeAny_builtin PyProof.Rows.F.entry_set_update_loop ?_
    rw [Around.under_plainId PyProof.Rows.F.plain_set_update_loop _]
    show wpAny _ A.in1 (pyNext (.ref I) >>= _) _ _ s
    refine wpAny_bind (W.item j s _ _ lt st fun u s2 pu st2 mv => ?_)
    obtain ⟨tk, rfl⟩ := hv j u pu
    have g2 : Got w s2.heap S ns j := g.at fun o q => mv.heap S _ nw q
    obtain ⟨T, m, r, hm, hT⟩ := g2
    show wpAny _ A.in1 (holding [Value.int (ns.getD j 0) tk] (setAdd S (.int (ns.getD j 0) tk)) >>= _) _ _ s2
    refine wpAny_bind (wpAny_holding ?_)
    unfold setAdd
    refine wpAny_holding (wpAny_bind ((intKind prog w).pyHash (k := ns.getD j 0) (intKind_is prog w _ tk) ?_))
    refine setR_add_hashed (P := prog) (s := { s2 with toks := s2.toks + 1 }) r (by omega) fun h3 sb r3 => ?_
    have g3 : Got w h3 S ns (j + 1) := by
      refine ⟨_, _, r3, ?_, fun q => ?_⟩
      · split <;> omega
      · have e1 : ns.take (j + 1) = ns.take j ++ [ns.getD j 0] := by
          have hl : j < ns.length := by omega
          rw [← List.take_append_getElem hl]
          simp [List.getD, hl]
        rw [Bool.or_eq_true, hT q, decide_eq_true_eq, e1, List.mem_append, List.mem_singleton]
    refine wpAny_pure ⟨plainId_quiet PyProof.Rows.F.plain_set_update_loop _, ih (j + 1) _ (by omega) lt (W.frame _ s2 _ _ st2 (Nat.le_succ _) fun b hb o q => ?_) g3 fun s4 mv4 g4 => ?_⟩
    · rw [sb.2 b fun z : b = S => hS (z ▸ hb)]
      exact q
    · refine k s4 (Moved.trans W.gtrans ((mv.mono up).then_heap (Nat.le_succ _) fun b o hb q => ?_) mv4) g4
      rw [sb.2 b fun z : b = S => hb (by rw [z]; exact List.mem_cons_self)]
      exact q
end
section
variable {P : Program} {w : World} {A : Around} {E : Value → Shared → Prop} {s : Shared}
abbrev freshSet (w : World) : Obj := { cls := .type "set", dict := none, data := .set #[] 0 (.fresh 0 0 (!w.params.followText "set-order")) }
theorem new_one (a : Value) {Q : Value → Shared → Prop} (h : Q (.ref s.heap.objs.size) { s with heap := s.heap.push (freshSet w) }) : codeAny (model P w) A (.call (.builtin "set.__new__") ⟨[.type "set", a], []⟩) (wants Q E) s := by
  refine codeAny_of_tree ?_
  show wpAny _ A.in1 (do checkBuiltinCall "set.__new__" ⟨[.type "set", a], []⟩; again (.builtin "set.__new__" ⟨[.type "set", a], []⟩)) _ _ s
  refine wpAny_bind (wpAny_of_eq (F.newCall_set_1 a) (wpAny_pure ⟨plainId_quiet F.plain_set_new _, codeAny_builtin F.entry_set_new ?_⟩))
  rw [Around.under_plainId F.plain_set_new _]
  unfold Builtin.«set.__new__» Builtin.Frozenset.newClass
  have sub := sub_set_self
  obtain ⟨hp, g, d, tk, os⟩ := s
  dsimp only
  wp_walk
  refine wpAny_askSetting (wpAny_pure ?_)
  dsimp only
  simp only [newObj]
  exact wpAny_bind (wpAny_alloc (wpAny_pure (wpAny_pure h)))
set_option maxHeartbeats 8000000 in
theorem set_of {l : Addr} {items : Array Value} {ns : List Int} {Q : Value → Shared → Prop} (hh : A.handled = none) (hl : s.heap.IsList l items) (hi : IntsAre items.toList ns) (hn : ns.length ≤ 1000)
    (h : ∀ (h2 : Heap) (tk : Nat), Got w h2 s.heap.objs.size ns ns.length → (∀ b o, b < s.heap.objs.size → s.heap.get? b = some o → h2.get? b = some o) → Q (.ref s.heap.objs.size) { s with heap := h2, toks := tk }) :
    wpAny (model P w) A (call (.type "set") [.ref l]) Q E s := by
  obtain ⟨c, tl, hmro⟩ := PySem.F.called_set.mro
  have made := PySem.F.called_set.made
  have sub := PySem.F.called_set.sub
  refine wpAny_call (codeAny_of_tree ?_)
  show wpAny _ _ (callAny (.type "set") _) _ _ _
  refine wpAny_pure ⟨Code.quiet_builtin _ (by decide +kernel), codeAny_builtin PySem.F.entry_type_call ?_⟩
  rw [Around.under_plain (weight_type_call_type "set" [.ref l] []) rfl]
  have y1 := PySem.F.called_set.notType
  have y2 := PySem.F.called_set.canCreate
  have y3 := PySem.F.typeCall_set_1 (.ref l)
  repeat (any_goals (first | assumption | wp_step))
  refine codeAny_mono (new_one (.ref l) (E := E) (Q := fun obj s₁ => obj = .ref s.heap.objs.size ∧ s₁ = { s with heap := s.heap.push (freshSet w) }) ⟨rfl, rfl⟩) fun r s₁ hr => ?_
  cases r with
  | error e => exact hr
  | ok fl =>
    cases fl with
    | ret obj =>
      obtain ⟨rfl, rfl⟩ := hr
      have gS : (s.heap.push (freshSet w)).get? s.heap.objs.size = some (freshSet w) := Heap.get?_push_size _ rfl
      have hT : Shared.TypeIs { s with heap := s.heap.push (freshSet w) } (.ref s.heap.objs.size) "set" := ⟨_, gS, rfl⟩
      have z1 := PySem.F.called_set.init.lookup
      have z2 := PySem.F.called_set.init.bind (.ref s.heap.objs.size)
      repeat (any_goals (first | assumption | wp_step))
      refine codeAny_mono (codeAny_call_builtin (R := wants (fun r s₂ => r = .none ∧ ∃ h2 tk, s₂ = { s with heap := h2, toks := tk } ∧ Got w h2 s.heap.objs.size ns ns.length ∧
          (∀ b o, b < s.heap.objs.size → s.heap.get? b = some o → h2.get? b = some o)) E) PySem.F.called_set.init.plain PySem.F.entry_set_init (check_set_init_1 hT ?_)) fun r₂ s₂ hr₂ => ?_
      · obtain ⟨ol, hol, hcl, nl, hdl⟩ := hl
        obtain ⟨ocls, odict, odata, oslots⟩ := ol
        simp only at hcl hdl
        subst hcl
        subst hdl
        have hol2 : (s.heap.push (freshSet w)).get? l = some { cls := .type "list", dict := odict, data := .seq items nl, slots := oslots } := Heap.get?_push_of_some _ hol
        have n1 := PySem.F.sub_list_set
        have n2 := PySem.F.sub_list_frozenset
        have n3 : (Value.type "list" == Value.type "dict") = false := by decide
        have hl2 : (s.heap.push (freshSet w)).IsList l items := ⟨_, hol2, rfl, nl, rfl⟩
        unfold Builtin.«set.__init__» noKeywords Builtin.Frozenset.updateFrom
        generalize gPI : pyIter = PI
        wp_walk
        subst gPI
        refine wpAny_pyIter_list hl2 (wpAny_bind (wpAny_runValue ?_))
        have lS : l < s.heap.objs.size := Heap.lt_size hol
        have hd3 : A.in1.in1.in1.handled = none := by simp [hh]
        have nI : l ≠ (s.heap.push (freshSet w)).objs.size := by rw [Heap.size_push]; exact Nat.ne_of_lt (Nat.lt_succ_of_lt lS)
        have nF : s.heap.objs.size ∉ [(s.heap.push (freshSet w)).objs.size, l] := by
          rw [Heap.size_push]
          simp only [List.mem_cons, List.mem_singleton, List.not_mem_nil, or_false, not_or]
          exact ⟨Nat.ne_of_lt (Nat.lt_succ_self _), Nat.ne_of_gt lS⟩
        have hsz : ns.length = items.size := by rw [← ints_len hi, Array.length_toList]
        have hval : ∀ (j : Nat) (u : Value), items[j]? = some u → ∃ tk, u = .int (ns.getD j 0) tk := fun j u q => int_of hi j u (by rw [Array.getElem?_toList]; exact q)
        refine fill ((Walks.list hd3 _ l nI items).toS) s.heap.objs.size nF ns hsz (by unfold scanBound; omega) hval (items.size - 0) 0 _ (by omega) (Nat.zero_le _) ⟨⟨_, Heap.get?_push_size _ rfl, rfl, rfl⟩, (hl2.push _)⟩ ?g0 ?gR
        case g0 =>
          refine ⟨fun _ => false, 0, (setR_fresh w).at fun o q => Heap.get?_push_of_some _ q, Nat.le_refl _, fun k => ?_⟩
          simp
        case gR =>
          intro s2 mv g2
          obtain ⟨h2, gg, dd, tk2, os2⟩ := s2
          have eg : gg = s.gens := mv.gens
          have ed : dd = s.drawn := mv.drawn
          have eo : os2 = s.os := mv.os
          subst eg
          subst ed
          subst eo
          show wpAny _ _ _ _ _ _
          refine wpAny_pure ?_
          show wpAny _ _ (ret Value.none) _ _ _
          refine wpAny_pure ⟨rfl, h2, tk2, rfl, by rw [hsz]; exact g2, fun b o hb q => ?_⟩
          have b1 : b ≠ s.heap.objs.size := Nat.ne_of_lt hb
          have b2 : b ≠ (s.heap.push (freshSet w)).objs.size := by rw [Heap.size_push]; exact Nat.ne_of_lt (Nat.lt_succ_of_lt hb)
          refine mv.heap b o ?_ (Heap.get?_push_of_some _ (Heap.get?_push_of_some _ q))
          simp only [List.mem_cons, List.mem_singleton, List.not_mem_nil, or_false, not_or]
          exact ⟨b1, b2⟩
      · cases r₂ with
        | error e => exact hr₂
        | ok fl₂ =>
          cases fl₂ with
          | ret r =>
            obtain ⟨rfl, h2, tk, rfl, g2, k2⟩ := hr₂
            repeat (any_goals (first | assumption | wp_step))
            exact h _ _ g2 k2
          | _ => exact hr₂.elim
    | _ => exact hr.elim
end
/-- strictly rising lists with the same members are one -/
theorem rise_one : ∀ {xs ys : List Int}, xs.Pairwise (· < ·) → ys.Pairwise (· < ·) → (∀ k, k ∈ xs ↔ k ∈ ys) → xs = ys
  | [], [], _, _, _ => rfl
  | [], y :: ys, _, _, h => absurd ((h y).mpr List.mem_cons_self) (by simp)
  | x :: xs, [], _, _, h => absurd ((h x).mp List.mem_cons_self) (by simp)
  | x :: xs, y :: ys, hx, hy, h => by
    rw [List.pairwise_cons] at hx hy
    have e : x = y := by
      have h1 := (h x).mp List.mem_cons_self
      have h2 := (h y).mpr List.mem_cons_self
      rcases List.mem_cons.mp h1 with q | q
      · exact q
      · rcases List.mem_cons.mp h2 with q2 | q2
        · exact q2.symm
        · have := hy.1 x q
          have := hx.1 y q2
          omega
    subst e
    rw [rise_one hx.2 hy.2 fun k => ⟨fun q => ?_, fun q => ?_⟩]
    · rcases List.mem_cons.mp ((h k).mp (List.mem_cons_of_mem _ q)) with z | z
      · subst z
        exact absurd (hx.1 k q) (by omega)
      · exact z
    · rcases List.mem_cons.mp ((h k).mpr (List.mem_cons_of_mem _ q)) with z | z
      · subst z
        exact absurd (hy.1 k q) (by omega)
      · exact z
end Sx

/-! The rules for set(xs), sorted(set(xs)) over the data. -/
namespace Sx
open PySem PySem.Spec PyProof.Rows L2
/-- set(xs), xs a list of whole numbers: its members, their number -/
def rSetOf (K : PySem.W.Frag) (w : World) : List V → Hp → VK → Prop := fun vs H Q => ∃ (a : Addr) (ns : List Int), vs = [V.ref a] ∧ SqL K H a (ns.map V.int) ∧ ns.length ≤ 1000 ∧
  ∀ (T : Int → Bool) (ks : List Int) (p : Addr), H p = none → ks.Nodup → (∀ k, T k = true ↔ k ∈ ks) → (∀ k, k ∈ ks ↔ k ∈ ns) → Q (.ref p) (upd H p (SetO w p T ks.length))
theorem cr_setOf {X : Cx} (hc : X.calm = true) : CallR X (.type "set") (rSetOf X.K X.w) := by
  intro pins s σ H vs us Q I r h
  obtain ⟨a, ns, rfl, hq, hl, q⟩ := h
  rw [Vals.ref1 r]
  obtain ⟨its, rv, pl, hz⟩ := I.list hq
  refine set_of (I.ok.hd hc) pl.isList (by simpa using intsAre_of rv) hl fun h2 tk g k => ?_
  obtain ⟨T, m, R, _, hT⟩ := g
  have hn : H s.heap.objs.size = none := I.hok.fresh (Nat.le_refl _)
  have R2 := R
  obtain ⟨o, es, ep, t, ho, hx, hd, ge, nd, hm, hb, hf, hsz, rest⟩ := R2
  have em : (es.toList.map keyOf).length = m := by rw [List.length_map, Array.length_toList]; exact hsz
  have J : Inv X pins σ (upd H s.heap.objs.size (SetO X.w s.heap.objs.size T m)) { s with heap := h2, toks := tk } := I.laid (fun b o e => k b o (Heap.lt_size e) e) (Nat.le_refl _) (setO_new R)
  rw [← em] at J
  refine ⟨.ref s.heap.objs.size, _, J, rfl, q T (es.toList.map keyOf) _ hn nd hm fun k => ?_⟩
  rw [← hm k, hT k, List.take_length]
end Sx
namespace Pl
open PySem PySem.Spec PyProof.Rows L2
open Evl (Ex)
variable {K : PySem.W.Frag} {ρ : Rho} {te : TE}
/-- sorted(set(xs)): ms, which rises and has the same members -/
theorem evF_sortedSet {w : World} {ns ms : List Int} (h : EvD K te ρ (.lst (ns.map D.int))) (hl : ns.length ≤ 1000) (hp : ms.Pairwise (· < ·)) (hm : ∀ k, k ∈ ms ↔ k ∈ ns) (h64 : ms.length < 64) :
    EvF K (tCB (rSortedSet w) (tCons (tCB (Sx.rSetOf K w) (tCons te tNil)) tNil)) ρ (ms.map D.int) := fun S H σ e v Q q =>
  h S H σ e v _ fun u S1 H1 x1 r1 => by
    cases r1 with
    | lst ha rl =>
      have z := rl.ints
      subst z
      refine ⟨_, ns, rfl, Evl.sq_of (x1.sub _ _ ha), hl, fun T ks p hp' nd hT hk => ?_⟩
      have nm : ms.Nodup := hp.imp fun a => by omega
      have el : ks.length = ms.length := Nat.le_antisymm (List.Nodup.length_le_of_subset nd fun k hk' => (hm k).mpr ((hk k).mp hk')) (List.Nodup.length_le_of_subset nm fun k hk' => (hk k).mpr ((hm k).mp hk'))
      refine ⟨p, T, ks.length, rfl, upd_same, by omega, fun ys p2 py my ly hp2 => ?_⟩
      have ey : ys = ms := Sx.rise_one py hp fun k => by rw [my k, hT k, hk k, hm k]
      subst ey
      have x2 : Ext S H S1 (upd H1 p (SetO w p T ks.length)) := x1.trans (Ext.hid x1.sub hp')
      exact q p2 _ S1 _ (x2.trans (Ext.hid x2.sub hp2)) (Evl.fresh_back x2.h hp2) (sub_none x2.sub hp2) upd_same (RdL.ofInts ys)
end Pl

/-! Rules with the written part named; a def by its promise; more of what expressions tell. -/
namespace Pl
open PySem PySem.Spec PyProof.Rows L2
open Evl (Ex)

/-! ### the written part by name -/
section
variable {X : Cx} {K : PySem.W.Frag} {a b e : Expr} {ta tb te : TE} {pos : Pos}
theorem ok_plus (h : X.K = K) : OpR X (binaryOp .Add) (rPlus K) := by subst h; exact op_plus
theorem ok_ix (h : X.K = K) : IxR X (rIx K) := by subst h; exact ix_seq
theorem ok_sl (h : X.K = K) : SlR X (rSl K) := by subst h; exact sl_any
theorem ok_eq (h : X.K = K) (hu : X.A.units + 64 < cLine) : OpR X (compareOp .Eq) (rEqD K) := by subst h; exact op_eqD hu
theorem ok_ne (h : X.K = K) (hu : X.A.units + 64 < cLine) : OpR X (compareOp .NotEq) (rNeD K) := by subst h; exact op_neD hu
theorem ok_in (h : X.K = K) : OpR X (compareOp .In) (rIn K false) := by subst h; exact op_in_seq
theorem ok_ni (h : X.K = K) : OpR X (compareOp .NotIn) (rIn K true) := by subst h; exact op_notIn_seq
theorem ok_len (h : X.K = K) : CallR X (.builtin "len") (rLen K) := by subst h; exact cr_len
theorem ok_list (h : X.K = K) : CallR X (.type "list") (rListOf K) := by subst h; exact cr_listOf
theorem ok_all (h : X.K = K) (hc : X.calm = true) : CallR X (.builtin "all") (rAll K) := by subst h; exact cr_all hc
theorem ok_isi (h : X.K = K) : CallR X (.builtin "isinstance") (rIsi K) := by subst h; exact call_isi
theorem ok_set {w : World} (h : X.K = K) (hw : X.w = w) (hc : X.calm = true) : CallR X (.type "set") (Sx.rSetOf K w) := by subst h; subst hw; exact Sx.cr_setOf hc
theorem ok_sset {w : World} (hw : X.w = w) (hc : X.calm = true) : CallR X (.builtin "sorted") (rSortedSet w) := by subst hw; exact cr_sortedSet hc
theorem ok_tup {es : List Expr} {k n : Nat} {t : TGs} (hK : X.K = K) (hc : X.calm = true) (h : PGs X es t) (hn : (assignEach es X.env).length = n := by rfl) (hst : (assignEach es X.env).findIdx? (·.1) = none := by rfl) : PG X (.Tuple es k pos) (gTup K n t) := by
  subst hK
  exact pg_tup hc h hn hst
theorem ok_ilist {tg : Expr} (hK : X.K = K) (h : PE X e te) : PI X tg e (iList K te) := by subst hK; exact pi_list h
theorem ok_itup {tg : Expr} (hK : X.K = K) (h : PE X e te) : PI X tg e (iTup K te) := by subst hK; exact pi_tup h
theorem ok_ienum {p pos tpos : Pos} {elts : List Expr} {kk : Nat} {tA : TA} (hK : X.K = K) (hg : Gl X "enumerate") (hm : X.mg "enumerate" = none) (ha : PA X [e] tA) (hs : starEach [e] X.env = [(false, eval e X.env)] := by rfl) :
    PI X (.Tuple elts kk tpos) (.Call (.Name "enumerate" p) [e] [] pos) (iEnum K tA) := by subst hK; exact pi_enum hg hm ha hs
end
/-! ### a def by its promise -/
section
variable (P : Program) (w : World) (K : PySem.W.Frag) (mg : Str → Option Value) (base : Heap) (CX : CXT)
def Cal (k : Nat) (x : Str) (ps : List Str) (sp : Sp) : Prop := ∃ f fd, FnOk P w K mg base CX k f fd ps sp ∧ mg x = some (.ref f) ∧ PySem.W.keepIn K (.ref f) = true ∧ Binds K fd ps []
end
theorem pe_cal {X : Cx} {CX : CXT} {k j : Nat} {x : Str} {ps : List Str} {sp : Sp} {E : XK} {e : Expr} {es : List Expr} {pos p : Pos} {t : TA} (C : Cal X.prog X.w X.K X.mg X.base CX k x ps sp) (hr : Room j X.A) (hk : k ≤ j) (hx : Passes CX X E) (ha : PA X (e :: es) t)
    (hg : Gl X x := by rfl) (hdb : (x == ("__debug__" : Str)) = false := by decide) (he : starEach (e :: es) X.env = (false, eval e X.env) :: starEach es X.env := by rfl) (hpl : (backTo pos (starEach es X.env)).any (·.1) = false := by rfl) :
    PE X (.Call (.Name x p) (e :: es) [] pos) (tCall sp [] E t) := by
  obtain ⟨f, fd, F, hm, kp, hb⟩ := C
  exact pe_call F (hr.mono hk) hg hm kp hb .nil hx ha hdb he hpl
section
variable {K : PySem.W.Frag} {ρ : Rho} {ta tb tc te : TE} {x y z : D} {r r' : R2}
theorem ev_chain {a b : Bool} (ha : EvD K ta ρ x) (hb : EvD K tb ρ y) (hr : RV K r x y (.bl a)) (hc : a = true → ∃ z, EvD K tc ρ z ∧ RV K r' y z (.bl b)) : EvD K (tChain r r' ta tb tc) ρ (.bl (a && b)) := fun S H σ e v Q q =>
  ha S H σ e v _ fun w1 S1 H1 x1 r1 => hb S1 H1 σ x1.sub (v.mono x1.s) _ fun w2 S2 H2 x2 r2 => hr S2 H2 w1 w2 x2.sub (r1.mono x2.s) r2 _ fun w3 S3 H3 x3 r3 => by
    cases r3
    refine ⟨a, rfl, ?_⟩
    cases a with
    | true =>
      obtain ⟨z, h1, h2⟩ := hc rfl
      show tc σ H3 _
      exact h1 S3 H3 σ x3.sub (v.mono ((x1.s.trans x2.s).trans x3.s)) _ fun w4 S4 H4 x4 r4 => h2 S4 H4 w2 w4 x4.sub (r2.mono (x3.s.trans x4.s)) r4 Q fun w5 S5 H5 x5 r5 => q w5 S5 H5 ((((x1.trans x2).trans x3).trans x4).trans x5) r5
    | false =>
      show Q (.bl false) H3
      exact q _ S3 H3 ((x1.trans x2).trans x3) (.bl false)
theorem et_truL {ds : List D} (h : EvD K te ρ (.lst ds)) : EvT K (fun σ H Q => te σ H fun x H' => ∃ k, TruV K x H' k ∧ Q k H') ρ (!ds.isEmpty) := fun S H σ e v Q q =>
  h S H σ e v _ fun w S1 H1 x1 r1 => by
    cases r1 with
    | lst ha rl =>
      refine ⟨!ds.isEmpty, .inl ⟨_, Evl.sq_of (x1.sub _ _ ha), ?_⟩, q S1 H1 x1⟩
      cases rl <;> rfl
theorem rc_isiK {T : String} {b : Bool} (k : String) (hk : x.kind = k) (h : kitB k T = some b) (hn : k ≠ "?") : RC K (rIsi K) [x, .ty T] (.bl b) := rc_isi (by rw [hk]; exact h) (by rw [hk]; exact hn)
theorem T.never {F : FE} (h : False) : T K tNever ρ F := h.elim
/-! ### comparisons, arithmetic -/
theorem rv_lt {i j : Int} : RV K (rI0 fun i j => .bl (decide (i < j))) (.int i) (.int j) (.bl (decide (i < j))) := rv_I0 fun _ => .bl _
theorem rv_le {i j : Int} : RV K (rI0 fun i j => .bl (decide (i ≤ j))) (.int i) (.int j) (.bl (decide (i ≤ j))) := rv_I0 fun _ => .bl _
theorem rv_gt {i j : Int} : RV K (rI0 fun i j => .bl (decide (j < i))) (.int i) (.int j) (.bl (decide (j < i))) := rv_I0 fun _ => .bl _
theorem rv_ge {i j : Int} : RV K (rI0 fun i j => .bl (decide (j ≤ i))) (.int i) (.int j) (.bl (decide (j ≤ i))) := rv_I0 fun _ => .bl _
theorem rv_sub {i j : Int} : RV K (rI0 fun i j => .int (i - j)) (.int i) (.int j) (.int (i - j)) := rv_I0 fun _ => .int _
theorem rv_mul {i j : Int} (h : CMul i j) : RV K (rI CMul fun i j => .int (i * j)) (.int i) (.int j) (.int (i * j)) := rv_I h fun _ => .int _
theorem rv_div {i j : Int} (h : CDivN i j) (hj : 0 ≤ j) : RV K (rI CDivN fun i j => .int (i.fdiv j)) (.int i) (.int j) (.int (i / j)) := by
  rw [← Int.fdiv_eq_ediv_of_nonneg i hj]
  exact rv_I h fun _ => .int _
theorem rv_mod {i j : Int} (h : j ≠ 0) (hj : 0 ≤ j) : RV K (rI (fun _ j => j ≠ 0) fun i j => .int (i.fmod j)) (.int i) (.int j) (.int (i % j)) := by
  rw [← Int.fmod_eq_emod_of_nonneg i hj]
  exact rv_I h fun _ => .int _
theorem ev_neg {i : Int} (h : EvD K te ρ (.int i)) : EvD K (tUn (rU fun i => .int (-i)) te) ρ (.int (-i)) := fun S H σ e v Q q =>
  h S H σ e v _ fun w S1 H1 x1 r1 => by
    cases r1
    exact ⟨i, rfl, q _ S1 H1 x1 (.int _)⟩
end
end Pl
namespace Pl
open PySem PySem.Spec PyProof.Rows L2
theorem rngD_get0 {n : Nat} {i : Nat} {d : D} (h : (rngD 0 n 1)[i]? = some d) : i < n ∧ d = .int (i : Int) := by
  obtain ⟨h1, h2⟩ := rngD_get h
  refine ⟨h1, h2.trans ?_⟩
  rw [Int.mul_one, Int.zero_add]
theorem rngD_mem0 {n : Nat} {d : D} (h : d ∈ rngD 0 n 1) : ∃ i : Nat, i < n ∧ d = .int (i : Int) := by
  obtain ⟨i, hi⟩ := List.getElem?_of_mem h
  exact ⟨i, rngD_get0 hi⟩
theorem atI_int {α : Type} {xs : List α} {k : Int} {x : α} (h0 : 0 ≤ k) (h : xs[k.toNat]? = some x) : atI xs k = some x := by
  have e : k = ((k.toNat : Nat) : Int) := by omega
  rw [e]
  exact atI_nat h
def barD (b : Int × Int) : D := .tup [.int b.1, .int b.2]
theorem barD_inj {a b : Int × Int} (h : barD a = barD b) : a = b := by
  cases a
  cases b
  unfold barD at h
  simp only [D.tup.injEq, List.cons.injEq, D.int.injEq, and_true] at h
  rw [h.1, h.2]
theorem bars_inj {as bs : List (Int × Int)} : as.map barD = bs.map barD ↔ as = bs := ⟨fun h => (List.map_inj_right fun _ _ e => barD_inj e).mp h, fun h => h ▸ rfl⟩
theorem okd_bars {bs : List (Int × Int)} : (D.lst (bs.map barD)).okd 60 = true := by
  simp [D.okd, barD]
theorem sm_bars {bs : List (Int × Int)} : (D.lst (bs.map barD)).sm 60 = true := by
  simp [D.sm, barD]
section
variable {K : PySem.W.Frag}
theorem rv_eqBars {as bs : List (Int × Int)} : RV K (rEqD K) (.lst (as.map barD)) (.lst (bs.map barD)) (.bl (decide (as = bs))) := rv_eqS okd_bars okd_bars sm_bars sm_bars (by rw [decide_eq_true_eq, D.lst.injEq, bars_inj])
theorem rv_neBars {as bs : List (Int × Int)} : RV K (rNeD K) (.lst (as.map barD)) (.lst (bs.map barD)) (.bl (!decide (as = bs))) := rv_neS okd_bars okd_bars sm_bars sm_bars (by rw [decide_eq_true_eq, D.lst.injEq, bars_inj])
end
end Pl
namespace Pl
open PySem PySem.Spec PyProof.Rows L2
section
variable {K : PySem.W.Frag} {ρ : Rho} {F : FE} {t u : TS} {c : TT} {b : Bool}
/-- if c: (what does not go on); then the rest -/
theorem T.guard (h : EvT K c ρ b) (h1 : b = true → T K t ρ { F with nx := fun _ => False }) (h2 : b = false → T K u ρ F) : T K (tSeq (tIfS c t tNext) u) ρ F :=
  T.seqP (N := fun r => r = ρ ∧ b = false) (T.ifS h (fun e => (h1 e).weak (fun _ z => z.elim) (fun _ z => z) (fun _ z => z) (fun _ z => z) fun _ z => z) fun e => T.next ⟨rfl, e⟩) fun r z => by
    obtain ⟨e1, e2⟩ := z
    subst e1
    exact h2 e2
theorem T.guardV (h : EvT K c (see ρ) b) (h1 : b = true → T K t ρ { F with nx := fun _ => False }) (h2 : b = false → T K u ρ F) : T K (tSeq (tIfS c t tNext) u) ρ F :=
  T.seqP (N := fun r => r = ρ ∧ b = false) (T.ifV h (fun e => (h1 e).weak (fun _ z => z.elim) (fun _ z => z) (fun _ z => z) (fun _ z => z) fun _ z => z) fun e => T.next ⟨rfl, e⟩) fun r z => by
    obtain ⟨e1, e2⟩ := z
    subst e1
    exact h2 e2
end
end Pl
namespace Pl
open PySem PySem.Spec PyProof.Rows L2
open Evl (Ex)
section
variable {K : PySem.W.Frag}
theorem RCF.data {r : List V → Hp → VK → Prop} {xs es : List D} (h : RCF K r xs es) : RC K r xs (.lst es) := fun S H vs e rl Q q => h S H vs e rl Q fun p ws S' H' x hp sp h' r' => q (.ref p) (upd S' p (.lst ws)) H' (x.tell sp hp h') (.lst upd_same (r'.mono (Ex.new sp)))
theorem RVF.data {r : R2} {x y : D} {es : List D} (h : RVF K r x y es) : RV K r x y (.lst es) := fun S H v u e r1 r2 Q q => h S H v u e r1 r2 Q fun p ws S' H' x hp sp h' r' => q (.ref p) (upd S' p (.lst ws)) H' (x.tell sp hp h') (.lst upd_same (r'.mono (Ex.new sp)))
end
end Pl

/-! {x for a in xs for x in a}: a set of whole numbers by two clauses without tests. -/
namespace Sc
open PySem PySem.Spec PyProof.Rows L2
abbrev two (elt t0 i0 t1 i1 : Expr) (scope : Scope) (pos : Pos) : Expr := .SetComp elt [⟨t0, i0, [], 0⟩, ⟨t1, i1, [], 0⟩] scope pos
section
variable {prog : Program} {w : World} {A : Around} {R : Result → Shared → Prop} {s : Shared} {elt t0 i0 t1 i1 : Expr} {scope : Scope} {pos : Pos} {it acc : Value} {env : Env}
theorem turn0 : compTurn (two elt t0 i0 t1 i1 scope pos) 0 it acc env = (do
    standAt i0.pos
    let r ← pyNext it
    match r with
    | none => pure (.done .next)
    | some u =>
      letOwnedTupleGo t0 it u
      assign t0 env u
      let x ← eval i1 env
      standAt i1.pos
      let y ← foldedSetIterable i1 env x
      let z ← holding [y] (pyIter y)
      let _ ← runOwn (.compStart (two elt t0 i0 t1 i1 scope pos) 1 z acc env) env
      again (.compLoop (two elt t0 i0 t1 i1 scope pos) 0 it acc env)) := by rfl
theorem turn1 : compTurn (two elt t0 i0 t1 i1 scope pos) 1 it acc env = (do
    standAt i1.pos
    let r ← pyNext it
    match r with
    | none => pure (.done .next)
    | some u =>
      letOwnedTupleGo t1 it u
      assign t1 env u
      (do
        let v ← eval elt env
        standAt elt.pos
        let _ ← call (.builtin "set.add") [acc, v])
      again (.compLoop (two elt t0 i0 t1 i1 scope pos) 1 it acc env)) := by rfl
abbrev Nb (w : World) (prog : Program) (A : Around) (env : Env) (R : Result → Shared → Prop) : Value → Shared → Prop := notedBy (model prog w) A env fun e u => R (.error e) u
theorem loop0 (hf : ∀ x, foldedSetIterable i1 env x = pure x) (J : Nat → Shared → Prop)
    (turn : ∀ n u, J n u → wpAny (model prog w) A (pyNext it) (fun r u1 => match r with
      | none => R (.ok .next) u1
      | some v => wpAny (model prog w) A (letOwnedTupleGo t0 it v) (fun _ u2 => wpAny (model prog w) A (assign t0 env v) (fun _ u3 => wpAny (model prog w) A (eval i1 env) (fun x u4 => wpAny (model prog w) A (pyIter x) (fun z u5 =>
          codeAny (model prog w) A (.compStart (two elt t0 i0 t1 i1 scope pos) 1 z acc env) (fun r u6 => match r with
            | .ok _ => ∃ m, m < n ∧ J m u6
            | .error _ => False) u5) (Nb w prog A env R) u4) (Nb w prog A env R) u3) (Nb w prog A env R) u2) (Nb w prog A env R) u1) (Nb w prog A env R) u)
    (n : Nat) (h : J n s) : codeAny (model prog w) A (.compLoop (two elt t0 i0 t1 i1 scope pos) 0 it acc env) R s := by
  refine codeAny_loop rfl J (fun n u hJ => ?_) n h
  show wpAny _ A ((compTurn (two elt t0 i0 t1 i1 scope pos) 0 it acc env).onRaise (fun x => do noteFrame x env; theTreesLotGoes x)) _ _ u
  refine wpAny_noted ?_
  rw [turn0]
  refine wpAny_bind (wpAny_standAt (wpAny_bind (wpAny_mono (turn n u hJ) (fun r u1 k1 => ?_) fun _ _ q => q)))
  cases r with
  | none => exact wpAny_pure k1
  | some v =>
    refine wpAny_bind (wpAny_mono k1 (fun _ u2 k2 => wpAny_bind (wpAny_mono k2 (fun _ u3 k3 => wpAny_bind (wpAny_mono k3 (fun x u4 k4 => ?_) fun _ _ q => q)) fun _ _ q => q)) fun _ _ q => q)
    refine wpAny_bind (wpAny_standAt (wpAny_bind (wpAny_of_eq (hf x) (wpAny_bind (wpAny_holding (wpAny_mono k4 (fun z u5 k5 => ?_) fun _ _ q => q))))))
    refine wpAny_bind (wpAny_runOwn ?_)
    rw [Around.mark_none]
    refine codeAny_mono k5 fun r u6 k6 => ?_
    cases r with
    | ok f => first | exact wpAny_pure ⟨rfl, k6⟩ | exact wpAny_bind (wpAny_pure (wpAny_pure ⟨rfl, k6⟩))
    | error e => exact k6.elim
theorem loop1 (J : Nat → Shared → Prop)
    (turn : ∀ n u, J n u → wpAny (model prog w) A (pyNext it) (fun r u1 => match r with
      | none => R (.ok .next) u1
      | some v => wpAny (model prog w) A (letOwnedTupleGo t1 it v) (fun _ u2 => wpAny (model prog w) A (assign t1 env v) (fun _ u3 => wpAny (model prog w) A (eval elt env) (fun x u4 =>
          wpAny (model prog w) A (call (.builtin "set.add") [acc, x]) (fun _ u5 => ∃ m, m < n ∧ J m u5) (Nb w prog A env R) u4) (Nb w prog A env R) u3) (Nb w prog A env R) u2) (Nb w prog A env R) u1) (Nb w prog A env R) u)
    (n : Nat) (h : J n s) : codeAny (model prog w) A (.compLoop (two elt t0 i0 t1 i1 scope pos) 1 it acc env) R s := by
  refine codeAny_loop rfl J (fun n u hJ => ?_) n h
  show wpAny _ A ((compTurn (two elt t0 i0 t1 i1 scope pos) 1 it acc env).onRaise (fun x => do noteFrame x env; theTreesLotGoes x)) _ _ u
  refine wpAny_noted ?_
  rw [turn1]
  refine wpAny_bind (wpAny_standAt (wpAny_bind (wpAny_mono (turn n u hJ) (fun r u1 k1 => ?_) fun _ _ q => q)))
  cases r with
  | none => exact wpAny_pure k1
  | some v =>
    refine wpAny_bind (wpAny_mono k1 (fun _ u2 k2 => wpAny_bind (wpAny_mono k2 (fun _ u3 k3 => wpAny_bind (wpAny_bind (wpAny_mono k3 (fun x u4 k4 => ?_) fun _ _ q => q))) fun _ _ q => q)) fun _ _ q => q)
    refine wpAny_bind (wpAny_standAt (wpAny_bind (wpAny_mono k4 (fun _ u5 k5 => ?_) fun _ _ q => q)))
    first | exact wpAny_pure (wpAny_pure ⟨rfl, k5⟩) | exact wpAny_pure ⟨rfl, k5⟩
theorem start1 (h0 : codeAny (model prog w) A (.compLoop (two elt t0 i0 t1 i1 scope pos) 1 it acc env) R s)
    (h : wpAny (model prog w) A (pyIter it) (fun z u => codeAny (model prog w) A (.compLoop (two elt t0 i0 t1 i1 scope pos) 1 z acc env) R u) (Nb w prog A env R) s) :
    codeAny (model prog w) A (.compStart (two elt t0 i0 t1 i1 scope pos) 1 it acc env) R s := by
  refine codeAny_of_tree ?_
  show wpAny _ _ ((compStart (two elt t0 i0 t1 i1 scope pos) 1 it acc env).onRaise (fun x => do noteFrame x env; standAt theWindowsPlace)) _ _ s
  refine wpAny_notedAt ?_
  unfold compStart
  show wpAny _ _ (ask >>= _) _ _ s
  refine wpAny_bind (wpAny_askSetting (wpAny_ite ?_))
  split
  · first | exact wpAny_bind (wpAny_pure (wpAny_pure (And.intro rfl h0))) | exact wpAny_pure (And.intro rfl h0)
  · first
      | exact wpAny_bind (wpAny_rule (wpAny_bind (wpAny_standAt (wpAny_bind (wpAny_mono h (fun z u q => wpAny_pure (And.intro rfl q)) fun _ _ x => x)))))
      | (refine wpAny_bind (wpAny_rule ?_)
         show wpAny _ _ (standAt i1.pos >>= _) _ _ s
         exact wpAny_bind (wpAny_standAt (wpAny_bind (wpAny_mono h (fun z u q => wpAny_pure (And.intro rfl q)) fun _ _ x => x))))
end
section
variable {X : Cx}
theorem add_ok {pins : List (Addr × Obj)} {σ : L2.St} {H : Hp} {s : Shared} {E : Value → Shared → Prop} {p : Addr} {T : Int → Bool} {n : Nat} {k : Int} {tk : Tok} {Q : Value → Shared → Prop} (I : Inv X pins σ H s) (hp : H p = some (SetO X.w p T n)) (room : n + 1 < scanBound)
    (h : ∀ u, Inv X pins σ (upd H p (SetO X.w p (fun j => T j || decide (j = k)) (if T k = true then n else n + 1))) u → Q .none u) : wpAny (model X.prog X.w) X.A (call (.builtin "set.add") [.ref p, .int k tk]) Q E s := by
  have R := setO_get I hp
  refine setR_add R room fun h2 sb new => ?_
  have ex : ∃ o, h2.get? p = some o := by
    have ⟨o, _, _, _, ho, _⟩ := new
    exact ⟨o, ho⟩
  exact h _ (I.write (e := p) (t' := s.toks + 1) (by rw [hp]; trivial) (.inl rfl) (fun b o hb ho => (sb.2 b hb).trans ho) ex (setO_new new))
/-- p the new set; the outer clause's word W, the inner one's W1 -/
def tSc2 (w : World) (wi : TI) (g : TG) (wi1 : TI) (g1 : TG) (te : TE) (vs vs1 : List Nat) : TE := fun σ H Q => wi σ H fun J H1 => ∀ p, H1 p = none → ∃ W : Nat → Nat → Hp → Prop, (∃ m, W 0 m (upd H1 p (SetO w p (fun _ => false) 0))) ∧ ∀ i m H, W i m H →
  (J.stop i H ∧ Q (.ref p) H) ∨ (J.go i H ∧ ∃ Nx : Hp → Prop, (∀ H', Nx H' → ∃ m', m' < m ∧ W (i + 1) m' H') ∧ ∀ x H', J.yld i H x H' → g x (wipe σ vs) H' fun σ2 H2 => wipe σ2 vs = wipe σ vs ∧
    wi1 σ2 H2 fun J1 H4 => ∃ W1 : Nat → Nat → Hp → Prop, (∃ m, W1 0 m H4) ∧ ∀ j k H, W1 j k H →
      (J1.stop j H ∧ Nx H) ∨ (J1.go j H ∧ ∃ N1 : Hp → Prop, (∀ H', N1 H' → ∃ k', k' < k ∧ W1 (j + 1) k' H') ∧ ∀ x H', J1.yld j H x H' → g1 x (wipe σ2 vs1) H' fun σ3 H5 => wipe σ3 vs1 = wipe σ2 vs1 ∧
        te σ3 H5 fun y H7 => ∃ (c : Int) (T : Int → Bool) (n : Nat), y = .int c ∧ H7 p = some (SetO w p T n) ∧ n + 1 < scanBound ∧ N1 (upd H7 p (SetO w p (fun j => T j || decide (j = c)) (if T c = true then n else n + 1)))))
theorem sc2_core {pins : List (Addr × Obj)} {s : Shared} {σ : L2.St} {H : Hp} {Q : VK} {elt tg iter tg1 iter1 : Expr} {scope : Scope} {own : List (Str × Nat)} {vs1 : List Nat} {pos pos' : Pos} {wi wi1 : TI} {g g1 : TG} {te : TE} {Qf : Value → Shared → Prop}
    (hc : X.calm = true) (hN : X.N.Nodup) (I : Inv X pins σ H s) (hi : PI X tg iter wi) (ok : BlkOk X.N X.env.scope scope own) (hv : ∀ i ∈ vs1, i ∈ own.map (·.2))
    (hg : ∀ (s : Shared) (H : Hp) (C : Addr) (cl : List (Str × Addr)) (fp : List Addr), PG (X.blk s H scope (compEnvC scope cl C X.env) fp) tg g)
    (he : ∀ (s : Shared) (H : Hp) (C : Addr) (cl : List (Str × Addr)) (fp : List Addr), PE (X.blk s H scope (compEnvC scope cl C X.env) fp) elt te) (hs : ∀ x, foldedSetIterable iter X.env x = pure x)
    (hi1 : ∀ (s : Shared) (H : Hp) (C : Addr) (cl : List (Str × Addr)) (fp : List Addr), PI (X.blk s H scope (compEnvC scope cl C X.env) fp) tg1 iter1 wi1)
    (hg1 : ∀ (s : Shared) (H : Hp) (C : Addr) (cl : List (Str × Addr)) (fp : List Addr), PG (X.blk s H scope (compEnvC scope cl C X.env) fp) tg1 g1)
    (hs1 : ∀ env x, foldedSetIterable iter1 env x = pure x) (h : tSc2 X.w wi g wi1 g1 te (own.map (·.2)) vs1 σ H Q)
    (fin : ∀ p C u m H', Inv X pins σ H' u → Q (.ref p) H' → u.heap.Ns C m → FpOk X pins H' C → compPost (model X.prog X.w) X.A X.xe none Qf (.ref p) C (.ok .next) u) :
    wpAny (model X.prog X.w) X.A (comprehension (two elt tg iter tg1 iter1 scope pos) scope X.env pos' (newSet (.type "set")) false (eval iter X.env) none) Qf X.xe s := by
  have fr : ∀ y ∈ scope.names, y.2 = .free → ∃ c, X.env.cells.lookup y.1 = some c := fun y hy e => (ok.free y hy e).elim (fun k => I.ok.has _ (.inl k)) fun k => I.ok.has _ (.inr k)
  refine wpAny_comprehension_free (use := none) rfl hs (closure_ok fr) ok.kind (fun y hy e => by rw [ok.uniq y hy, e]) (thn (hi.run pins s σ H _ I h) fun xv s1 hx => thn hx fun zv s2 h2 => ?_)
  obtain ⟨it, fp, tn, J, H2, e, I2, T, st2, f2, q⟩ := h2
  subst e
  refine PpSet.newSet_ok (newEnv_comp ?_)
  generalize hp : s2.heap.objs.size = p
  have hpn : H2 p = none := I2.hok.fresh (Nat.le_of_eq hp)
  obtain ⟨W, ⟨m0, w0⟩, turn⟩ := q p hpn
  generalize e3 : ({ s2 with heap := s2.heap.push { cls := .type "set", dict := none, data := .set #[] 0 (.fresh 0 0 (!X.w.params.followText "set-order")) } } : Shared) = s3
  have I3 : Inv X pins σ (upd H2 p (SetO X.w p (fun _ => false) 0)) s3 := by
    rw [← e3]
    refine I2.laid (t' := s2.toks) (fun b o z => Heap.get?_push_of_some _ z) (Nat.le_of_eq hp) ?_
    rw [← hp]
    exact setO_new (setR_fresh X.w)
  have h3 : s3.heap = s2.heap.push { cls := .type "set", dict := none, data := .set #[] 0 (.fresh 0 0 (!X.w.params.followText "set-order")) } := by rw [← e3]
  have f3 : ∀ b ∈ fp, FpOk X pins (upd H2 p (SetO X.w p (fun _ => false) 0)) b ∧ b < s3.heap.objs.size := fun b hb => by
    have lt : b < s2.heap.objs.size := by
      obtain ⟨o, z, _⟩ := T.obj _ _ st2 b hb
      exact Heap.lt_size z
    refine ⟨⟨?_, (f2 b hb).2⟩, by rw [h3, Heap.size_push]; exact Nat.lt_succ_of_lt lt⟩
    rw [upd_ne (by rw [← hp]; exact Nat.ne_of_lt lt)]
    exact (f2 b hb).1
  have st3 : tn 0 s3.heap := T.keep _ _ _ st2 fun b _ o z => by rw [h3]; exact Heap.get?_push_of_some _ z
  have I4 := block_start I3 ok hN f3
  generalize hH3 : upd H2 p (SetO X.w p (fun _ => false) 0) = H3 at I3 I4 w0 f3
  generalize hcl : cellsFrom (s3.heap.objs.size + 1) scope.names (cloFrom X.env.cells scope.names []) = cl at I4 ⊢
  have pg := hg s3 H3 s3.heap.objs.size cl fp
  have pe := he s3 H3 s3.heap.objs.size cl fp
  have pi1 := hi1 s3 H3 s3.heap.objs.size cl fp
  have pg1 := hg1 s3 H3 s3.heap.objs.size cl fp
  have nfp : ∀ b ∈ fp, H3 b = none := fun b hb => (f3 b hb).1.1
  show codeAny _ _ (.compStart (two elt tg iter tg1 iter1 scope pos) 0 (.ref it) (.ref p) (compEnvC scope cl s3.heap.objs.size X.env)) (compPost (model X.prog X.w) X.A X.xe none Qf (.ref p) s3.heap.objs.size) { s3 with heap := pushCells (s3.heap.push { cls := .type "dict", data := .dict #[] }) scope.names }
  generalize hce : compEnvC scope cl s3.heap.objs.size X.env = ce at I4 pg pe pi1 pg1 ⊢
  have cL : ce.locals = s3.heap.objs.size := by subst hce; rfl
  generalize e4 : ({ s3 with heap := pushCells (s3.heap.push { cls := .type "dict", data := .dict #[] }) scope.names } : Shared) = s4 at I4 ⊢
  have st4 : tn 0 s4.heap := T.keep _ _ _ st3 fun b _ o z => by rw [← e4]; exact pushCells_keeps _ _ _ _ (Heap.get?_push_of_some _ z)
  have stat : ∀ {σ' : L2.St} {H' : Hp} {u : Shared}, Inv (X.blk s3 H3 scope ce fp) [] σ' H' u → (∀ b ∈ fp, H' b = none) → ∀ b ∈ fp, FpOk (X.blk s3 H3 scope ce fp) [] H' b := fun {σ' H' u} I' hn b hb =>
    ⟨hn b hb, (I'.ok.exf b hb).1, I'.ok.exfs b hb, .inl hb, fun x c z => (I'.ok.exf b hb).2 x c z, fun r hr => absurd (show r ∈ ([] : List (Addr × Obj)) ++ [] from hr) (by simp)⟩
  have loop : codeAny (model X.prog X.w) X.A (.compLoop (two elt tg iter tg1 iter1 scope pos) 0 (.ref it) (.ref p) ce) (compPost (model X.prog X.w) X.A X.xe none Qf (.ref p) s3.heap.objs.size) s4 := by
    refine loop0 (hs1 ce) (fun n u => ∃ i H', Inv (X.blk s3 H3 scope ce fp) [] (wipe σ (own.map (·.2))) H' u ∧ tn i u.heap ∧ (∀ b ∈ fp, H' b = none) ∧ W i n H') ?_ m0 ⟨0, H3, I4, st4, nfp, w0⟩
    rintro n s5 ⟨i, H5, I5, st5, n5, w5⟩
    rcases turn i n H5 w5 with ⟨stop, qq⟩ | ⟨go, Nx, hNx, step⟩
    · refine thnF (T.done (X.blk s3 H3 scope ce fp) rfl rfl rfl hc i [] s5 _ H5 (fun _ _ => False) I5 (stat I5 n5) st5 stop) fun r s6 ⟨hr, I6⟩ => ?_
      subst hr
      have I7 : Inv X pins σ H5 s6 := I3.call' (ch := fp) I6.os I6.base I6.hok I6.bare fun b hb => ⟨(f3 b hb).1.2.2.2.1, (f3 b hb).1.2.1, (f3 b hb).1.2.2.2.2.1, (f3 b hb).1.2.2.2.2.2⟩
      have nC : H5 s3.heap.objs.size = none := by
        rw [← cL]
        exact I6.free
      obtain ⟨m, hn, _⟩ := I6.loc
      have hn2 : s6.heap.Ns ce.locals m := hn
      rw [cL] at hn2
      exact fin p s3.heap.objs.size s6 m H5 I7 qq hn2 (I3.fpOk (Nat.le_refl _) nC)
    · refine thnF (T.item (X.blk s3 H3 scope ce fp) rfl rfl rfl hc i [] s5 _ H5 (fun _ _ => False) I5 (stat I5 n5) st5 go) fun r s6 ⟨u, hr, h6⟩ => ?_
      subst hr
      refine thnF h6 fun _ s7 ⟨x, H7, I7, r7, y7, st7, n7⟩ => ?_
      have I7' := I7.pinned (stat I7 n7) (T.obj _ _ st7)
      refine thnF (pg.run _ s7 _ H7 x u _ I7' r7 (step x H7 y7)) fun _ s8 ⟨σ8, H8, I8, hw8, q8⟩ => ?_
      have done : ∀ {σ9 : L2.St} {u : Shared} {H' : Hp}, Inv (X.blk s3 H3 scope ce fp) ([] ++ pinsAt fp s7.heap) σ9 H' u → (wipe σ (own.map (·.2))).length = σ9.length → (∀ (j : Nat) v, (wipe σ (own.map (·.2)))[j]? = some (some v) → σ9[j]? = some (some v)) → Nx H' →
          ∃ m, m < n ∧ ∃ i H', Inv (X.blk s3 H3 scope ce fp) [] (wipe σ (own.map (·.2))) H' u ∧ tn i u.heap ∧ (∀ b ∈ fp, H' b = none) ∧ W i m H' := fun {σ9 u H'} I' hl hk nx => by
        obtain ⟨m', hm, w'⟩ := hNx H' nx
        have pin : ∀ b ∈ fp, ∀ o, s7.heap.get? b = some o → u.heap.get? b = some o ∧ H' b = none := fun b hb o z =>
          ⟨(I'.pin (b, o) (List.mem_append_right _ (List.mem_append_right _ (mem_pinsAt hb z)))).1, (I'.pin (b, o) (List.mem_append_right _ (List.mem_append_right _ (mem_pinsAt hb z)))).2.1⟩
        refine ⟨m', hm, i + 1, H', (I'.unpinned (pins := [])).weak hl hk, T.keep _ _ _ st7 fun b hb o z => (pin b hb o z).1, fun b hb => ?_, w'⟩
        obtain ⟨o, z, _⟩ := T.obj _ _ st7 b hb
        exact (pin b hb o z).2
      have hl8 : (wipe σ (own.map (·.2))).length = σ8.length := by rw [← hw8, wipe_length]
      have hk9 : ∀ (j : Nat) v, (wipe σ (own.map (·.2)))[j]? = some (some v) → (wipe σ8 vs1)[j]? = some (some v) := fun j v z => by
        rw [← hw8] at z
        obtain ⟨z1, z2⟩ := wipe_some z
        rw [wipe_out fun k => z2 (hv j k)]
        exact z1
      refine thnF (pi1.run _ s8 σ8 H8 _ I8 q8) fun xv s10 hx => thnF hx fun zv s11 h11 => ?_
      obtain ⟨it1, fp1, tn1, J1, H11, e1, I11, T1, st11, f11, W1, ⟨m1, w1⟩, turn1⟩ := h11
      subst e1
      have stat1 : ∀ {H' : Hp}, (∀ b ∈ fp1, H' b = none) → ∀ b ∈ fp1, FpOk (X.blk s3 H3 scope ce fp) ([] ++ pinsAt fp s7.heap) H' b := fun hn b hb => ⟨hn b hb, (f11 b hb).2⟩
      have inner : codeAny (model X.prog X.w) X.A (.compLoop (two elt tg iter tg1 iter1 scope pos) 1 (.ref it1) (.ref p) ce) (fun r u => match r with
          | .ok _ => ∃ m, m < n ∧ ∃ i H', Inv (X.blk s3 H3 scope ce fp) [] (wipe σ (own.map (·.2))) H' u ∧ tn i u.heap ∧ (∀ b ∈ fp, H' b = none) ∧ W i m H'
          | .error _ => False) s11 := by
        refine loop1 (fun k u => ∃ j H', Inv (X.blk s3 H3 scope ce fp) ([] ++ pinsAt fp s7.heap) (wipe σ8 vs1) H' u ∧ tn1 j u.heap ∧ (∀ b ∈ fp1, H' b = none) ∧ W1 j k H') ?_ m1 ⟨0, H11, I11.weak (wipe_length _ _) (fun j v z => (wipe_some z).1), st11, fun b hb => (f11 b hb).1, w1⟩
        rintro k s12 ⟨j, H12, I12, st12, n12, w12⟩
        rcases turn1 j k H12 w12 with ⟨stop1, nx1⟩ | ⟨go1, N1, hN1, step1⟩
        · refine thnF (T1.done (X.blk s3 H3 scope ce fp) rfl rfl rfl hc j _ s12 (wipe σ8 vs1) H12 (fun _ _ => False) I12 (stat1 n12) st12 stop1) fun r s13 ⟨hr, I13⟩ => ?_
          subst hr
          exact done I13 (hl8.trans (wipe_length σ8 vs1).symm) hk9 nx1
        · refine thnF (T1.item (X.blk s3 H3 scope ce fp) rfl rfl rfl hc j _ s12 (wipe σ8 vs1) H12 (fun _ _ => False) I12 (stat1 n12) st12 go1) fun r s13 ⟨u1, hr, h13⟩ => ?_
          subst hr
          refine thnF h13 fun _ s14 ⟨x1, H14, I14, r14, y14, st14, n14⟩ => ?_
          have I14' := I14.pinned (stat1 n14) (T1.obj _ _ st14)
          refine thnF (pg1.run _ s14 (wipe σ8 vs1) H14 x1 u1 _ I14' r14 (step1 x1 H14 y14)) fun _ s15 ⟨σ15, H15, I15, hw15, q15⟩ => ?_
          refine thnF (pe.run _ s15 σ15 H15 _ I15 q15) fun z s17 ⟨yv, H17, I17, r17, c0, T0, n0, ey, hD17, hz17, nx⟩ => ?_
          subst ey
          obtain ⟨tk, rfl⟩ := r17
          refine add_ok (X := X.blk s3 H3 scope ce fp) I17 hD17 hz17 fun s18 I18 => ?_
          obtain ⟨k', lk, w'⟩ := hN1 _ nx
          have pin : ∀ b ∈ fp1, ∀ o, s14.heap.get? b = some o → s18.heap.get? b = some o ∧ upd H17 p (SetO X.w p (fun j => T0 j || decide (j = c0)) (if T0 c0 = true then n0 else n0 + 1)) b = none := fun b hb o z =>
            ⟨(I18.pin (b, o) (List.mem_append_right _ (List.mem_append_right _ (mem_pinsAt hb z)))).1, (I18.pin (b, o) (List.mem_append_right _ (List.mem_append_right _ (mem_pinsAt hb z)))).2.1⟩
          refine ⟨k', lk, j + 1, _, I18.unpinned.weak (by rw [← hw15, wipe_length]) (fun j v z => by rw [← hw15] at z; exact (wipe_some z).1), T1.keep _ _ _ st14 fun b hb o z => (pin b hb o z).1, fun b hb => ?_, w'⟩
          obtain ⟨o, z, _⟩ := T1.obj _ _ st14 b hb
          exact (pin b hb o z).2
      exact start1 inner (T1.self X.A 0 _ _ _ st11 inner)
  exact PpSet.codeAny_compStart_set loop (T.self X.A 0 _ _ _ st4 loop)
theorem pe_sc2 {elt tg iter tg1 iter1 : Expr} {scope : Scope} {own : List (Str × Nat)} {vs1 : List Nat} {pos : Pos} {wi wi1 : TI} {g g1 : TG} {te : TE} {w : World} (hw : X.w = w) (hc : X.calm = true) (hN : X.N.Nodup) (hi : PI X tg iter wi) (ok : BlkOk X.N X.env.scope scope own) (hv : ∀ i ∈ vs1, i ∈ own.map (·.2))
    (hg : ∀ (s : Shared) (H : Hp) (C : Addr) (cl : List (Str × Addr)) (fp : List Addr), PG (X.blk s H scope (compEnvC scope cl C X.env) fp) tg g)
    (hi1 : ∀ (s : Shared) (H : Hp) (C : Addr) (cl : List (Str × Addr)) (fp : List Addr), PI (X.blk s H scope (compEnvC scope cl C X.env) fp) tg1 iter1 wi1)
    (hg1 : ∀ (s : Shared) (H : Hp) (C : Addr) (cl : List (Str × Addr)) (fp : List Addr), PG (X.blk s H scope (compEnvC scope cl C X.env) fp) tg1 g1)
    (he : ∀ (s : Shared) (H : Hp) (C : Addr) (cl : List (Str × Addr)) (fp : List Addr), PE (X.blk s H scope (compEnvC scope cl C X.env) fp) elt te) (hs : ∀ x, foldedSetIterable iter X.env x = pure x := by intro _; rfl) (hs1 : ∀ env x, foldedSetIterable iter1 env x = pure x := by intro _ _; rfl) :
    PE X (two elt tg iter tg1 iter1 scope pos) (tSc2 w wi g wi1 g1 te (own.map (·.2)) vs1) := by
  subst hw
  refine ⟨fun pins s σ H Q I h => ?_⟩
  rw [PpSet.eval_SetComp]
  refine sc2_core hc hN I hi ok hv hg he hs hi1 hg1 hs1 h fun p C u m H' I' q hn f => ⟨m, hn, fun h2 sb => ?_⟩
  obtain ⟨f0, f1, f2, f3, f4, f5⟩ := f
  exact ⟨.ref p, H', I'.turned (t' := u.toks) (fun b o hb e => (sb.2 b hb).trans e) f0 f1 f3 f4 f5, rfl, q⟩
end
end Sc

/-! sorted({.. for .. for ..}) over the data. -/
namespace Pl
open PySem PySem.Spec PyProof.Rows L2
open Evl (Ex)
variable {K : PySem.W.Frag} {ρ : Rho}
/-- at p the set of ks, which are of ms -/
def Held (w : World) (H : Hp) (p : Addr) (ms ks : List Int) : Prop := ∃ T : Int → Bool, H p = some (SetO w p T ks.length) ∧ ks.Nodup ∧ (∀ k, T k = true ↔ k ∈ ks) ∧ ∀ k ∈ ks, k ∈ ms
theorem Held.small {w : World} {H : Hp} {p : Addr} {ms ks : List Int} (h : Held w H p ms ks) : ks.length ≤ ms.length := by
  obtain ⟨T, _, nd, _, hs⟩ := h
  exact List.Nodup.length_le_of_subset nd fun k hk => hs k hk
theorem Held.add {w : World} {H : Hp} {p : Addr} {ms ks : List Int} {c : Int} {T : Int → Bool} (nd : ks.Nodup) (hT : ∀ k, T k = true ↔ k ∈ ks) (hs : ∀ k ∈ ks, k ∈ ms) (hc : c ∈ ms) :
    ∃ ks', Held w (upd H p (SetO w p (fun j => T j || decide (j = c)) (if T c = true then ks.length else ks.length + 1))) p ms ks' ∧ ∀ k, k ∈ ks' ↔ k ∈ ks ∨ k = c := by
  by_cases h : T c = true
  · refine ⟨ks, ⟨fun j => T j || decide (j = c), ?_, nd, fun k => ?_, hs⟩, fun k => ⟨.inl, fun z => ?_⟩⟩
    · rw [if_pos h]
      exact upd_same
    · rw [Bool.or_eq_true, decide_eq_true_eq, hT k]
      exact ⟨fun z => z.elim id fun e => by rw [e]; exact (hT c).mp h, .inl⟩
    · rcases z with z | z
      · exact z
      · rw [z]
        exact (hT c).mp h
  · have hn : c ∉ ks := fun z => h ((hT c).mpr z)
    refine ⟨c :: ks, ⟨fun j => T j || decide (j = c), ?_, List.nodup_cons.mpr ⟨hn, nd⟩, fun k => ?_, fun k hk => ?_⟩, fun k => ?_⟩
    · rw [if_neg h]
      exact upd_same
    · rw [Bool.or_eq_true, decide_eq_true_eq, hT k, List.mem_cons]
      exact Or.comm
    · rcases List.mem_cons.mp hk with z | z
      · rw [z]
        exact hc
      · exact hs k z
    · rw [List.mem_cons]
      exact Or.comm
theorem evF_sortedSc2 {w : World} {wi wi1 : TI} {g g1 : TG} {te : TE} {vs vs1 : List Nat} {ds : List D} (hi : EvI K wi ρ ds) (ps : D → List (Nat × D)) (es : D → List D) (ps1 : D → D → List (Nat × D)) (num : D → D → Int) (ms : List Int)
    (hg : ∀ d ∈ ds, EvG K g d (ps d)) (hs : ∀ d ∈ ds, ∀ p ∈ ps d, p.1 ∈ vs) (hi1 : ∀ d ∈ ds, EvI K wi1 (setR (wipeR ρ vs) (ps d)) (es d))
    (hg1 : ∀ d ∈ ds, ∀ e ∈ es d, EvG K g1 e (ps1 d e)) (hs1 : ∀ d ∈ ds, ∀ e ∈ es d, ∀ p ∈ ps1 d e, p.1 ∈ vs1) (he : ∀ d ∈ ds, ∀ e ∈ es d, EvD K te (setR (wipeR (setR (wipeR ρ vs) (ps d)) vs1) (ps1 d e)) (.int (num d e)))
    (hp : ms.Pairwise (· < ·)) (h64 : ms.length < 64) (hm : ∀ k, k ∈ ms ↔ ∃ d ∈ ds, ∃ e ∈ es d, num d e = k) :
    EvF K (tCB (rSortedSet w) (tCons (Sc.tSc2 w wi g wi1 g1 te vs vs1) tNil)) ρ (ms.map D.int) := fun S H σ ee v Q q =>
  hi S H σ ee v _ fun J S1 H1 x1 wk => fun p hpn => by
    refine ⟨fun i m H' => m = ds.length - i ∧ i ≤ ds.length ∧ ∃ S' ks, Ext S1 H1 S' H' ∧ S' p = none ∧ Held w H' p ms ks ∧ ∀ k, k ∈ ks ↔ ∃ d ∈ ds.take i, ∃ e ∈ es d, num d e = k,
      ⟨ds.length, by simp, Nat.zero_le _, S1, [], Ext.hid x1.sub hpn, sub_none x1.sub hpn, ⟨fun _ => false, upd_same, List.nodup_nil, fun k => by simp, fun k hk => by cases hk⟩, fun k => by simp⟩, ?_⟩
    rintro i m H' ⟨rfl, hi', S', ks, x, nS, hh, hk⟩
    by_cases hlt : i < ds.length
    · have hd : ds[i]? = some ds[i] := List.getElem?_eq_getElem hlt
      have hmem : ds[i] ∈ ds := List.getElem_mem hlt
      refine .inr ⟨wk.go S' H' i x.s x.sub hlt, fun H2 => ∃ S2 ks2, Ext S1 H1 S2 H2 ∧ S2 p = none ∧ Held w H2 p ms ks2 ∧ ∀ k, k ∈ ks2 ↔ ∃ d ∈ ds.take (i + 1), ∃ e ∈ es d, num d e = k, fun H2 z => ⟨ds.length - (i + 1), by omega, rfl, hlt, z⟩, fun xv H'' y => ?_⟩
      obtain ⟨S2, x2, r2⟩ := wk.yld S' H' i xv H'' ds[i] x.s x.sub hd y
      obtain ⟨T, hT1, nd, hT2, hT3⟩ := hh
      have nl : ∀ {S3 H3 : Hp}, Ext S2 H'' S3 H3 → S3 p = none := fun x3 => x3.dis p (x2.dis p nS (by rw [hT1]; exact fun z => nomatch z)) (by rw [x2.h p _ hT1]; exact fun z => nomatch z)
      refine hg _ hmem S2 H'' _ xv x2.sub r2 _ fun ws rws => ⟨?_, ?_⟩
      · rw [wipe_setV fun j hj => by
          obtain ⟨r, hr, rfl⟩ := List.mem_map.mp hj
          exact hs _ hmem r hr, wipe_wipe]
      have ev : Env K S2 (setV (L2.wipe σ vs) ((ps ds[i]).map (·.1)) ws) (setR (wipeR ρ vs) (ps ds[i])) := (((v.mono ((x1.s.trans x.s).trans x2.s)).wipe vs)).setV rws
      refine hi1 _ hmem S2 H'' _ x2.sub ev _ fun J1 S4 H4 x4 wk1 => ?_
      refine ⟨fun j n H5 => n = (es ds[i]).length - j ∧ j ≤ (es ds[i]).length ∧ ∃ S5 ks5, Ext S1 H1 S5 H5 ∧ Ex S4 S5 ∧ S5 p = none ∧ Held w H5 p ms ks5 ∧ ∀ k, k ∈ ks5 ↔ (∃ d ∈ ds.take i, ∃ e ∈ es d, num d e = k) ∨ ∃ e ∈ (es ds[i]).take j, num ds[i] e = k,
        ⟨_, rfl, Nat.zero_le _, S4, ks, (x.trans x2).trans x4, Ex.refl S4, nl x4, ⟨T, x4.h _ _ (x2.h _ _ hT1), nd, hT2, hT3⟩, fun k => by rw [hk k]; simp⟩, ?_⟩
      rintro j n H5 ⟨rfl, hj, S5, ks5, x5, e5, n5, hh5, hk5⟩
      by_cases hjl : j < (es ds[i]).length
      · have hje : (es ds[i])[j]? = some (es ds[i])[j] := List.getElem?_eq_getElem hjl
        have hjm : (es ds[i])[j] ∈ es ds[i] := List.getElem_mem hjl
        refine .inr ⟨wk1.go S5 H5 j e5 x5.sub hjl, fun H6 => ∃ S6 ks6, Ext S1 H1 S6 H6 ∧ Ex S4 S6 ∧ S6 p = none ∧ Held w H6 p ms ks6 ∧ ∀ k, k ∈ ks6 ↔ (∃ d ∈ ds.take i, ∃ e ∈ es d, num d e = k) ∨ ∃ e ∈ (es ds[i]).take (j + 1), num ds[i] e = k, fun H6 z => ⟨(es ds[i]).length - (j + 1), by omega, rfl, hjl, z⟩, fun yv H6 y1 => ?_⟩
        obtain ⟨S6, x6, r6⟩ := wk1.yld S5 H5 j yv H6 _ e5 x5.sub hje y1
        refine hg1 _ hmem _ hjm S6 H6 _ yv x6.sub r6 _ fun us rus => ⟨?_, ?_⟩
        · rw [wipe_setV fun a ha => by
            obtain ⟨r, hr, rfl⟩ := List.mem_map.mp ha
            exact hs1 _ hmem _ hjm r hr, wipe_wipe]
        have ev2 : Env K S6 _ (setR (wipeR (setR (wipeR ρ vs) (ps ds[i])) vs1) (ps1 ds[i] (es ds[i])[j])) := ((ev.mono ((x4.s.trans e5).trans x6.s)).wipe vs1).setV rus
        refine he _ hmem _ hjm S6 H6 _ x6.sub ev2 _ fun zv S7 H7 x7 r7 => ?_
        cases r7
        obtain ⟨T5, g1', g2, g3, g4⟩ := hh5
        have small : ks5.length ≤ ms.length := List.Nodup.length_le_of_subset g2 fun k hk => g4 k hk
        have x67 := x6.trans x7
        have hp7 : H7 p = some (SetO w p T5 ks5.length) := x67.h _ _ g1'
        have n7 : S7 p = none := x67.dis p n5 (by rw [g1']; exact fun z => nomatch z)
        have hcm : num ds[i] (es ds[i])[j] ∈ ms := (hm _).mpr ⟨_, hmem, _, hjm, rfl⟩
        obtain ⟨ks7, hh7, hk7⟩ := Held.add (w := w) (H := H7) (p := p) g2 g3 g4 hcm
        refine ⟨_, T5, ks5.length, rfl, hp7, by unfold scanBound; omega, S7, ks7, ?_, e5.trans x67.s, n7, hh7, fun k => ?_⟩
        · have xx := x5.trans x67
          refine ⟨xx.s, fun a o ha => ?_, fun a o ha => ?_, xx.dis⟩
          · rw [upd_ne (ne_of_none ha hpn)]
            exact xx.h a o ha
          · rw [upd_ne fun z => by rw [z, n7] at ha; cases ha]
            exact xx.sub a o ha
        · rw [hk7 k, hk5 k, ← List.take_append_getElem hjl]
          constructor
          · rintro ((h | ⟨e, he', h⟩) | h)
            · exact .inl h
            · exact .inr ⟨e, List.mem_append_left _ he', h⟩
            · exact .inr ⟨_, List.mem_append_right _ (List.mem_singleton.mpr rfl), h.symm⟩
          · rintro (h | ⟨e, he', h⟩)
            · exact .inl (.inl h)
            · rcases List.mem_append.mp he' with z | z
              · exact .inl (.inr ⟨e, z, h⟩)
              · rw [List.mem_singleton.mp z] at h
                exact .inr h.symm
      · have e0 : j = (es ds[i]).length := by omega
        subst e0
        refine .inl ⟨wk1.stop S5 H5 e5 x5.sub, S5, ks5, x5, n5, hh5, fun k => ?_⟩
        rw [hk5 k, List.take_length, ← List.take_append_getElem hlt]
        constructor
        · rintro (⟨d, hd', h⟩ | h)
          · exact ⟨d, List.mem_append_left _ hd', h⟩
          · exact ⟨_, List.mem_append_right _ (List.mem_singleton.mpr rfl), h⟩
        · rintro ⟨d, hd', h⟩
          rcases List.mem_append.mp hd' with z | z
          · exact .inl ⟨d, z, h⟩
          · rw [List.mem_singleton.mp z] at h
            exact .inr h
    · have e0 : i = ds.length := by omega
      subst e0
      obtain ⟨T, hT1, nd, hT2, hT3⟩ := hh
      have kk : ∀ k, k ∈ ks ↔ k ∈ ms := fun k => by rw [hk k, hm k, List.take_length]
      have small : ks.length ≤ ms.length := List.Nodup.length_le_of_subset nd fun k hk' => hT3 k hk'
      refine .inl ⟨wk.stop S' H' x.s x.sub, p, T, ks.length, rfl, hT1, by omega, fun ys p2 py my ly hp2 => ?_⟩
      have ey : ys = ms := Sx.rise_one py hp fun k => by rw [my k, hT2 k, kk k]
      subst ey
      have x2 := x1.trans x
      exact q p2 _ S' _ (x2.trans (Ext.hid x2.sub hp2)) (Evl.fresh_back x2.h hp2) (sub_none x2.sub hp2) upd_same (RdL.ofInts ys)
end Pl

/-! Things that are changed in place: a region of trees, each object of it at one place alone. -/
namespace Pl
open PySem PySem.Spec PyProof.Rows L2
open Evl (Ex)

inductive Shp where
  | lst | dic (ks : List L2.Key) | ins (C : Addr) (fs : List Str)
inductive M where
  | d (d : D) | n (s : Shp) (ms : List M)
def Shp.ho (s : Shp) (o : HO) (vs : List V) : Prop := match s with
  | .lst => o = .lst vs
  | .dic ks => ks.length = vs.length ∧ o = .dK (ks.zip vs)
  | .ins C fs => fs.length = vs.length ∧ ∃ dx, o = .ins C dx (fs.zip vs)
mutual
inductive Own (K : PySem.W.Frag) (S H : Hp) : V → M → List Addr → Prop
  | d {v : V} {d : D} : Rd K S v d → Own K S H v (.d d) []
  | n {a : Addr} {o : HO} {s : Shp} {vs : List V} {ms : List M} {fp : List Addr} : H a = some o → s.ho o vs → OwnL K S H vs ms fp → Own K S H (.ref a) (.n s ms) (a :: fp)
inductive OwnL (K : PySem.W.Frag) (S H : Hp) : List V → List M → List Addr → Prop
  | nil : OwnL K S H [] [] []
  | cons {v : V} {vs : List V} {m : M} {ms : List M} {f g : List Addr} : Own K S H v m f → OwnL K S H vs ms g → OwnL K S H (v :: vs) (m :: ms) (f ++ g)
end
section
variable {K : PySem.W.Frag} {S S' H H' : Hp}
mutual
theorem Own.mono (e : Ex S S') : ∀ {v : V} {m : M} {fp : List Addr}, Own K S H v m fp → (∀ a ∈ fp, H' a = H a) → Own K S' H' v m fp
  | _, _, _, .d h, _ => .d (h.mono e)
  | _, _, _, .n h s r, k => .n (by rw [k _ List.mem_cons_self]; exact h) s (OwnL.mono e r fun a ha => k a (List.mem_cons_of_mem _ ha))
theorem OwnL.mono (e : Ex S S') : ∀ {vs : List V} {ms : List M} {fp : List Addr}, OwnL K S H vs ms fp → (∀ a ∈ fp, H' a = H a) → OwnL K S' H' vs ms fp
  | _, _, _, .nil, _ => .nil
  | _, _, _, .cons h r, k => .cons (Own.mono e h fun a ha => k a (List.mem_append_left _ ha)) (OwnL.mono e r fun a ha => k a (List.mem_append_right _ ha))
end
mutual
theorem Own.lays : ∀ {v : V} {m : M} {fp : List Addr}, Own K S H v m fp → ∀ a ∈ fp, H a ≠ none
  | _, _, _, .d _, a, ha => nomatch ha
  | _, _, _, .n h _ r, a, ha => by
    rcases List.mem_cons.mp ha with e | ha
    · rw [e, h]; exact fun z => nomatch z
    · exact OwnL.lays r a ha
theorem OwnL.lays : ∀ {vs : List V} {ms : List M} {fp : List Addr}, OwnL K S H vs ms fp → ∀ a ∈ fp, H a ≠ none
  | _, _, _, .nil, a, ha => nomatch ha
  | _, _, _, .cons h r, a, ha => by
    rcases List.mem_append.mp ha with ha | ha
    · exact Own.lays h a ha
    · exact OwnL.lays r a ha
end
theorem OwnL.length : ∀ {vs : List V} {ms : List M} {fp : List Addr}, OwnL K S H vs ms fp → vs.length = ms.length
  | _, _, _, .nil => rfl
  | _, _, _, .cons _ r => congrArg (· + 1) r.length
theorem OwnL.append : ∀ {vs ws : List V} {ms ns : List M} {f g : List Addr}, OwnL K S H vs ms f → OwnL K S H ws ns g → OwnL K S H (vs ++ ws) (ms ++ ns) (f ++ g)
  | _, _, _, _, _, _, .nil, s => s
  | _, _, _, _, _, _, .cons h r, s => by rw [List.append_assoc]; exact .cons h (OwnL.append r s)
theorem OwnL.split : ∀ {vs ws : List V} {ms ns : List M} {f : List Addr}, vs.length = ms.length → OwnL K S H (vs ++ ws) (ms ++ ns) f → ∃ f1 f2, f = f1 ++ f2 ∧ OwnL K S H vs ms f1 ∧ OwnL K S H ws ns f2
  | [], _, [], _, f, _, h => ⟨[], f, rfl, .nil, h⟩
  | _ :: vs, _, _ :: ms, _, _, l, .cons h r => by
    obtain ⟨f1, f2, rfl, h1, h2⟩ := OwnL.split (vs := vs) (ms := ms) (Nat.succ.inj l) r
    exact ⟨_, _, (List.append_assoc _ _ _).symm, .cons h h1, h2⟩
/-- plain data -/
theorem OwnL.ofD : ∀ {vs : List V} {ds : List D}, RdL K S vs ds → OwnL K S H vs (ds.map M.d) []
  | _, _, .nil => .nil
  | _, _, .cons h r => by
    have z := OwnL.cons (Own.d (H := H) h) (OwnL.ofD r)
    exact z
theorem OwnL.toD : ∀ {vs : List V} {ds : List D} {f : List Addr}, OwnL K S H vs (ds.map M.d) f → f = [] ∧ RdL K S vs ds
  | _, [], _, .nil => ⟨rfl, .nil⟩
  | _, _ :: _, _, .cons h r => by
    cases h with
    | d h =>
      obtain ⟨e, r'⟩ := OwnL.toD r
      subst e
      exact ⟨rfl, .cons h r'⟩
end
/-! ### places within a tree -/
def M.at : List Nat → M → Option M
  | [], m => some m
  | i :: π, .n _ ms => match ms[i]? with
    | some m => M.at π m
    | none => none
  | _ :: _, .d _ => none
def M.put (x : M) : List Nat → M → M
  | [], _ => x
  | i :: π, .n s ms => match ms[i]? with
    | some m => .n s (ms.set i (M.put x π m))
    | none => .n s ms
  | _ :: _, M.d z => M.d z
inductive Loc (H : Hp) : V → M → List Nat → V → Prop
  | nil {v : V} {m : M} : Loc H v m [] v
  | cons {a : Addr} {o : HO} {s : Shp} {vs : List V} {ms : List M} {i : Nat} {m : M} {v u : V} {π : List Nat} : H a = some o → s.ho o vs → vs[i]? = some v → ms[i]? = some m → Loc H v m π u → Loc H (.ref a) (.n s ms) (i :: π) u
theorem zip_inj {α β : Type} : ∀ {ks : List α} {xs ys : List β}, ks.length = xs.length → ks.length = ys.length → ks.zip xs = ks.zip ys → xs = ys
  | [], [], [], _, _, _ => rfl
  | _ :: ks, x :: xs, y :: ys, h1, h2, e => by
    simp only [List.zip_cons_cons, List.cons.injEq, Prod.mk.injEq, true_and] at e
    rw [e.1, zip_inj (Nat.succ.inj h1) (Nat.succ.inj h2) e.2]
theorem Shp.uniq {s : Shp} {o : HO} {xs ys : List V} (h1 : s.ho o xs) (h2 : s.ho o ys) : xs = ys := by
  cases s with
  | lst =>
    have e1 : o = .lst xs := h1
    have e2 : o = .lst ys := h2
    rw [e1] at e2
    cases e2
    rfl
  | dic ks =>
    obtain ⟨l1, e1⟩ := h1
    obtain ⟨l2, e2⟩ := h2
    rw [e1] at e2
    exact zip_inj l1 l2 (HO.dK.inj e2)
  | ins C fs =>
    obtain ⟨l1, d1, e1⟩ := h1
    obtain ⟨l2, d2, e2⟩ := h2
    rw [e1] at e2
    exact zip_inj l1 l2 (HO.ins.inj e2).2.2
section
variable {K : PySem.W.Frag} {S S' H H' : Hp}
theorem Loc.mono (e : Ex H H') {v u : V} {m : M} {π : List Nat} (h : Loc H v m π u) : Loc H' v m π u := by
  induction h with
  | nil => exact .nil
  | cons h1 h2 h3 h4 _ ih => exact .cons (e _ _ h1) h2 h3 h4 ih
theorem OwnL.focus : ∀ {vs : List V} {ms : List M} {fp : List Addr} {i : Nat} {m : M}, OwnL K S H vs ms fp → ms[i]? = some m → ∃ v f0 f1 f2, vs[i]? = some v ∧ fp = f0 ++ f1 ++ f2 ∧ Own K S H v m f1 ∧
    ∀ (S' H' : Hp) (m' : M) (f1' : List Addr), Ex S S' → (∀ a, a ∈ f0 ∨ a ∈ f2 → H' a = H a) → Own K S' H' v m' f1' → OwnL K S' H' vs (ms.set i m') (f0 ++ f1' ++ f2)
  | _, _, _, _, _, .nil, e => by simp at e
  | _, _, _, 0, _, .cons (v := v) (f := f) (g := g) h r, e => by
    simp at e; subst e
    refine ⟨v, [], f, g, rfl, by simp, h, fun S' H' m' f1' x k o => ?_⟩
    rw [List.nil_append]
    exact .cons o (r.mono x fun a ha => k a (.inr ha))
  | _, _, _, i + 1, _, .cons (v := v) (f := f) (g := g) h r, e => by
    obtain ⟨u, f0, f1, f2, h1, h2, h3, h4⟩ := OwnL.focus (i := i) r (by simpa using e)
    refine ⟨u, f ++ f0, f1, f2, by simpa using h1, by rw [h2]; simp [List.append_assoc], h3, fun S' H' m' f1' x k o => ?_⟩
    have z := OwnL.cons (h.mono x fun a ha => k a (.inl (List.mem_append_left _ ha))) (h4 S' H' m' f1' x (fun a ha => k a (ha.imp (List.mem_append_right _) id)) o)
    simpa [List.append_assoc] using z
theorem Own.focus {v u : V} {m : M} {π : List Nat} (l : Loc H v m π u) : ∀ {fp : List Addr}, Own K S H v m fp → ∃ m1 f0 f1 f2, M.at π m = some m1 ∧ fp = f0 ++ f1 ++ f2 ∧ Own K S H u m1 f1 ∧
    ∀ (S' H' : Hp) (m' : M) (f1' : List Addr), Ex S S' → (∀ a, a ∈ f0 ∨ a ∈ f2 → H' a = H a) → Own K S' H' u m' f1' → Own K S' H' v (M.put m' π m) (f0 ++ f1' ++ f2) := by
  induction l with
  | nil => exact fun {fp} h => ⟨_, [], fp, [], rfl, by simp, h, fun S' H' m' f1' x k o => by simpa [M.put] using o⟩
  | cons h1 h2 h3 h4 l ih =>
    intro fp h
    cases h with
    | n g1 g2 r =>
      rw [h1] at g1
      cases g1
      have e := Shp.uniq h2 g2
      subst e
      obtain ⟨w, f0, f1, f2, k1, k2, k3, k4⟩ := OwnL.focus r h4
      rw [h3] at k1
      cases k1
      obtain ⟨m1, e0, e1, e2, j1, j2, j3, j4⟩ := ih k3
      rename_i a _ _ _ _ _ _ _ _ _ _
      refine ⟨m1, a :: f0 ++ e0, e1, e2 ++ f2, ?_, ?_, j3, fun S' H' m' f1' x k o => ?_⟩
      · simp only [M.at, h4]; exact j1
      · rw [k2, j2]; simp [List.append_assoc]
      · have z := k4 S' H' _ _ x (fun b hb => k b (by
          rcases hb with hb | hb
          · exact .inl (List.mem_append_left _ (List.mem_cons_of_mem _ hb))
          · exact .inr (List.mem_append_right _ hb))) (j4 S' H' m' f1' x (fun b hb => k b (by
          rcases hb with hb | hb
          · exact .inl (List.mem_append_right _ hb)
          · exact .inr (List.mem_append_left _ hb))) o)
        have y := Own.n (K := K) (S := S') (H := H') (by rw [k a (.inl (by simp))]; exact h1) h2 z
        simp only [M.put, h4]
        simpa [List.append_assoc] using y
end
end Pl

/-! The logic of statements that change things in place: slots as before, and a region of trees. -/
namespace Pl
open PySem PySem.Spec PyProof.Rows L2
open Evl (Ex)

abbrev Gs := List (Addr × M)
open Classical in
/-- the base and, of the region, what stands now -/
noncomputable def cov (H0 H : Hp) (fp : List Addr) : Hp := fun a => if a ∈ fp then H a else H0 a
theorem cov_in {H0 H : Hp} {fp : List Addr} {a : Addr} (h : a ∈ fp) : cov H0 H fp a = H a := if_pos h
theorem cov_out {H0 H : Hp} {fp : List Addr} {a : Addr} (h : a ∉ fp) : cov H0 H fp a = H0 a := if_neg h
theorem cov_nil {H0 H : Hp} : cov H0 H [] = H0 := funext fun a => cov_out (fun h => nomatch h)
def gv (g : Gs) : List V := g.map fun x => V.ref x.1
def gm (g : Gs) : List M := g.map (·.2)
section
variable (K : PySem.W.Frag)
structure RG (S0 H0 : Hp) (g : Gs) (S H : Hp) (fp : List Addr) : Prop where
  own : OwnL K S H (gv g) (gm g) fp
  nd : fp.Nodup
  no : ∀ a ∈ fp, H0 a = none ∧ S0 a = none
def SG (S0 H0 : Hp) (ρ : Rho) (g : Gs) (S H : Hp) (σ : L2.St) : Prop := ∃ fp, RG K S0 H0 g S H fp ∧ Stt K S0 (cov H0 H fp) ρ S H σ
end
section
variable {K : PySem.W.Frag} {S0 H0 S H S' H' : Hp} {σ : L2.St} {ρ ρ' : Rho} {g g' : Gs} {fp fp' : List Addr}
/-- from one state to a later one -/
theorem Stt.mv (s : Stt K S0 (cov H0 H fp) ρ S H σ) (no : ∀ a ∈ fp, H0 a = none ∧ S0 a = none) (lays : ∀ a ∈ fp, H a ≠ none) (eS : Ex S S') (eH : Ex S' H')
    (k : ∀ a, a ∉ fp → H a ≠ none → H' a = H a) (dis : ∀ a, a ∉ fp → S a = none → H a ≠ none → S' a = none) (new : ∀ a ∈ fp', (a ∈ fp ∨ H a = none) ∧ S' a = none) : Stt K S0 (cov H0 H' fp') ρ S' H' σ := by
  have base : ∀ a o, H0 a = some o → a ∉ fp ∧ H a = some o := fun a o e => by
    have n : a ∉ fp := fun z => by rw [(no a z).1] at e; cases e
    exact ⟨n, s.ext.h a o (by rw [cov_out n]; exact e)⟩
  refine ⟨⟨s.ext.s.trans eS, fun a o e => ?_, eH, fun a h1 h2 => ?_⟩, s.env.mono eS, fun i ds h => ?_, s.apart⟩
  · by_cases hf : a ∈ fp'
    · rw [cov_in hf] at e; exact e
    · rw [cov_out hf] at e
      obtain ⟨n, h⟩ := base a o e
      rw [k a n (by rw [h]; exact fun z => nomatch z)]
      exact h
  · by_cases hf : a ∈ fp'
    · exact (new a hf).2
    · rw [cov_out hf] at h2
      cases q : H0 a with
      | none => exact absurd q h2
      | some o =>
        obtain ⟨n, h⟩ := base a o q
        have hn : H a ≠ none := by rw [h]; exact fun z => nomatch z
        exact dis a n (s.ext.dis a h1 (by rw [cov_out n]; exact h2)) hn
  · obtain ⟨p, vs, h1, h2, h3, h4, h5⟩ := s.own i ds h
    have hn : H p ≠ none := by rw [h4]; exact fun z => nomatch z
    have n : p ∉ fp := fun z => by rw [cov_in z] at h2; exact hn h2
    refine ⟨p, vs, h1, ?_, dis p n h3 hn, by rw [k p n hn]; exact h4, h5.mono eS⟩
    have n' : p ∉ fp' := fun z => (new p z).1.elim n hn
    rw [cov_out n'] 
    rw [cov_out n] at h2
    exact h2
theorem SG.noS (s : Stt K S0 (cov H0 H fp) ρ S H σ) (r : RG K S0 H0 g S H fp) : ∀ a ∈ fp, S a = none := fun a ha => s.ext.dis a (r.no a ha).2 (by rw [cov_in ha]; exact r.own.lays a ha)
/-- all of the region as it is -/
theorem SG.go (s : SG K S0 H0 ρ g S H σ) (x : Ext S H S' H') : SG K S0 H0 ρ g S' H' σ := by
  obtain ⟨fp, r, s⟩ := s
  have n := SG.noS s r
  have same : ∀ a, H a ≠ none → H' a = H a := fun a ha => by
    cases q : H a with
    | none => exact absurd q ha
    | some o => exact x.h a o q
  exact ⟨fp, ⟨r.own.mono x.s fun a ha => same a (r.own.lays a ha), r.nd, r.no⟩, s.mv r.no r.own.lays x.s x.sub (fun a _ h => same a h) (fun a _ h1 h2 => x.dis a h1 h2) fun a ha => ⟨.inl ha, x.dis a (n a ha) (r.own.lays a ha)⟩⟩
theorem SG.env (s : SG K S0 H0 ρ g S H σ) : Env K S σ ρ := s.elim fun _ z => z.2.env
theorem SG.sub (s : SG K S0 H0 ρ g S H σ) : Ex S H := s.elim fun _ z => z.2.ext.sub
end
/-! ### statements -/
inductive Rs where
  | d (d : D) | o (es : List D) | t (m : M)
section
variable (K : PySem.W.Frag)
def Res (S0 H0 : Hp) (ρ : Rho) (g : Gs) (S H : Hp) (σ : L2.St) (v : V) : Rs → Prop
  | .d d => SG K S0 H0 ρ g S H σ ∧ Rd K S v d
  | .o es => SG K S0 H0 (ρ ++ [.o es]) g S H (σ ++ [some v])
  | .t m => ∃ p, v = .ref p ∧ SG K S0 H0 ρ (g ++ [(p, m)]) S H σ
structure FM where
  nx : Rho → Gs → Prop := fun _ _ => False
  rt : Rs → Gs → Prop := fun _ _ => False
  bk : Rho → Gs → Prop := fun _ _ => False
  ct : Rho → Gs → Prop := fun _ _ => False
structure AccM (S0 H0 S : Hp) (F : FM) (Dd : Ends) : Prop where
  nx : ∀ ρ g S' H' σ, F.nx ρ g → Ex S S' → SG K S0 H0 ρ g S' H' σ → Dd.nx σ H'
  bk : ∀ ρ g S' H' σ, F.bk ρ g → Ex S S' → SG K S0 H0 ρ g S' H' σ → Dd.bk σ H'
  ct : ∀ ρ g S' H' σ, F.ct ρ g → Ex S S' → SG K S0 H0 ρ g S' H' σ → Dd.ct σ H'
  rt : ∀ r g v ρ S' H' σ, F.rt r g → Res K S0 H0 ρ g S' H' σ v r → Dd.rt v H'
def TM (t : TS) (ρ : Rho) (g : Gs) (F : FM) : Prop := ∀ S0 H0 S H σ Dd, SG K S0 H0 ρ g S H σ → AccM K S0 H0 S F Dd → t Dd σ H
/-- an expression that may change the region -/
def EvX (te : TE) (ρ : Rho) (g : Gs) (r : Rs) (g' : Gs) : Prop := ∀ S0 H0 S H σ, SG K S0 H0 ρ g S H σ → ∀ Q : VK, (∀ v S' H', Ex S S' → Res K S0 H0 ρ g' S' H' σ v r → Q v H') → te σ H Q
def EvXT (tt : TT) (ρ : Rho) (g : Gs) (b : Bool) (g' : Gs) : Prop := ∀ S0 H0 S H σ, SG K S0 H0 ρ g S H σ → ∀ Q : Bool → Hp → Prop, (∀ S' H', Ex S S' → SG K S0 H0 ρ g' S' H' σ → Q b H') → tt σ H Q
end
section
variable {K : PySem.W.Frag} {S0 H0 S H S' H' : Hp} {σ : L2.St} {ρ ρ' ρ1 : Rho} {g g' g1 : Gs} {F G : FM} {t u : TS} {te : TE} {c : TT} {d : D} {es ds : List D} {Dd : Ends} {i : Nat} {b : Bool} {r : Rs}
theorem AccM.mono (e : Ex S S') (a : AccM K S0 H0 S F Dd) : AccM K S0 H0 S' F Dd :=
  ⟨fun ρ g S2 H2 σ h x s => a.nx ρ g S2 H2 σ h (e.trans x) s, fun ρ g S2 H2 σ h x s => a.bk ρ g S2 H2 σ h (e.trans x) s, fun ρ g S2 H2 σ h x s => a.ct ρ g S2 H2 σ h (e.trans x) s, a.rt⟩
theorem EvX.of (h : EvD K te ρ d) : EvX K te ρ g (.d d) g := fun S0 H0 S H σ s Q q => h S H σ s.sub s.env Q fun v S' H' x r => q v S' H' x.s ⟨s.go x, r⟩
theorem EvXT.of (h : EvT K c ρ b) : EvXT K c ρ g b g := fun S0 H0 S H σ s Q q => h S H σ s.sub s.env Q fun S' H' x => q S' H' x.s (s.go x)
theorem TM.weak (k : TM K t ρ g F) (n : ∀ ρ g, F.nx ρ g → G.nx ρ g) (r : ∀ d g, F.rt d g → G.rt d g) (b : ∀ ρ g, F.bk ρ g → G.bk ρ g) (c : ∀ ρ g, F.ct ρ g → G.ct ρ g) : TM K t ρ g G := fun S0 H0 S H σ Dd s a =>
  k S0 H0 S H σ Dd s ⟨fun ρ g S' H' σ h => a.nx ρ g S' H' σ (n ρ g h), fun ρ g S' H' σ h => a.bk ρ g S' H' σ (b ρ g h), fun ρ g S' H' σ h => a.ct ρ g S' H' σ (c ρ g h), fun d g v ρ S' H' σ h => a.rt d g v ρ S' H' σ (r d g h)⟩
theorem TM.seqP {N : Rho → Gs → Prop} (h : TM K t ρ g { F with nx := N }) (k : ∀ ρ' g', N ρ' g' → TM K u ρ' g' F) : TM K (tSeq t u) ρ g F := fun S0 H0 S H σ Dd s a =>
  h S0 H0 S H σ { Dd with nx := u Dd } s ⟨fun ρ' g' S' H' σ' n e s' => k ρ' g' n S0 H0 S' H' σ' Dd s' (a.mono e), a.bk, a.ct, a.rt⟩
theorem TM.seq (h : TM K t ρ g { F with nx := fun r x => r = ρ1 ∧ x = g1 }) (k : TM K u ρ1 g1 F) : TM K (tSeq t u) ρ g F := TM.seqP h fun _ _ e => by
  obtain ⟨e1, e2⟩ := e
  subst e1
  subst e2
  exact k
theorem TM.next (h : F.nx ρ g) : TM K tNext ρ g F := fun S0 H0 S H σ Dd s a => a.nx ρ g S H σ h (Ex.refl S) s
theorem TM.brk (h : F.bk ρ g) : TM K tBreak ρ g F := fun S0 H0 S H σ Dd s a => a.bk ρ g S H σ h (Ex.refl S) s
theorem TM.cont (h : F.ct ρ g) : TM K tCont ρ g F := fun S0 H0 S H σ Dd s a => a.ct ρ g S H σ h (Ex.refl S) s
theorem TM.retN (k : F.rt (.d .non) g) : TM K tRetN ρ g F := fun S0 H0 S H σ Dd s a => a.rt _ g .non ρ S H σ k ⟨s, .non⟩
theorem TM.retX (h : EvX K te ρ g r g') (k : F.rt r g') : TM K (tRet te) ρ g F := fun S0 H0 S H σ Dd s a =>
  h S0 H0 S H σ s _ fun v S' H' _ y => a.rt r g' v ρ S' H' σ k y
theorem TM.ifX (h : EvXT K c ρ g b g') (h1 : b = true → TM K t ρ g' F) (h2 : b = false → TM K u ρ g' F) : TM K (tIfS c t u) ρ g F := fun S0 H0 S H σ Dd s a =>
  h S0 H0 S H σ s _ fun S' H' x s' => by
    cases b with
    | true =>
      show t Dd σ H'
      exact h1 rfl S0 H0 S' H' σ Dd s' (a.mono x)
    | false =>
      show u Dd σ H'
      exact h2 rfl S0 H0 S' H' σ Dd s' (a.mono x)
theorem TM.guard (h : EvXT K c ρ g b g') (h1 : b = true → TM K t ρ g' { F with nx := fun _ _ => False }) (h2 : b = false → TM K u ρ g' F) : TM K (tSeq (tIfS c t tNext) u) ρ g F :=
  TM.seqP (N := fun r x => (r = ρ ∧ x = g') ∧ b = false) (TM.ifX h (fun e => (h1 e).weak (fun _ _ z => z.elim) (fun _ _ z => z) (fun _ _ z => z) fun _ _ z => z) fun e => TM.next ⟨⟨rfl, rfl⟩, e⟩) fun r x z => by
    obtain ⟨⟨e1, e3⟩, e2⟩ := z
    subst e1
    subst e3
    exact h2 e2
theorem TM.while (Pv : Nat → Rho → Gs → Prop) {m0 : Nat} (h0 : Pv m0 ρ g) (hs : ∀ (m : Nat) (ρ' : Rho) (g' : Gs), Pv m ρ' g' → ∃ b g2, EvXT K c ρ' g' b g2 ∧ (b = true → TM K t ρ' g2 { F with nx := fun r x => ∃ m', m' < m ∧ Pv m' r x, ct := fun r x => ∃ m', m' < m ∧ Pv m' r x, bk := F.nx }) ∧ (b = false → F.nx ρ' g2)) :
    TM K (tWhile c t) ρ g F := fun S0 H0 S H σ Dd s a => by
  refine ⟨fun m σ' H' => ∃ ρ' g' S', Pv m ρ' g' ∧ Ex S S' ∧ SG K S0 H0 ρ' g' S' H' σ', ⟨m0, ρ, g, S, h0, Ex.refl S, s⟩, ?_⟩
  rintro m σ' H' ⟨ρ', g', S', p, e, s'⟩
  obtain ⟨b, g2, hb, h1, h2⟩ := hs m ρ' g' p
  refine hb S0 H0 S' H' σ' s' _ fun S2 H2 x2 s2 => ?_
  have e2 := e.trans x2
  cases b with
  | true =>
    refine ⟨fun σ3 H3 => ∃ m', m' < m ∧ ∃ ρ3 g3 S3, Pv m' ρ3 g3 ∧ Ex S S3 ∧ SG K S0 H0 ρ3 g3 S3 H3 σ3, fun σ3 H3 z => z, ?_⟩
    exact h1 rfl S0 H0 S2 H2 σ' _ s2 ⟨fun ρ3 g3 S3 H3 σ3 ⟨m', l, n⟩ e3 s3 => ⟨m', l, ρ3, g3, S3, n, e2.trans e3, s3⟩, fun ρ3 g3 S3 H3 σ3 n e3 s3 => a.nx ρ3 g3 S3 H3 σ3 n (e2.trans e3) s3, fun ρ3 g3 S3 H3 σ3 ⟨m', l, n⟩ e3 s3 => ⟨m', l, ρ3, g3, S3, n, e2.trans e3, s3⟩, a.rt⟩
  | false => exact a.nx ρ' g2 S2 H2 σ' (h2 rfl) e2 s2
theorem SG.setV {ps : List (Nat × D)} {vs : List V} (s : SG K S0 H0 ρ g S H σ) (r : RdL K S vs (ps.map (·.2))) : SG K S0 H0 (setR ρ ps) g S H (Pl.setV σ (ps.map (·.1)) vs) := by
  obtain ⟨fp, rg, s⟩ := s
  exact ⟨fp, rg, s.setV r⟩
/-- for over things that stand outside the region -/
theorem TM.for {wi : TI} {tg : TG} (hi : EvI K wi ρ ds) (Pv : Nat → Rho → Gs → Prop) (h0 : Pv 0 ρ g) (hs : ∀ (i : Nat) (d : D) (ρ' : Rho) (g' : Gs), ds[i]? = some d → Pv i ρ' g' → ∃ ps, EvG K tg d ps ∧ TM K t (setR ρ' ps) g' { F with nx := Pv (i + 1), ct := Pv (i + 1), bk := F.nx })
    (hd : ∀ ρ' g', Pv ds.length ρ' g' → F.nx ρ' g') : TM K (tFor wi tg t) ρ g F := fun S0 H0 S H σ Dd s a =>
  hi S H σ s.sub s.env _ fun J S1 H1 x1 wk => by
    refine ⟨fun i m σ' H' => m = ds.length - i ∧ i ≤ ds.length ∧ ∃ ρ' g' S', Pv i ρ' g' ∧ Ex S1 S' ∧ SG K S0 H0 ρ' g' S' H' σ', ⟨ds.length, by simp, Nat.zero_le _, ρ, g, S1, h0, Ex.refl S1, s.go x1⟩, ?_⟩
    rintro i m σ' H' ⟨rfl, hi, ρ', g', S', p, e, s'⟩
    by_cases hlt : i < ds.length
    · have hdd : ds[i]? = some ds[i] := List.getElem?_eq_getElem hlt
      obtain ⟨ps, hg, ht⟩ := hs i ds[i] ρ' g' hdd p
      refine .inr ⟨wk.go S' H' i e s'.sub hlt, fun σ2 H2 => ∃ ρ2 g2 S2, Pv (i + 1) ρ2 g2 ∧ Ex S1 S2 ∧ SG K S0 H0 ρ2 g2 S2 H2 σ2, fun σ2 H2 z => ⟨ds.length - (i + 1), by omega, rfl, hlt, z⟩, fun xv H'' y => ?_⟩
      obtain ⟨S2, x2, r2⟩ := wk.yld S' H' i xv H'' ds[i] e s'.sub hdd y
      refine hg S2 H'' σ' xv x2.sub r2 _ fun ws rw => ?_
      have e2 : Ex S1 S2 := e.trans x2.s
      refine ht S0 H0 S2 H'' _ _ ((s'.go x2).setV rw) ⟨fun ρ3 g3 S3 H3 σ3 n e3 s3 => ⟨ρ3, g3, S3, n, e2.trans e3, s3⟩, fun ρ3 g3 S3 H3 σ3 n e3 s3 => a.nx ρ3 g3 S3 H3 σ3 n ((x1.s.trans e2).trans e3) s3, fun ρ3 g3 S3 H3 σ3 n e3 s3 => ⟨ρ3, g3, S3, n, e2.trans e3, s3⟩, a.rt⟩
    · have e0 : i = ds.length := by omega
      subst e0
      exact .inl ⟨wk.stop S' H' e s'.sub, a.nx ρ' g' S' H' σ' (hd ρ' g' p) (x1.s.trans e) s'⟩
/-! ### assignment -/
theorem TM.asgX {tg : TG} {ps : List (Nat × D)} (h : EvX K te ρ g (.d d) g') (hg : EvG K tg d ps) (k : F.nx (setR ρ ps) g') : TM K (tAsg te tg) ρ g F := fun S0 H0 S H σ Dd s a =>
  h S0 H0 S H σ s _ fun v S1 H1 x1 ⟨s1, r1⟩ => hg S1 H1 σ v s1.sub r1 _ fun vs rv => a.nx _ g' S1 H1 _ k x1 (s1.setV rv)
theorem TM.dropX (h : EvX K te ρ g (.d d) g') (k : F.nx ρ g') : TM K (tDrop te) ρ g F := fun S0 H0 S H σ Dd s a =>
  h S0 H0 S H σ s _ fun v S1 H1 x1 z => a.nx _ g' S1 H1 _ k x1 z.1
/-- a temporary list is put into a slot -/
theorem Stt.pull {v : V} (s : Stt K S0 H0 (ρ ++ [.o es]) S H (σ ++ [some v])) : Stt K S0 H0 (ρ.set i (.o es)) S H (σ.set i (some v)) ∧ Stt K S0 H0 ρ S H σ := by
  have hl : σ.length = ρ.length := by
    have z := s.env.len
    simp only [List.length_append, List.length_cons, List.length_nil] at z
    omega
  have up : ∀ {j : Nat} {x : Sl}, ρ[j]? = some x → (ρ ++ [Sl.o es])[j]? = some x ∧ (σ ++ [some v])[j]? = σ[j]? := fun {j x} h => by
    have hj : j < ρ.length := (List.getElem?_eq_some_iff.mp h).1
    exact ⟨by rw [List.getElem?_append_left hj]; exact h, by rw [List.getElem?_append_left (by omega)]⟩
  have s0 : Stt K S0 H0 ρ S H σ := ⟨s.ext, ⟨hl, fun j x h => by
      obtain ⟨e1, e2⟩ := up h
      rw [← e2]
      exact s.env.val j x e1⟩, fun j ds h => by
      obtain ⟨e1, e2⟩ := up h
      rw [← e2]
      exact s.own j ds e1, fun j k a b p h1 h2 e1 e2 => s.apart j k a b p (up h1).1 (up h2).1 (by rw [(up h1).2]; exact e1) (by rw [(up h2).2]; exact e2)⟩
  refine ⟨?_, s0⟩
  have hlast : (ρ ++ [Sl.o es])[ρ.length]? = some (.o es) := by simp
  have hlastσ : (σ ++ [some v])[ρ.length]? = some (some v) := by rw [← hl]; simp
  obtain ⟨p, vs, h1, h2, h3, h4, h5⟩ := s.own ρ.length es hlast
  rw [hlastσ] at h1
  cases h1
  refine s0.setO h2 h3 h4 h5 fun j ds _ hj e => ?_
  have hjl : j < ρ.length := (List.getElem?_eq_some_iff.mp hj).1
  have z := s.apart j ρ.length ds es p (up hj).1 hlast (by rw [(up hj).2]; exact e) hlastσ
  omega
theorem TM.asgO (h : EvX K te ρ g (.o es) g') (k : F.nx (ρ.set i (.o es)) g') : TM K (tAsg te (gName i)) ρ g F := fun S0 H0 S H σ Dd s a =>
  h S0 H0 S H σ s _ fun v S1 H1 x1 ⟨fp, rg, s1⟩ => a.nx _ g' S1 H1 _ k x1 ⟨fp, rg, s1.pull.1⟩
theorem TM.asgN (h : EvX K te ρ g (.t m) g') (k : ∀ p, F.nx (ρ.set i (.k (.adr p))) (g' ++ [(p, m)])) : TM K (tAsg te (gName i)) ρ g F := fun S0 H0 S H σ Dd s a =>
  h S0 H0 S H σ s _ fun v S1 H1 x1 ⟨p, e, fp, rg, s1⟩ => by
    subst e
    exact a.nx _ _ S1 H1 _ (k p) x1 ⟨fp, rg, s1.set (.adr p)⟩
end
end Pl

/-! Things that are changed in place: calls, ends, forgetting, writing at a place. -/
namespace Pl
open PySem PySem.Spec PyProof.Rows L2
open Evl (Ex)
section
variable {K : PySem.W.Frag} {S0 H0 S H S' H' : Hp} {σ : L2.St} {ρ ρ' ρ1 : Rho} {g g' g1 g2 : Gs} {F G : FM} {t u : TS} {te : TE} {c : TT} {d : D} {es ds : List D} {Dd : Ends} {i : Nat} {b : Bool} {r : Rs}
theorem OwnL.perm (h : List.Perm g g') : ∀ {fp : List Addr}, OwnL K S H (gv g) (gm g) fp → ∃ fp', List.Perm fp fp' ∧ OwnL K S H (gv g') (gm g') fp' := by
  induction h with
  | nil => exact fun {fp} o => ⟨fp, .refl _, o⟩
  | cons x _ ih =>
    intro fp o
    cases o with
    | cons h r =>
      obtain ⟨fp', p, o'⟩ := ih r
      exact ⟨_, p.append_left _, .cons h o'⟩
  | swap x y l =>
    intro fp o
    cases o with
    | cons h r =>
      cases r with
      | cons h2 r2 =>
        refine ⟨_, ?_, OwnL.cons h2 (OwnL.cons h r2)⟩
        rw [← List.append_assoc, ← List.append_assoc]
        exact List.perm_append_comm.append_right _
  | trans _ _ ih1 ih2 =>
    intro fp o
    obtain ⟨f1, p1, o1⟩ := ih1 o
    obtain ⟨f2, p2, o2⟩ := ih2 o1
    exact ⟨f2, p1.trans p2, o2⟩
theorem cov_perm {fp fp' : List Addr} (h : ∀ a, a ∈ fp ↔ a ∈ fp') : cov H0 H fp = cov H0 H fp' := funext fun a => by
  by_cases ha : a ∈ fp
  · rw [cov_in ha, cov_in ((h a).mp ha)]
  · rw [cov_out ha, cov_out fun z => ha ((h a).mpr z)]
theorem SG.perm (h : List.Perm g g') (s : SG K S0 H0 ρ g S H σ) : SG K S0 H0 ρ g' S H σ := by
  obtain ⟨fp, rg, s⟩ := s
  obtain ⟨fp', p, o⟩ := rg.own.perm h
  refine ⟨fp', ⟨o, p.nodup_iff.mp rg.nd, fun a ha => rg.no a (p.mem_iff.mpr ha)⟩, ?_⟩
  rw [← cov_perm fun a => p.mem_iff]
  exact s
theorem gv_app : gv (g ++ g') = gv g ++ gv g' := List.map_append
theorem gm_app : gm (g ++ g') = gm g ++ gm g' := List.map_append
theorem gv_len : (gv g).length = (gm g).length := by unfold gv gm; rw [List.length_map, List.length_map]
theorem SG.forget (s : SG K S0 H0 ρ (g ++ g') S H σ) : SG K S0 H0 ρ g S H σ := by
  obtain ⟨fp, rg, s⟩ := s
  have o := rg.own
  rw [gv_app, gm_app] at o
  obtain ⟨f1, f2, e, o1, o2⟩ := o.split gv_len
  have n := SG.noS s rg
  have sub : ∀ a ∈ f1, a ∈ fp := fun a ha => e ▸ List.mem_append_left _ ha
  exact ⟨f1, ⟨o1, (List.nodup_append.mp (e ▸ rg.nd)).1, fun a ha => rg.no a (sub a ha)⟩, s.mv rg.no rg.own.lays (Ex.refl S) s.ext.sub (fun a _ _ => rfl) (fun a _ h _ => h) fun a ha => ⟨.inl (sub a ha), n a (sub a ha)⟩⟩
theorem TM.perm (h : List.Perm g g') (k : TM K t ρ g' F) : TM K t ρ g F := fun S0 H0 S H σ Dd s a => k S0 H0 S H σ Dd (s.perm h) a
theorem TM.forget (h : List.Perm g (g1 ++ g2)) (k : TM K t ρ g1 F) : TM K t ρ g F := fun S0 H0 S H σ Dd s a => k S0 H0 S H σ Dd (s.perm h).forget a
/-! ### slots left behind -/
theorem Stt.clear (s : Stt K S0 H0 ρ S H σ) : Stt K S0 H0 [] S H [] := ⟨s.ext, ⟨rfl, fun i d h => by simp at h⟩, fun i ds h => by simp at h, fun i j a b p h => by simp at h⟩
theorem Stt.last {v : V} (s : Stt K S0 H0 (ρ ++ [.o es]) S H (σ ++ [some v])) : Stt K S0 H0 [.o es] S H [some v] := by
  have hl : σ.length = ρ.length := by
    have z := s.env.len
    simp only [List.length_append, List.length_cons, List.length_nil] at z
    omega
  have hlast : (ρ ++ [Sl.o es])[ρ.length]? = some (.o es) := by simp
  have hlastσ : (σ ++ [some v])[ρ.length]? = some (some v) := by rw [← hl]; simp
  refine ⟨s.ext, ⟨rfl, fun i d h => ?_⟩, fun i ds h => ?_, fun i j a b p h1 h2 _ _ => ?_⟩
  · match i, h with
    | 0, h => simp at h
    | i + 1, h => simp at h
  · match i, h with
    | 0, h =>
      simp at h
      subst h
      obtain ⟨p, vs, h1, h⟩ := s.own ρ.length es hlast
      rw [hlastσ] at h1
      exact ⟨p, vs, h1, h⟩
    | i + 1, h => simp at h
  · match i, j, h1, h2 with
    | 0, 0, _, _ => rfl
    | i + 1, _, h1, _ => simp at h1
    | 0, j + 1, _, h2 => simp at h2
theorem Res.bare {v : V} (s : Res K S0 H0 ρ g S H σ v r) : Res K S0 H0 [] g S H [] v r := by
  cases r with
  | d d =>
    obtain ⟨⟨fp, rg, s⟩, r⟩ := s
    exact ⟨⟨fp, rg, s.clear⟩, r⟩
  | o es =>
    obtain ⟨fp, rg, s⟩ := s
    exact ⟨fp, rg, s.last⟩
  | t m =>
    obtain ⟨p, e, fp, rg, s⟩ := s
    exact ⟨p, e, fp, rg, s.clear⟩
/-! ### calls -/
/-- own lists beside a caller's slots -/
theorem Stt.beside {B : Hp} {v : V} (s : Stt K S0 B ρ S H σ) (h : ∃ p vs, v = .ref p ∧ B p = none ∧ S p = none ∧ H p = some (.lst vs) ∧ RdL K S vs es) (new : ∀ p : Addr, v = .ref p → ∀ (j : Nat) (ds : List D), ρ[j]? = some (.o ds) → σ[j]? ≠ some (some (.ref p))) :
    Stt K S0 B (ρ ++ [.o es]) S H (σ ++ [some v]) := by
  have hl := s.env.len
  have dn : ∀ {j : Nat} {x : Sl}, (ρ ++ [Sl.o es])[j]? = some x → (j < ρ.length ∧ ρ[j]? = some x ∧ (σ ++ [some v])[j]? = σ[j]?) ∨ (j = ρ.length ∧ x = .o es ∧ (σ ++ [some v])[j]? = some (some v)) := fun {j x} e => by
    by_cases hj : j < ρ.length
    · rw [List.getElem?_append_left hj] at e
      exact .inl ⟨hj, e, by rw [List.getElem?_append_left (by omega)]⟩
    · have hj' : j < ρ.length + 1 := by
        have z := (List.getElem?_eq_some_iff.mp e).1
        simpa using z
      have ej : j = ρ.length := by omega
      subst ej
      simp at e
      exact .inr ⟨rfl, e.symm, by rw [← hl]; simp⟩
  refine ⟨s.ext, ⟨by rw [List.length_append, List.length_append, hl]; rfl, fun j x e => ?_⟩, fun j ds e => ?_, fun j k a b p e1 e2 e3 e4 => ?_⟩
  · rcases dn e with ⟨_, e, q⟩ | ⟨_, e, _⟩
    · rw [q]; exact s.env.val j x e
    · cases e
  · rcases dn e with ⟨_, e, q⟩ | ⟨_, e, q⟩
    · rw [q]; exact s.own j ds e
    · cases e
      obtain ⟨p, vs, e1, h⟩ := h
      exact ⟨p, vs, by rw [q, e1], h⟩
  · rcases dn e1 with ⟨_, e1, q1⟩ | ⟨j1, e1, q1⟩
    · rcases dn e2 with ⟨_, e2, q2⟩ | ⟨_, _, q2⟩
      · exact s.apart j k a b p e1 e2 (by rw [← q1]; exact e3) (by rw [← q2]; exact e4)
      · rw [q2] at e4
        cases e4
        rw [q1] at e3
        exact absurd e3 (new p rfl j a e1)
    · rcases dn e2 with ⟨_, e2, q2⟩ | ⟨j2, _, _⟩
      · rw [q1] at e3
        cases e3
        rw [q2] at e4
        exact absurd e4 (new p rfl k b e2)
      · rw [j1, j2]
/-- what a callee leaves, seen by its caller -/
theorem SG.ret {fs f2 : List Addr} {v : V} (s : Stt K S0 (cov H0 H (fs ++ f2)) ρ S H σ) (o1 : OwnL K S H (gv g) (gm g) fs) (o2 : OwnL K S H (gv g2) (gm g2) f2) (nd : (fs ++ f2).Nodup) (no : ∀ a ∈ fs ++ f2, H0 a = none ∧ S0 a = none)
    (q : Res K S (cov H (fun _ => none) fs) [] g' S' H' [] v r) : Ex S S' ∧ Res K S0 H0 ρ (g2 ++ g') S' H' σ v r := by
  have lays : ∀ a ∈ fs ++ f2, H a ≠ none := fun a ha => by
    rcases List.mem_append.mp ha with h | h
    · exact o1.lays a h
    · exact o2.lays a h
  have dj : ∀ a ∈ f2, a ∉ fs := fun a h2 h1 => (List.nodup_append.mp nd).2.2 a h1 a h2 rfl
  -- one and the same for all kinds of results
  have main : ∀ {ρc : Rho} {σc : L2.St} {gc : Gs}, SG K S (cov H (fun _ => none) fs) ρc gc S' H' σc → ∃ fc, Ex S S' ∧ RG K S0 H0 (g2 ++ gc) S' H' (f2 ++ fc) ∧ Stt K S0 (cov H0 H' (f2 ++ fc)) ρ S' H' σ ∧ Stt K S (cov (cov H (fun _ => none) fs) H' fc) ρc S' H' σc ∧
      (∀ a, a ∉ fs → H a ≠ none → (cov (cov H (fun _ => none) fs) H' fc) a ≠ none) ∧ (∀ a, a ∈ f2 ++ fc → a ∉ fc → a ∉ fs ∧ H a ≠ none) ∧ ∀ a, H0 a ≠ none → a ∉ fs ∧ H a ≠ none := fun {ρc σc gc} sc => by
    obtain ⟨fc, rc, sc⟩ := sc
    have cin : ∀ a, a ∉ fs → cov H (fun _ => none) fs a = H a := fun a h => cov_out h
    have cn : ∀ a ∈ fc, a ∈ fs ∨ H a = none := fun a ha => by
      by_cases h : a ∈ fs
      · exact .inl h
      · have z := (rc.no a ha).1
        rw [cin a h] at z
        exact .inr z
    have keep : ∀ a, a ∉ fs → H a ≠ none → cov (cov H (fun _ => none) fs) H' fc a = H a := fun a h1 h2 => by
      rw [cov_out fun z => (cn a z).elim h1 h2, cin a h1]
    have same : ∀ a, a ∉ fs → H a ≠ none → H' a = H a := fun a h1 h2 => by
      cases e : H a with
      | none => exact absurd e h2
      | some o => exact sc.ext.h a o ((keep a h1 h2).trans e)
    have eS : Ex S S' := sc.ext.s
    have nS := SG.noS sc rc
    have h0n : ∀ a, H0 a ≠ none → a ∉ fs ∧ H a ≠ none := fun a h => by
      have nf : a ∉ fs ++ f2 := fun z => h (no a z).1
      refine ⟨fun z => nf (List.mem_append_left _ z), ?_⟩
      cases e : H0 a with
      | none => exact absurd e h
      | some o =>
        rw [s.ext.h a o (by rw [cov_out nf]; exact e)]
        exact fun z => nomatch z
    refine ⟨fc, eS, ⟨?_, ?_, fun a ha => ?_⟩, ?_, sc, fun a h1 h2 => by rw [keep a h1 h2]; exact h2, fun a h1 h2 => ?_, h0n⟩
    · rw [gv_app, gm_app]
      exact (o2.mono eS fun a ha => same a (dj a ha) (o2.lays a ha)).append rc.own
    · refine List.nodup_append.mpr ⟨(List.nodup_append.mp nd).2.1, rc.nd, fun a ha b hb e => ?_⟩
      subst e
      exact (cn a hb).elim (dj a ha) (o2.lays a ha)
    · rcases List.mem_append.mp ha with ha | ha
      · exact no a (List.mem_append_right _ ha)
      · rcases cn a ha with h | h
        · exact no a (List.mem_append_left _ h)
        · refine ⟨?_, ?_⟩
          · cases e : H0 a with
            | none => rfl
            | some o => exact absurd h (h0n a (by rw [e]; exact fun z => nomatch z)).2
          · cases e : S0 a with
            | none => rfl
            | some o => rw [s.ext.sub a o (s.ext.s a o e)] at h; cases h
    · refine s.mv no lays eS sc.ext.sub (fun a h1 h2 => same a (fun z => h1 (List.mem_append_left _ z)) h2) (fun a h1 h2 h3 => ?_) fun a ha => ?_
      · have h1' : a ∉ fs := fun z => h1 (List.mem_append_left _ z)
        exact sc.ext.dis a h2 (by rw [keep a h1' h3]; exact h3)
      · rcases List.mem_append.mp ha with ha | ha
        · have z := o2.lays a ha
          exact ⟨.inl (List.mem_append_right _ ha), sc.ext.dis a (s.ext.dis a (no a (List.mem_append_right _ ha)).2 (by rw [cov_in (List.mem_append_right _ ha)]; exact z)) (by rw [keep a (dj a ha) z]; exact z)⟩
        · exact ⟨(cn a ha).imp (List.mem_append_left _) id, nS a ha⟩
    · rcases List.mem_append.mp h1 with ha | ha
      · exact ⟨dj a ha, o2.lays a ha⟩
      · exact absurd ha h2
  cases r with
  | d d =>
    obtain ⟨sc, rd⟩ := q
    obtain ⟨fc, e, rg, st, _⟩ := main sc
    exact ⟨e, ⟨_, rg, st⟩, rd⟩
  | t m =>
    obtain ⟨p, ev, sc⟩ := q
    obtain ⟨fc, e, rg, st, _⟩ := main sc
    refine ⟨e, p, ev, _, ?_, st⟩
    show RG K S0 H0 ((g2 ++ g') ++ [(p, m)]) S' H' (f2 ++ fc)
    rw [List.append_assoc]
    exact rg
  | o es =>
    obtain ⟨fc, e, rg, st, sc, k1, k2, k3⟩ := main q
    refine ⟨e, _, rg, ?_⟩
    obtain ⟨p, vs, h1, h2, h3, h4, h5⟩ := sc.own 0 es rfl
    have h1 : v = .ref p := by simpa using h1
    subst h1
    have hn : p ∈ fs ∨ H p = none := by
      by_cases h : p ∈ fs
      · exact .inl h
      · refine .inr ?_
        cases z : H p with
        | none => rfl
        | some o => exact absurd h2 (k1 p h (by rw [z]; exact fun y => nomatch y))
    have nfc : p ∉ fc := fun z => by
      rw [cov_in z, h4] at h2
      cases h2
    refine st.beside ⟨p, vs, rfl, ?_, h3, h4, h5⟩ fun p' ep j ds hj ej => ?_
    · have nf : p ∉ f2 ++ fc := fun z => by
        obtain ⟨a1, a2⟩ := k2 p z nfc
        exact hn.elim a1 a2
      rw [cov_out nf]
      cases z : H0 p with
      | none => rfl
      | some o =>
        obtain ⟨a1, a2⟩ := k3 p (by rw [z]; exact fun y => nomatch y)
        exact (hn.elim a1 a2).elim
    · cases ep
      obtain ⟨q', us, g1, g2', g3, g4, g5⟩ := s.own j ds hj
      rw [ej] at g1
      cases g1
      have nq : H p ≠ none := by rw [g4]; exact fun y => nomatch y
      rcases hn with h | h
      · rw [cov_in (List.mem_append_left _ h)] at g2'
        exact nq g2'
      · exact nq h
end
end Pl

/-! Things that are changed in place: a def's promise, a look at the region as data. -/
namespace Pl
open PySem PySem.Spec PyProof.Rows L2
open Evl (Ex)
section
variable (K : PySem.W.Frag)
/-- a def's promise: what stands in the region before and behind -/
def spG (Rel : List D → Gs → Rs → Gs → Prop) : Sp := fun vs H Q _ => ∃ S H0 ds g r g', SG K S H0 [] g S H [] ∧ RdL K S vs ds ∧ Rel ds g r g' ∧ ∀ v S' H', Ex S S' → Res K S H0 [] g' S' H' [] v r → Q v H'
end
section
variable {K : PySem.W.Frag} {S0 H0 S H S' H' : Hp} {σ : L2.St} {ρ ρ' ρ1 ρv : Rho} {g g' g1 g2 : Gs} {F G : FM} {t u : TS} {te : TE} {tA : TA} {c : TT} {d : D} {es ds : List D} {Dd : Ends} {i : Nat} {b : Bool} {r : Rs} {E : XK}
/-- a call that takes the part g1 of the region -/
theorem ex_call {Rel : List D → Gs → Rs → Gs → Prop} (hp : List.Perm g (g1 ++ g2)) (ha : EvA K tA ρ ds) (hr : Rel ds g1 r g') : EvX K (tCall (spG K Rel) [] E tA) ρ g r (g2 ++ g') := fun S0 H0 S H σ s Q q =>
  ha S H σ s.sub s.env _ fun vs S1 H1 x1 r1 => by
    have s1 := (s.go x1).perm hp
    obtain ⟨fp, rg, st⟩ := s1
    have o := rg.own
    rw [gv_app, gm_app] at o
    obtain ⟨fs, f2, e, o1, o2⟩ := o.split gv_len
    subst e
    have n := SG.noS st rg
    have hc : cov (cov H1 (fun _ => none) fs) H1 fs = H1 := funext fun a => by
      by_cases h : a ∈ fs
      · rw [cov_in h]
      · rw [cov_out h, cov_out h]
    refine ⟨S1, cov H1 (fun _ => none) fs, ds, g1, r, g', ⟨fs, ⟨o1, (List.nodup_append.mp rg.nd).1, fun a ha => ⟨cov_in ha, n a (List.mem_append_left _ ha)⟩⟩, ?_⟩, by rw [List.append_nil]; exact r1, hr, fun v S2 H2 _ z => ?_⟩
    · rw [hc]
      exact (⟨Ext.refl st.ext.sub, ⟨rfl, fun i d h => by simp at h⟩, fun i ds h => by simp at h, fun i j a b p h => by simp at h⟩ : Stt K S1 H1 [] S1 H1 [])
    · obtain ⟨e, y⟩ := SG.ret st o1 o2 rg.nd rg.no z
      exact q v S2 H2 (x1.s.trans e) y
theorem EvX.perm (hp : List.Perm g' g2) (h : EvX K te ρ g r g') (hn : ∀ m, r ≠ .t m) : EvX K te ρ g r g2 := fun S0 H0 S H σ s Q q => h S0 H0 S H σ s Q fun v S' H' e z => q v S' H' e <| by
  cases r with
  | d d => exact ⟨z.1.perm hp, z.2⟩
  | o es => exact SG.perm hp z
  | t m => exact absurd rfl (hn m)
theorem EvX.test (h : EvX K te ρ g (.d (.bl b)) g') : EvXT K (tTest te) ρ g b g' := fun S0 H0 S H σ s Q q => h S0 H0 S H σ s _ fun v S' H' e z => by
  obtain ⟨z1, z2⟩ := z
  cases z2
  exact ⟨b, rfl, q S' H' e z1⟩
theorem EvX.tb (h : EvX K te ρ g (.d (.bl b)) g') : EvXT K (tB te) ρ g b g' := fun S0 H0 S H σ s Q q => h S0 H0 S H σ s _ fun v S' H' e z => by
  obtain ⟨z1, z2⟩ := z
  cases z2
  exact ⟨b, rfl, q S' H' e z1⟩
theorem EvXT.not (h : EvXT K c ρ g b g') : EvXT K (tNot c) ρ g (!b) g' := fun S0 H0 S H σ s Q q => h S0 H0 S H σ s _ fun S' H' e z => q S' H' e z
/-- own lists that are told become data -/
theorem EvX.tell (h : EvX K te ρ g (.o es) g') : EvX K te ρ g (.d (.lst es)) g' := fun S0 H0 S H σ s Q q => h S0 H0 S H σ s Q fun v S' H' e z => by
  obtain ⟨fp, rg, st⟩ := z
  have hl : σ.length = ρ.length := by
    have z := st.env.len
    simp only [List.length_append, List.length_cons, List.length_nil] at z
    omega
  have hlast : (ρ ++ [Sl.o es])[ρ.length]? = some (.o es) := by simp
  have hlastσ : (σ ++ [some v])[ρ.length]? = some (some v) := by rw [← hl]; simp
  obtain ⟨S2, e2, st2⟩ := st.freeze hlast
  have n := SG.noS st rg
  have hs : (ρ ++ [Sl.o es]).set ρ.length (.k (.lst es)) = ρ ++ [.k (.lst es)] := by simp
  rw [hs] at st2
  obtain ⟨w, w1, w2⟩ := st2.env.val ρ.length (.lst es) (by simp)
  rw [hlastσ] at w1
  cases w1
  have up : ∀ {j : Nat} {x : Sl}, ρ[j]? = some x → (ρ ++ [Sl.k (.lst es)])[j]? = some x ∧ (σ ++ [some v])[j]? = σ[j]? := fun {j x} h => by
    have hj : j < ρ.length := (List.getElem?_eq_some_iff.mp h).1
    exact ⟨by rw [List.getElem?_append_left hj]; exact h, by rw [List.getElem?_append_left (by omega)]⟩
  refine q v S2 H' (e.trans e2) ⟨⟨fp, ⟨rg.own.mono e2 fun a _ => rfl, rg.nd, rg.no⟩, st2.ext, ⟨hl, fun j x h => ?_⟩, fun j ds h => ?_, fun j k a b p h1 h2 e1 e2 => ?_⟩, w2⟩
  · obtain ⟨a1, a2⟩ := up h
    rw [← a2]
    exact st2.env.val j x a1
  · obtain ⟨a1, a2⟩ := up h
    rw [← a2]
    exact st2.own j ds a1
  · exact st2.apart j k a b p (up h1).1 (up h2).1 (by rw [(up h1).2]; exact e1) (by rw [(up h2).2]; exact e2)
/-- .. is None -/
theorem EvX.isN {z : D} (h : EvX K te ρ g (.d d) g') (hr : RV K rr d .non z) : EvX K (tOp rr te (tC .non)) ρ g (.d z) g' := fun S0 H0 S H σ s Q q => h S0 H0 S H σ s _ fun v S' H' e y => by
  obtain ⟨y1, y2⟩ := y
  refine hr S' H' v .non y1.sub y2 .non Q fun w S2 H2 x2 r2 => q w S2 H2 (e.trans x2.s) ⟨y1.go x2, r2⟩
theorem RG.go {fp : List Addr} (rg : RG K S0 H0 g S H fp) (st : Stt K S0 (cov H0 H fp) ρ S H σ) (x : Ext S H S' H') : RG K S0 H0 g S' H' fp ∧ Stt K S0 (cov H0 H' fp) ρ S' H' σ := by
  have n := SG.noS st rg
  have same : ∀ a, H a ≠ none → H' a = H a := fun a ha => by
    cases q : H a with
    | none => exact absurd q ha
    | some o => exact x.h a o q
  exact ⟨⟨rg.own.mono x.s fun a ha => same a (rg.own.lays a ha), rg.nd, rg.no⟩, st.mv rg.no rg.own.lays x.s x.sub (fun a _ h => same a h) (fun a _ h1 h2 => x.dis a h1 h2) fun a ha => ⟨.inl ha, x.dis a (n a ha) (rg.own.lays a ha)⟩⟩
theorem SG.besideF {fp : List Addr} {p : Addr} {vs : List V} (rg0 : RG K S0 H0 g S H fp) (st0 : Stt K S0 (cov H0 H fp) ρ S H σ) (hp : H p = none) (rg : RG K S0 H0 g S' H' fp) (st : Stt K S0 (cov H0 H' fp) ρ S' H' σ) (sp : S' p = none) (h' : H' p = some (.lst vs)) (r : RdL K S' vs es) :
    SG K S0 H0 (ρ ++ [.o es]) g S' H' (σ ++ [some (.ref p)]) := by
  have nf : p ∉ fp := fun z => rg0.own.lays p z hp
  refine ⟨fp, rg, st.beside ⟨p, vs, rfl, ?_, sp, h', r⟩ fun p' ep j ds hj ej => ?_⟩
  · rw [cov_out nf]
    cases e : H0 p with
    | none => rfl
    | some o =>
      have z := st0.ext.h p o (by rw [cov_out nf]; exact e)
      rw [hp] at z
      cases z
  · cases ep
    obtain ⟨q', us, g1, g2', g3, g4, g5⟩ := st0.own j ds hj
    rw [ej] at g1
    cases g1
    rw [hp] at g4
    cases g4
theorem EvX.fresh (h : EvF K te ρ es) : EvX K te ρ g (.o es) g := fun S0 H0 S H σ s Q q => h S H σ s.sub s.env Q fun p vs S' H' x hp sp h' r => by
  obtain ⟨fp, rg, st⟩ := s
  obtain ⟨rg1, st1⟩ := rg.go st x
  exact q _ S' H' x.s (SG.besideF rg st hp rg1 st1 sp h' r)
/-! ### a look at the region and at own lists -/
mutual
def M.see : M → D
  | .d d => d
  | .n .lst ms => .lst (seeL ms)
  | .n (.dic ks) ms => .dc ks (seeL ms)
  | .n (.ins C fs) ms => .ob C fs (seeL ms)
def seeL : List M → List D
  | [] => []
  | m :: ms => m.see :: seeL ms
end
theorem seeL_map (ms : List M) : seeL ms = ms.map M.see := by
  induction ms with
  | nil => rfl
  | cons m ms ih => rw [seeL, ih]; rfl
theorem seeL_d (ds : List D) : seeL (ds.map M.d) = ds := by
  induction ds with
  | nil => rfl
  | cons m ms ih => rw [List.map_cons, seeL, ih]; rfl
mutual
theorem Own.see (e : Ex S S') : ∀ {v : V} {m : M} {fp : List Addr}, Own K S H v m fp → (∀ a ∈ fp, S' a = H a) → Rd K S' v m.see
  | _, _, _, .d h, _ => h.mono e
  | _, _, _, .n (s := .lst) h ho r, k => by
    have ho : _ = HO.lst _ := ho
    subst ho
    exact .lst ((k _ List.mem_cons_self).trans h) (OwnL.see e r fun a ha => k a (List.mem_cons_of_mem _ ha))
  | _, _, _, .n (s := .dic ks) h ho r, k => by
    obtain ⟨l, ho⟩ := ho
    subst ho
    exact .dc ((k _ List.mem_cons_self).trans h) l (OwnL.see e r fun a ha => k a (List.mem_cons_of_mem _ ha))
  | _, _, _, .n (s := .ins C fs) h ho r, k => by
    obtain ⟨l, dx, ho⟩ := ho
    subst ho
    exact .ob ((k _ List.mem_cons_self).trans h) l (OwnL.see e r fun a ha => k a (List.mem_cons_of_mem _ ha))
theorem OwnL.see (e : Ex S S') : ∀ {vs : List V} {ms : List M} {fp : List Addr}, OwnL K S H vs ms fp → (∀ a ∈ fp, S' a = H a) → RdL K S' vs (seeL ms)
  | _, _, _, .nil, _ => .nil
  | _, _, _, .cons h r, k => .cons (Own.see e h fun a ha => k a (List.mem_append_left _ ha)) (OwnL.see e r fun a ha => k a (List.mem_append_right _ ha))
end
inductive View (g : Gs) : Rho → Rho → Prop
  | nil : View g [] []
  | root {a : Addr} {m : M} {ρ ρ' : Rho} : (a, m) ∈ g → View g ρ ρ' → View g (.k (.adr a) :: ρ) (.k m.see :: ρ')
  | own {ds : List D} {ρ ρ' : Rho} : View g ρ ρ' → View g (.o ds :: ρ) (.k (.lst ds) :: ρ')
  | same {s : Sl} {ρ ρ' : Rho} : View g ρ ρ' → View g (s :: ρ) (s :: ρ')
theorem View.length {ρ ρ' : Rho} (h : View g ρ ρ') : ρ'.length = ρ.length := by
  induction h with
  | nil => rfl
  | root _ _ ih => exact congrArg (· + 1) ih
  | own _ ih => exact congrArg (· + 1) ih
  | same _ ih => exact congrArg (· + 1) ih
theorem View.get {ρ ρ' : Rho} (h : View g ρ ρ') : ∀ (i : Nat) (d : D), ρ'[i]? = some (.k d) → ρ[i]? = some (.k d) ∨ (∃ ds, ρ[i]? = some (.o ds) ∧ d = .lst ds) ∨ ∃ a m, ρ[i]? = some (.k (.adr a)) ∧ (a, m) ∈ g ∧ d = m.see := by
  induction h with
  | nil => exact fun i d e => by simp at e
  | root hm _ ih =>
    intro i d e
    match i with
    | 0 => simp at e; exact .inr (.inr ⟨_, _, rfl, hm, e.symm⟩)
    | i + 1 => exact ih i d e
  | own _ ih =>
    intro i d e
    match i with
    | 0 => simp at e; exact .inr (.inl ⟨_, rfl, e.symm⟩)
    | i + 1 => exact ih i d e
  | same _ ih =>
    intro i d e
    match i with
    | 0 => exact .inl e
    | i + 1 => exact ih i d e
theorem OwnL.mem {fp : List Addr} {g : Gs} (h : OwnL K S H (gv g) (gm g) fp) {a : Addr} {m : M} (hm : (a, m) ∈ g) : ∃ f, (∀ b ∈ f, b ∈ fp) ∧ Own K S H (.ref a) m f := by
  induction g generalizing fp with
  | nil => cases hm
  | cons x g ih =>
    cases h with
    | cons h r =>
      rcases List.mem_cons.mp hm with e | hm
      · subst e
        exact ⟨_, fun b hb => List.mem_append_left _ hb, h⟩
      · obtain ⟨f, h1, h2⟩ := ih r hm
        exact ⟨f, fun b hb => List.mem_append_right _ (h1 b hb), h2⟩
open Classical in
noncomputable def withP (P : Addr → Prop) (S H : Hp) : Hp := fun a => if P a then H a else S a
open Classical in
noncomputable def woP (P : Addr → Prop) (S : Hp) : Hp := fun a => if P a then none else S a
theorem SG.look {fp : List Addr} (rg : RG K S0 H0 g S H fp) (s : Stt K S0 (cov H0 H fp) ρ S H σ) (hv : View g ρ ρv) : ∃ P : Addr → Prop, Ex S (withP P S H) ∧ Ex (withP P S H) H ∧ Env K (withP P S H) σ ρv ∧
    ∀ S' H', Ext (withP P S H) H S' H' → (∀ p, H p = none → S' p = none → woP P S' p = none) ∧ Ex S (woP P S') ∧ RG K S0 H0 g (woP P S') H' fp ∧ Stt K S0 (cov H0 H' fp) ρ (woP P S') H' σ := by
  have n := SG.noS s rg
  have no : ∀ a, (Owns ρ σ a ∨ a ∈ fp) → S a = none ∧ H a ≠ none := fun a h => by
    rcases h with ⟨i, ds, h1, h2⟩ | h
    · obtain ⟨p, vs, g1, g2, g3, g4, g5⟩ := s.own i ds h1
      rw [g1] at h2
      cases h2
      exact ⟨g3, by rw [g4]; exact fun z => nomatch z⟩
    · exact ⟨n a h, rg.own.lays a h⟩
  refine ⟨fun a => Owns ρ σ a ∨ a ∈ fp, ?_⟩
  generalize hP : (fun a => Owns ρ σ a ∨ a ∈ fp) = P
  have noP : ∀ a, P a → S a = none ∧ H a ≠ none := fun a h => no a (by rw [← hP] at h; exact h)
  have e1 : Ex S (withP P S H) := fun a o e => by
    unfold withP
    rw [if_neg fun z => by rw [(noP a z).1] at e; cases e]
    exact e
  have e2 : Ex (withP P S H) H := fun a o e => by
    unfold withP at e
    split at e
    · exact e
    · exact s.ext.sub a o e
  have inP : ∀ a, P a → withP P S H a = H a := fun a h => if_pos h
  refine ⟨e1, e2, ⟨by rw [hv.length]; exact s.env.len, fun i d h => ?_⟩, fun S' H' x => ?_⟩
  · rcases hv.get i d h with h | ⟨ds, h', e⟩ | ⟨a, m, h', hm, e⟩
    · obtain ⟨v, h1, h2⟩ := s.env.val i d h
      exact ⟨v, h1, h2.mono e1⟩
    · subst e
      obtain ⟨p, vs, g1, g2, g3, g4, g5⟩ := s.own i ds h'
      have hp : P p := by rw [← hP]; exact .inl ⟨i, ds, h', g1⟩
      exact ⟨_, g1, .lst ((inP p hp).trans g4) (g5.mono e1)⟩
    · subst e
      obtain ⟨v, h1, h2⟩ := s.env.val i _ h'
      cases h2
      obtain ⟨f, k1, k2⟩ := rg.own.mem hm
      exact ⟨_, h1, k2.see e1 fun b hb => inP b (by rw [← hP]; exact .inr (k1 b hb))⟩
  · have eS : Ex S (woP P S') := fun a o e => by
      unfold woP
      rw [if_neg fun z => by rw [(noP a z).1] at e; cases e]
      exact x.s a o (e1 a o e)
    have eH : Ex (woP P S') H' := fun a o e => by
      unfold woP at e
      split at e
      · cases e
      · exact x.sub a o e
    have same : ∀ a, H a ≠ none → H' a = H a := fun a ha => by
      cases q : H a with
      | none => exact absurd q ha
      | some o => exact x.h a o q
    refine ⟨fun p _ sp => ?_, eS, ⟨rg.own.mono eS fun a ha => same a (rg.own.lays a ha), rg.nd, rg.no⟩, ?_⟩
    · unfold woP
      split
      · rfl
      · exact sp
    · refine s.mv rg.no rg.own.lays eS eH (fun a _ h => same a h) (fun a h1 h2 h3 => ?_) fun a ha => ⟨.inl ha, ?_⟩
      · unfold woP
        split
        · rfl
        · rename_i hn
          exact x.dis a (by unfold withP; rw [if_neg hn]; exact h2) h3
      · unfold woP
        rw [if_pos]
        rw [← hP]
        exact .inr ha
/-- expressions that read the region and own lists, and tell what is flat -/
theorem EvX.look (hv : View g ρ ρv) (h : EvD K te ρv d) (hf : d.flat = true) : EvX K te ρ g (.d d) g := fun S0 H0 S H σ s Q q => by
  obtain ⟨fp, rg, s⟩ := s
  obtain ⟨P, e1, e2, v, w⟩ := SG.look rg s hv
  refine h _ H σ e2 v Q fun x S' H' xx r => ?_
  obtain ⟨_, eS, rg', s'⟩ := w S' H' xx
  exact q x _ H' eS ⟨⟨fp, rg', s'⟩, r.flat hf⟩
theorem EvX.lookF (hv : View g ρ ρv) (h : EvF K te ρv es) (hf : ∀ d ∈ es, d.flat = true) : EvX K te ρ g (.o es) g := fun S0 H0 S H σ s Q q => by
  obtain ⟨fp, rg, s⟩ := s
  obtain ⟨P, e1, e2, v, w⟩ := SG.look rg s hv
  refine h _ H σ e2 v Q fun p vs S' H' xx hp sp h' r => ?_
  obtain ⟨k, eS, rg', s'⟩ := w S' H' xx
  exact q _ _ H' eS (SG.besideF rg s hp rg' s' (k p hp sp) h' (r.flat hf))
theorem EvXT.look (hv : View g ρ ρv) (h : EvT K c ρv b) : EvXT K c ρ g b g := fun S0 H0 S H σ s Q q => by
  obtain ⟨fp, rg, s⟩ := s
  obtain ⟨P, e1, e2, v, w⟩ := SG.look rg s hv
  refine h _ H σ e2 v Q fun S' H' xx => ?_
  obtain ⟨_, eS, rg', s'⟩ := w S' H' xx
  exact q _ H' eS ⟨fp, rg', s'⟩
end
end Pl

/-! Things that are changed in place: writing at a place; dicts; a def's ends. -/
namespace Pl
open PySem PySem.Spec PyProof.Rows L2
open Evl (Ex)
section
variable {K : PySem.W.Frag} {S0 H0 S H S' H' : Hp} {σ : L2.St} {ρ ρ' ρ1 ρv : Rho} {g g' g1 g2 gl gr : Gs} {F G : FM} {t u : TS} {te ti td tx tk tv : TE} {tA : TA} {c : TT} {d : D} {es ds : List D} {ms : List M} {m m1 m2 : M} {a : Addr} {π : List Nat} {Dd : Ends} {i j : Nat} {b : Bool} {r : Rs} {E : XK} {s : Shp}
/-! ### places -/
theorem Loc.snoc {v w : V} {p : Addr} {o : HO} {vs : List V} {k : Nat} {mk : M} (l : Loc H v m π (.ref p)) (hat : M.at π m = some (.n s ms)) (h1 : H p = some o) (h2 : s.ho o vs) (h3 : vs[k]? = some w) (h4 : ms[k]? = some mk) : Loc H v m (π ++ [k]) w := by
  generalize hu : V.ref p = u at l
  induction l with
  | nil =>
    subst hu
    simp only [M.at, Option.some.injEq] at hat
    subst hat
    exact .cons h1 h2 h3 h4 .nil
  | cons g1 g2 g3 g4 _ ih =>
    simp only [M.at, g4] at hat
    exact .cons g1 g2 g3 g4 (ih hat hu)
def EvP (K : PySem.W.Frag) (te : TE) (ρ : Rho) (g : Gs) (a : Addr) (m : M) (π : List Nat) : Prop := ∀ S0 H0 S H σ, SG K S0 H0 ρ g S H σ → ∀ Q : VK, (∀ u S' H', Ext S H S' H' → Loc H' (.ref a) m π u → Q u H') → te σ H Q
theorem ep_var (h : ρ[i]? = some (.k (.adr a))) : EvP K (tVar i) ρ g a m [] := fun S0 H0 S H σ s Q q => by
  obtain ⟨v, h1, h2⟩ := s.env.val i _ h
  cases h2
  exact ⟨_, h1, q _ S H (Ext.refl s.sub) .nil⟩
/-- what stands at a place -/
theorem SG.at {u : V} (st : SG K S0 H0 ρ g S H σ) (hg : (a, m) ∈ g) (l : Loc H (.ref a) m π u) (hat : M.at π m = some (.n s ms)) : ∃ p o vs fq, u = .ref p ∧ H p = some o ∧ s.ho o vs ∧ OwnL K S H vs ms fq := by
  obtain ⟨fp, rg, st⟩ := st
  obtain ⟨f, _, o⟩ := rg.own.mem hg
  obtain ⟨m1, f0, f1, f2, e, _, o1, _⟩ := o.focus l
  rw [hat] at e
  cases e
  cases o1 with
  | n h1 h2 h3 => exact ⟨_, _, _, _, rfl, h1, h2, h3⟩
theorem ep_ix {k : Nat} {mk : M} (h : EvP K te ρ g a m π) (hi : EvD K ti ρ (.int (k : Int))) (hg : (a, m) ∈ g) (hat : M.at π m = some (.n .lst ms)) (hk : ms[k]? = some mk) : EvP K (tOp (rIx K) te ti) ρ g a m (π ++ [k]) := fun S0 H0 S H σ st Q q =>
  h S0 H0 S H σ st _ fun u S1 H1 x1 l => by
    have st1 := st.go x1
    obtain ⟨p, o, vs, fq, e1, e2, e3, e4⟩ := st1.at hg l hat
    subst e1
    refine hi S1 H1 σ st1.sub st1.env _ fun w S2 H2 x2 r2 => ?_
    cases r2
    have hl : o = .lst vs := e3
    subst hl
    have hkl : k < vs.length := by
      rw [e4.length]
      exact (List.getElem?_eq_some_iff.mp hk).1
    obtain ⟨w, hw⟩ : ∃ w, vs[k]? = some w := ⟨_, List.getElem?_eq_getElem hkl⟩
    exact .inl ⟨_, _, _, w, rfl, rfl, Evl.sq_of (x2.h _ _ e2), atI_nat hw, q w S2 H2 (x1.trans x2) ((l.mono x2.h).snoc hat (x2.h _ _ e2) e3 hw hk)⟩
/-- a place is written -/
theorem SG.write {u : V} (st : SG K S0 H0 ρ g S H σ) (hg : g = gl ++ (a, m) :: gr) (l : Loc H (.ref a) m π u) (hat : M.at π m = some (.n s ms)) : ∃ p o vs fq, u = .ref p ∧ H p = some o ∧ S p = none ∧ s.ho o vs ∧ OwnL K S H vs ms fq ∧ p ∉ fq ∧
    ∀ o' s' vs' ms' fq', s'.ho o' vs' → OwnL K S (upd H p o') vs' ms' fq' → fq'.Sublist fq → SG K S0 H0 ρ (gl ++ (a, M.put (.n s' ms') π m) :: gr) S (upd H p o') σ := by
  obtain ⟨fp, rg, st⟩ := st
  subst hg
  have o := rg.own
  have hgm : (gm (gl ++ (a, m) :: gr))[gl.length]? = some m := by
    unfold gm
    simp
  have hgv : (gv (gl ++ (a, m) :: gr))[gl.length]? = some (.ref a) := by
    unfold gv
    simp
  obtain ⟨v, f0, f1, f2, k1, k2, k3, k4⟩ := o.focus hgm
  rw [hgv] at k1
  cases k1
  obtain ⟨m1, e0, e1, e2, j1, j2, j3, j4⟩ := k3.focus l
  rw [hat] at j1
  cases j1
  cases j3 with
  | n h1 h2 h3 =>
    rename_i p o vs fq
    have n := SG.noS st rg
    have nd := rg.nd
    have pin : p ∈ fp := by rw [k2, j2]; simp
    have hnd : p ∉ f0 ∧ p ∉ f2 ∧ p ∉ e0 ∧ p ∉ e2 ∧ p ∉ fq := by
      rw [k2, j2] at nd
      simp only [List.nodup_append, List.nodup_cons, List.mem_append, List.mem_cons] at nd
      grind
    refine ⟨p, o, vs, fq, rfl, h1, n p pin, h2, h3, hnd.2.2.2.2, fun o' s' vs' ms' fq' ho own sub => ?_⟩
    have z := k4 S (upd H p o') _ _ (Ex.refl S) (fun b hb => upd_ne fun e => by subst e; exact hb.elim hnd.1 hnd.2.1) (j4 S (upd H p o') (.n s' ms') (p :: fq') (Ex.refl S) (fun b hb => upd_ne fun e => by subst e; exact hb.elim hnd.2.2.1 hnd.2.2.2.1) (.n upd_same ho own))
    have sb : (f0 ++ (e0 ++ (p :: fq') ++ e2) ++ f2).Sublist fp := by
      rw [k2, j2]
      exact ((List.Sublist.refl f0).append (((List.Sublist.refl e0).append (sub.cons₂ p)).append (List.Sublist.refl e2))).append (List.Sublist.refl f2)
    refine ⟨_, ⟨?_, sb.nodup nd, fun b hb => rg.no b (sb.subset hb)⟩, st.mv (fp' := f0 ++ (e0 ++ (p :: fq') ++ e2) ++ f2) rg.no rg.own.lays (Ex.refl S) (fun b u q => ?_) (fun b hb _ => upd_ne fun e => hb (e ▸ pin)) (fun b _ hb _ => hb) fun b hb => ⟨.inl (sb.subset hb), n b (sb.subset hb)⟩⟩
    · have eg1 : gv (gl ++ (a, M.put (.n s' ms') π m) :: gr) = gv (gl ++ (a, m) :: gr) := by
        unfold gv
        simp
      have eg2 : gm (gl ++ (a, M.put (.n s' ms') π m) :: gr) = (gm (gl ++ (a, m) :: gr)).set gl.length (M.put (.n s' ms') π m) := by
        unfold gm
        simp
      rw [eg1, eg2]
      exact z
    · rw [upd_ne fun e => by rw [e, n p pin] at q; cases q]
      exact st.ext.sub b u q
/-! ### lists -/
theorem TM.append (hp : EvP K te ρ g a m π) (hg : g = gl ++ (a, m) :: gr) (hat : M.at π m = some (.n .lst ms)) (hx : EvD K tx ρ d) (hl : ms.length < 100000) (k : F.nx ρ (gl ++ (a, M.put (.n .lst (ms ++ [.d d])) π m) :: gr)) :
    TM K (tDrop (tBM K "list" rAppend te (tCons tx tNil))) ρ g F := fun S0 H0 S H σ Dd st ac =>
  hp S0 H0 S H σ st _ fun u S1 H1 x1 l => by
    have st1 := st.go x1
    obtain ⟨p, o, vs, fq, e1, e2, e3, e4⟩ := st1.at (by rw [hg]; simp) l hat
    subst e1
    have e3 : o = .lst vs := e3
    subst e3
    refine ⟨.inl ⟨rfl, _, Evl.sq_of e2⟩, ?_⟩
    refine hx S1 H1 σ st1.sub st1.env _ fun v S2 H2 x2 r2 => ?_
    have st2 := st1.go x2
    obtain ⟨p', o, vs, fq, e1, e2, _, e3, e4, e5, w⟩ := st2.write hg (l.mono x2.h) hat
    cases e1
    have e3 : o = .lst vs := e3
    subst e3
    refine ⟨p, vs, v, rfl, rfl, e2, Evl.sz_lt (by rw [e4.length]; exact hl), ?_⟩
    refine ac.nx _ _ S2 _ σ k (x1.s.trans x2.s) (w _ .lst _ _ _ rfl ((e4.mono (Ex.refl _) fun b hb => upd_ne fun e => e5 (by rw [← e]; exact hb)).append (.cons (.d r2) .nil)) ?_)
    rw [List.append_nil, List.append_nil]
    exact List.Sublist.refl _
theorem TM.remove {ns : List Int} (hp : EvP K te ρ g a m π) (hg : g = gl ++ (a, m) :: gr) (hat : M.at π m = some (.n .lst (ns.map fun n => M.d (.int n)))) {z : Int} (hx : EvD K tx ρ (.int z)) (hj : ns[j]? = some z) (hno : ∀ q : Nat, q < j → ns[q]? ≠ some z)
    (k : F.nx ρ (gl ++ (a, M.put (.n .lst ((ns.eraseIdx j).map fun n => M.d (.int n))) π m) :: gr)) : TM K (tDrop (tBM K "list" rRemI te (tCons tx tNil))) ρ g F := fun S0 H0 S H σ Dd st ac =>
  hp S0 H0 S H σ st _ fun u S1 H1 x1 l => by
    have st1 := st.go x1
    obtain ⟨p, o, vs, fq, e1, e2, e3, e4⟩ := st1.at (by rw [hg]; simp) l hat
    subst e1
    have e3 : o = .lst vs := e3
    subst e3
    refine ⟨.inl ⟨rfl, _, Evl.sq_of e2⟩, ?_⟩
    refine hx S1 H1 σ st1.sub st1.env _ fun v S2 H2 x2 r2 => ?_
    cases r2
    have st2 := st1.go x2
    obtain ⟨p', o, vs, fq, e1, e2, _, e3, e4, e5, w⟩ := st2.write hg (l.mono x2.h) hat
    cases e1
    have e3 : o = .lst vs := e3
    subst e3
    have em : ∀ xs : List Int, xs.map (fun n => M.d (.int n)) = (xs.map D.int).map M.d := fun xs => by rw [List.map_map]; rfl
    rw [em] at e4
    obtain ⟨ef, rl⟩ := e4.toD
    have ev := rl.ints
    subst ev
    subst ef
    refine ⟨p, ns, z, j, rfl, rfl, e2, hj, hno, ?_⟩
    refine ac.nx _ _ S2 _ σ k (x1.s.trans x2.s) (w _ .lst ((ns.eraseIdx j).map V.int) _ [] rfl ?_ (List.Sublist.refl _))
    rw [em]
    exact OwnL.ofD (RdL.ofInts _)
/-- x = xs.pop() of an own list -/
theorem T.popO {F : FE} (h : ρ[i]? = some (.o (ds ++ [d]))) (k : F.nx ((ρ.set i (.o ds)).set j (.k d))) : T K (tAsg (tBM0 K "list" rPop (tVar i)) (gName j)) ρ F := fun S0 H0 S H σ Dd s a => by
  obtain ⟨p, vs, h1, h2, h3, h4, h5⟩ := s.own i _ h
  refine ⟨_, h1, .inl ⟨rfl, _, Evl.sq_of h4⟩, ?_⟩
  obtain ⟨v, hv, rv⟩ := h5.get (i := ds.length) (d := d) (by simp)
  have hl : vs.length = ds.length + 1 := by rw [h5.length]; simp
  refine ⟨p, vs, v, rfl, rfl, h4, by rw [hl]; exact hv, ?_⟩
  have r2 : RdL K S vs.dropLast ds := by
    have z := h5.take ds.length
    rw [List.take_append_of_le_length (Nat.le_refl _), List.take_length] at z
    rw [List.dropLast_eq_take, hl]
    exact z
  exact a.nx _ S _ _ k (Ex.refl S) ((s.put (vs := vs) h h1 r2).set rv)
/-! ### lifting -/
/-- a statement that does not touch the region, and does not return -/
def FM.at (F : FM) (g : Gs) : FE := { nx := fun r => F.nx r g, bk := fun r => F.bk r g, ct := fun r => F.ct r g }
theorem TM.of (h : T K t ρ (F.at g)) : TM K t ρ g F := fun S0 H0 S H σ Dd st ac => by
  obtain ⟨fp, rg, st⟩ := st
  have n := SG.noS st rg
  have back : ∀ {ρ' : Rho} {S' H' : Hp} {σ' : L2.St}, Ex S S' → Stt K S0 (cov H0 H fp) ρ' S' H' σ' → SG K S0 H0 ρ' g S' H' σ' := fun {ρ' S' H' σ'} e s' => by
    have same : ∀ a ∈ fp, H' a = H a := fun a ha => by
      cases q : H a with
      | none => exact absurd q (rg.own.lays a ha)
      | some o => exact s'.ext.h a o (by rw [cov_in ha]; exact q)
    have ec : cov H0 H' fp = cov H0 H fp := funext fun a => by
      by_cases ha : a ∈ fp
      · rw [cov_in ha, cov_in ha, same a ha]
      · rw [cov_out ha, cov_out ha]
    exact ⟨fp, ⟨rg.own.mono e same, rg.nd, rg.no⟩, by rw [ec]; exact s'⟩
  exact h S0 (cov H0 H fp) S H σ Dd st ⟨fun ρ' S' H' σ' n e s' => ac.nx ρ' g S' H' σ' n e (back e s'), fun ρ' S' H' σ' n e s' => ac.bk ρ' g S' H' σ' n e (back e s'), fun ρ' S' H' σ' n e s' => ac.ct ρ' g S' H' σ' n e (back e s'), fun _ _ _ _ z => z.elim, fun _ _ _ _ _ z => z.elim⟩
/-! ### returns -/
theorem TM.ret (h : EvD K te ρ d) (k : F.rt (.d d) g) : TM K (tRet te) ρ g F := TM.retX (EvX.of h) k
theorem TM.retO (h : ρ[i]? = some (.o es)) (k : F.rt (.o es) g) : TM K (tRet (tVar i)) ρ g F := fun S0 H0 S H σ Dd st ac => by
  obtain ⟨fp, rg, st⟩ := st
  obtain ⟨p, vs, h1, h2, h3, h4, h5⟩ := st.own i es h
  refine ⟨_, h1, ac.rt (.o es) g _ [] S H [] k ⟨fp, rg, ?_⟩⟩
  exact (st.clear).beside ⟨p, vs, rfl, h2, h3, h4, h5⟩ fun p' _ j ds hj => by simp at hj
theorem TM.retT (h : ρ[i]? = some (.k (.adr a))) (hp : List.Perm g (g1 ++ [(a, m)])) (k : F.rt (.t m) g1) : TM K (tRet (tVar i)) ρ g F := fun S0 H0 S H σ Dd st ac => by
  obtain ⟨v, h1, h2⟩ := st.env.val i _ h
  cases h2
  exact ⟨_, h1, ac.rt (.t m) g1 _ ρ S H σ k ⟨a, rfl, st.perm hp⟩⟩
/-! ### a def -/
def FM.tell (r : Rs) (g : Gs) : FM := { nx := fun _ x => r = .d .non ∧ ∃ e, List.Perm x (g ++ e), rt := fun q x => q = r ∧ ∃ e, List.Perm x (g ++ e) }
theorem SG.start {vs : List V} {N : List Str} (st : SG K S0 H0 [] g S H []) (rl : RdL K S vs ds) : SG K S0 H0 (startR N.length ds) g S H (L2.start N vs) := by
  obtain ⟨fp, rg, st⟩ := st
  have z := stt_start (N := N) st.ext.sub rl
  refine ⟨fp, rg, st.ext, z.env, fun i es h => ?_, fun i j a b p h => ?_⟩
  · obtain ⟨p, vs, _, h2, _, h4, _⟩ := z.own i es h
    rw [h2] at h4
    cases h4
  · obtain ⟨p, vs, _, h2, _, h4, _⟩ := z.own i a h
    rw [h2] at h4
    cases h4
theorem TM.fin {Rel : List D → Gs → Rs → Gs → Prop} {vs : List V} {N : List Str} {H : Hp} {Q : VK} {E : XK} (h : spG K Rel vs H Q E) (k : ∀ ds g r g', Rel ds g r g' → TM K t (startR N.length ds) g (.tell r g')) : t { nx := fun _ H' => Q .non H', rt := Q } (L2.start N vs) H := by
  obtain ⟨S, H0, ds, g, r, g', st, rl, rel, q⟩ := h
  refine k ds g r g' rel S H0 S H _ _ (st.start rl) ⟨fun ρ x S' H' σ n e s => ?_, fun _ _ _ _ _ z => z.elim, fun _ _ _ _ _ z => z.elim, fun r' x v ρ S' H' σ n s => ?_⟩
  · obtain ⟨n, ex, hp⟩ := n
    subst n
    obtain ⟨fp, rg, s⟩ := (s.perm hp).forget
    exact q .non S' H' s.ext.s ⟨⟨fp, rg, s.clear⟩, .non⟩
  · obtain ⟨n, ex, hp⟩ := n
    subst n
    have s := s.bare
    have fin : ∀ {ρc σc}, SG K S H0 ρc x S' H' σc → Ex S S' ∧ SG K S H0 ρc g' S' H' σc := fun {ρc σc} z => by
      obtain ⟨fp, rg, y⟩ := (z.perm hp).forget
      exact ⟨y.ext.s, fp, rg, y⟩
    cases r' with
    | d d =>
      obtain ⟨e, y⟩ := fin s.1
      exact q v S' H' e ⟨y, s.2⟩
    | o es =>
      obtain ⟨e, y⟩ := fin s
      exact q v S' H' e y
    | t m =>
      obtain ⟨p, ev, s⟩ := s
      have hp2 : List.Perm (x ++ [(p, m)]) ((g' ++ [(p, m)]) ++ ex) := by
        refine (hp.append_right _).trans ?_
        rw [List.append_assoc, List.append_assoc]
        exact (List.perm_append_comm).append_left _
      obtain ⟨fp, rg, y⟩ := (s.perm hp2).forget
      exact q v S' H' y.ext.s ⟨p, ev, fp, rg, y⟩
theorem spG_len {Rel : List D → Gs → Rs → Gs → Prop} {n : Nat} (h : ∀ ds g r g', Rel ds g r g' → ds.length = n) : ∀ vs H Q E, spG K Rel vs H Q E → vs.length = n := fun vs H Q E ⟨S, H0, ds, g, r, g', _, rl, rel, _⟩ => rl.length.trans (h ds g r g' rel)
end
end Pl

/-! sorted(d), d a dict whose keys are whole numbers, fewer than 64. -/
namespace Sk
open PySem PySem.Spec PySem.Calls PyProof.Rows L2 PySem.W
def rSortedD : List V → Hp → VK → Prop := fun vs H Q => ∃ (a : Addr) (kvs : List (L2.Key × V)) (ns : List Int), vs = [V.ref a] ∧ H a = some (.dK kvs) ∧ kvs.map (·.1) = ns.map Sum.inl ∧ kvs.length < 64 ∧
  ∀ (ms : List Int) (p : Addr), ms.Pairwise (· ≤ ·) → ms.Perm ns → H p = none → Q (.ref p) (upd H p (.lst (ms.map V.int)))
theorem ints_at : ∀ {vs : List Value} {ns : List Int}, vs.length = ns.length → (∀ (j : Nat) (v : Value), vs[j]? = some v → ∃ k tk, ns[j]? = some k ∧ v = Value.int k tk) → IntsAre vs ns
  | [], [], _, _ => .nil
  | v :: vs, n :: ns, l, h => by
    obtain ⟨k, tk, e1, e2⟩ := h 0 v rfl
    simp at e1
    subst e1
    subst e2
    exact .cons _ tk (ints_at (Nat.succ.inj l) fun j u hu => h (j + 1) u hu)
theorem cr_sortedD {X : Cx} (hc : X.calm = true) : CallR X (.builtin "sorted") rSortedD := by
  intro pins s σ H vs us Q I r h
  obtain ⟨a, kvs, ns, rfl, ha, hk, h64, q⟩ := h
  rw [Vals.ref1 r]
  obtain ⟨_, hsys, ws, kv, dd⟩ := dk_of I.hok ha
  obtain ⟨ep, hat⟩ := dd.dictAt
  have hh := I.ok.hd hc
  have hl : ws.length = kvs.length := kv.length.symm
  have hnl : ns.length = kvs.length := by
    have z := congrArg List.length hk
    rw [List.length_map, List.length_map] at z
    exact z.symm
  refine Calls.call_function_entry kind_sorted plain_sorted entry_sorted (args_sorted1 _) ?_
  unfold Builtin.«sorted»
  refine wpAny_bind (m := checkCount "sorted" 1 1 _) (wpAny_pure ?_)
  refine wpAny_bind (kdu_collect (A := X.A.in1) (kdl_dict (knd := mixKind X.prog X.w) (kvs := ws) (ep := ep) hsys) hh hat (by rw [hl, sizeLine_eq]; omega) fun h1 tk acc k1 hacc => ?_)
  have hvl : acc.toList.length = ws.length := by rw [Array.length_toList]; exact hacc.1
  have hI : IntsAre acc.toList ns := ints_at (by rw [hvl, hl, hnl]) fun j v hv => by
    obtain ⟨k, x, hx, hk2⟩ := hacc.2 j v (by rw [← Array.getElem?_toList]; exact hv)
    have e1 : (ws.map (·.1))[j]? = some k := by rw [List.getElem?_map, hx]; rfl
    rw [← kv.keys, hk, List.getElem?_map] at e1
    cases e2 : ns[j]? with
    | none => rw [e2] at e1; cases e1
    | some n =>
      rw [e2] at e1
      cases e1
      have hk3 : keyIs (Sum.inl n) v = true := hk2
      rcases keyIs_shape hk3 with ⟨i, t, ev, e⟩ | ⟨z, t, ev, e⟩
      · cases ev
        exact ⟨_, t, rfl, e⟩
      · cases ev
  refine wpAny_bind (wpAny_newList ?_ (by rw [hvl, hl, sizeLine_eq]; omega))
  have hoL : (h1.push (seqObj "list" acc.toList.toArray 0)).get? h1.objs.size = some (seqObj "list" acc.toList.toArray 0) := Heap.get?_push_size _ rfl
  refine wpAny_bind (wpAny_holding (wpAny_call_entry slot_list_sort ⟨_, hoL, rfl⟩ entry_list_sort (list_sort_tree hoL hI (by rw [hvl, hl]; exact h64) fun out ns' a1 a2 a3 => ⟨_, rfl, ?_⟩) (args_list_sort _)))
  obtain ⟨c, hcc⟩ := sortedHeap_at (vs := acc.toList) (out := out) hoL
  have I1 : L2.Inv X pins σ H { s with heap := h1, toks := tk } := I.kept (t' := tk) k1
  have hn : H h1.objs.size = none := I1.hok.fresh (Nat.le_refl _)
  have hlen : (ns'.map V.int).length ≤ sizeLine := by rw [List.length_map, a2.length_eq, hnl, sizeLine_eq]; omega
  have kS : ∀ b u, h1.get? b = some u → (sortedHeap (h1.push (seqObj "list" acc.toList.toArray 0)) h1.objs.size acc.toList out).get? b = some u := fun b u q => by
    have hlt := Heap.lt_size q
    rw [sortedHeap_old (Nat.ne_of_lt hlt) (by rw [size_push']; exact Nat.lt_succ_of_lt hlt)]
    exact Heap.get?_push_of_some _ q
  have J := I1.laid (a := h1.objs.size) (o := .lst (ns'.map V.int)) (h' := sortedHeap (h1.push (seqObj "list" acc.toList.toArray 0)) h1.objs.size acc.toList out) (t' := tk) kS (Nat.le_refl _) ⟨hlen, out.toList, c, vals_of_ints a1, hcc⟩
  exact wpAny_pure ⟨_, rfl, .ref h1.objs.size, _, J, rfl, q ns' _ a3 a2 hn⟩
end Sk

/-! Dicts whose keys are whole numbers; rows. -/
namespace Pl
open PySem PySem.Spec PyProof.Rows L2
open Evl (Ex)
def ik (ns : List Int) : List L2.Key := ns.map Sum.inl
section
variable {K : PySem.W.Frag} {S0 H0 S H S' H' : Hp} {σ : L2.St} {ρ ρ' ρ1 ρv : Rho} {g g' g1 g2 gl gr : Gs} {F G : FM} {t u : TS} {te ti td tx tk tv ty : TE} {tA : TA} {c : TT} {d : D} {es ds : List D} {ms : List M} {m m1 m2 : M} {a : Addr} {π : List Nat} {Dd : Ends} {i j : Nat} {b : Bool} {r : Rs} {E : XK} {s : Shp}
theorem valV_zip {ns : List Int} {vs : List V} {k : Int} (hl : ns.length = vs.length) (h : ns[j]? = some k) (hn : ∀ q : Nat, q < j → ns[q]? ≠ some k) : valV ((ik ns).zip vs) (.inl k) = vs[j]? := by
  induction ns generalizing vs j with
  | nil => simp at h
  | cons n ns ih =>
    cases vs with
    | nil => simp at hl
    | cons v vs =>
      cases j with
      | zero =>
        simp at h
        subst h
        exact valV_pos rfl
      | succ j =>
        have hne : n ≠ k := fun e => hn 0 (Nat.succ_pos _) (by rw [e]; rfl)
        show valV ((Sum.inl n, v) :: ((ik ns).zip vs)) (.inl k) = (v :: vs)[j + 1]?
        rw [valV_neg (fun e => hne (Sum.inl.inj e)), ih (Nat.succ.inj hl) (by simpa using h) fun q hq => by
          have := hn (q + 1) (by omega)
          simpa using this]
        simp
theorem valV_out {ns : List Int} {vs : List V} {k : Int} (hl : ns.length = vs.length) (h : k ∉ ns) : valV ((ik ns).zip vs) (.inl k) = none := by
  induction ns generalizing vs with
  | nil => rfl
  | cons n ns ih =>
    cases vs with
    | nil => rfl
    | cons v vs =>
      show valV ((Sum.inl n, v) :: ((ik ns).zip vs)) (.inl k) = none
      rw [valV_neg (fun e => h (by rw [Sum.inl.inj e]; exact List.mem_cons_self)), ih (Nat.succ.inj hl) fun z => h (List.mem_cons_of_mem _ z)]
theorem first_at {k : Int} : ∀ {ns : List Int}, k ∈ ns → ∃ j, ns[j]? = some k ∧ ∀ q : Nat, q < j → ns[q]? ≠ some k
  | n :: ns, h => by
    by_cases e : n = k
    · exact ⟨0, by rw [e]; rfl, fun q hq => absurd hq (Nat.not_lt_zero _)⟩
    · obtain ⟨j, h1, h2⟩ := first_at (List.mem_of_ne_of_mem (Ne.symm e) h)
      refine ⟨j + 1, by simpa using h1, fun q hq => ?_⟩
      cases q with
      | zero => simpa using e
      | succ q => simpa using h2 q (by omega)
theorem ev_dget {ns : List Int} {k : Int} (hd : EvD K td ρ (.dc (ik ns) ds)) (hk : EvD K ty ρ (.int k)) (h : ns[j]? = some k) (hn : ∀ q : Nat, q < j → ns[q]? ≠ some k) (hv : ds[j]? = some d) : EvD K (tDGet td ty) ρ d := fun S H σ e v Q q =>
  hd S H σ e v _ fun u S1 H1 x1 r1 => hk S1 H1 σ x1.sub (v.mono x1.s) _ fun w S2 H2 x2 r2 => by
    cases r2
    cases r1 with
    | dc ha hl rl =>
      rename_i pa vs0
      have hl2 := (List.length_map (as := ns) Sum.inl).symm.trans hl
      obtain ⟨x, hx, rx⟩ := rl.get hv
      exact ⟨_, x, rfl, .inl ⟨_, .inl k, .inl (x2.sub _ _ (x2.s _ _ ha)), rfl, (by rw [valV_zip hl2 h hn, hx])⟩, q x S2 H2 (x1.trans x2) (rx.mono x2.s)⟩
theorem ev_din {ns : List Int} {k : Int} (hk : EvD K ty ρ (.int k)) (hd : EvD K td ρ (.dc (ik ns) ds)) : EvD K (tDIn ty td) ρ (.bl (decide (k ∈ ns))) := fun S H σ e v Q q =>
  hk S H σ e v _ fun w S1 H1 x1 r1 => hd S1 H1 σ x1.sub (v.mono x1.s) _ fun u S2 H2 x2 r2 => by
    cases r1
    cases r2 with
    | dc ha hl rl =>
      rename_i pa vs0
      have hl2 := (List.length_map (as := ns) Sum.inl).symm.trans hl
      refine ⟨_, _, rfl, .inl ⟨_, .inl k, .inl (x2.sub _ _ ha), rfl, rfl⟩, ?_⟩
      have e : (valV ((ik ns).zip vs0) (.inl k)).isSome = decide (k ∈ ns) := by
        by_cases hm : k ∈ ns
        · obtain ⟨j, h1, h2⟩ := first_at hm
          rw [valV_zip hl2 h1 h2, decide_eq_true hm, List.getElem?_eq_getElem (by rw [← hl2]; exact (List.getElem?_eq_some_iff.mp h1).1)]
          rfl
        · rw [valV_out hl2 hm, decide_eq_false hm]
          rfl
      rw [e]
      exact q _ S2 H2 (x1.trans x2) (.bl _)
theorem ev_dni {ns : List Int} {k : Int} (hk : EvD K ty ρ (.int k)) (hd : EvD K td ρ (.dc (ik ns) ds)) : EvD K (tDNotIn ty td) ρ (.bl (!decide (k ∈ ns))) := fun S H σ e v Q q =>
  hk S H σ e v _ fun w S1 H1 x1 r1 => hd S1 H1 σ x1.sub (v.mono x1.s) _ fun u S2 H2 x2 r2 => by
    cases r1
    cases r2 with
    | dc ha hl rl =>
      rename_i pa vs0
      have hl2 := (List.length_map (as := ns) Sum.inl).symm.trans hl
      refine ⟨_, _, rfl, .inl ⟨_, .inl k, .inl (x2.sub _ _ ha), rfl, rfl⟩, ?_⟩
      have e : (valV ((ik ns).zip vs0) (.inl k)).isSome = decide (k ∈ ns) := by
        by_cases hm : k ∈ ns
        · obtain ⟨j, h1, h2⟩ := first_at hm
          rw [valV_zip hl2 h1 h2, decide_eq_true hm, List.getElem?_eq_getElem (by rw [← hl2]; exact (List.getElem?_eq_some_iff.mp h1).1)]
          rfl
        · rw [valV_out hl2 hm, decide_eq_false hm]
          rfl
      rw [e]
      exact q _ S2 H2 (x1.trans x2) (.bl _)
/-! ### a walk over the keys -/
theorem ei_keys {ns : List Int} (h : EvD K td ρ (.fz ns)) : EvI K (iKeys td) ρ (ns.map D.int) := fun S H σ e v R q =>
  h S H σ e v _ fun w S1 H1 x1 r1 => by
    cases r1 with
    | fz ha hk =>
      rename_i p o kvs
      have hl : kvs.length = ns.length := by
        have z := congrArg List.length hk
        rwa [List.length_map, List.length_map] at z
      refine ⟨p, o, rfl, .inl ⟨kvs, x1.sub _ _ ha, q _ S1 H1 x1 ⟨fun S' H' i e1 e2 hi => ⟨e2 _ _ (e1 _ _ ha), by rw [hl]; rwa [List.length_map] at hi⟩, fun S' H' i x H'' d e1 e2 hd y => ?_, fun S' H' e1 e2 => ⟨e2 _ _ (e1 _ _ ha), by rw [hl, List.length_map]; exact Nat.le_refl _⟩⟩⟩⟩
      obtain ⟨rfl, k, v, h1, rfl⟩ := y
      have z : (kvs.map (·.1))[i]? = some k := by rw [List.getElem?_map, h1]; rfl
      rw [hk, List.getElem?_map] at z
      rw [List.getElem?_map] at hd
      cases e3 : ns[i]? with
      | none => rw [e3] at z; cases z
      | some n =>
        rw [e3] at z hd
        cases z
        cases hd
        exact ⟨S', Ext.refl e2, .int n⟩
open Classical in
noncomputable def woH (S H S3 : Hp) : Hp := fun a => if S a = none ∧ H a ≠ none then none else S3 a
theorem ext_woH {S3 H3 : Hp} (eS : Ex S S3) (eH : Ex H H3) (e3 : Ex S3 H3) : Ext S H (woH S H S3) H3 where
  s := fun a o e => by
    unfold woH
    rw [if_neg fun z => by rw [z.1] at e; cases e]
    exact eS a o e
  h := eH
  sub := fun a o e => by
    unfold woH at e
    split at e
    · cases e
    · exact e3 a o e
  dis := fun a h1 h2 => if_pos ⟨h1, h2⟩
theorem woH_none {S3 : Hp} {p : Addr} (h : S3 p = none) : woH S H S3 p = none := by
  unfold woH
  split
  · rfl
  · exact h
/-- all that is read, beside the root at p -/
theorem SG.look1 {p : Addr} {m : M} (st : SG K S0 H0 ρ g S H σ) (hp : List.Perm g (g1 ++ [(p, .n s ms)])) (hv : View g1 ρ ρv) : ∃ S2, Ex S S2 ∧ Ex S2 H ∧ Env K S2 σ ρv ∧ S2 p = none := by
  obtain ⟨fp, rg, s0⟩ := st.perm hp
  have o := rg.own
  rw [gv_app, gm_app] at o
  obtain ⟨f1, f2, ef, o1, o2⟩ := o.split gv_len
  have n := SG.noS s0 rg
  have hpf : p ∈ f2 := by
    cases o2 with
    | cons h1 h2 =>
      cases h1 with
      | n _ _ _ => simp
  have hp1 : p ∉ f1 := fun z => (List.nodup_append.mp (ef ▸ rg.nd)).2.2 p z p hpf rfl
  have sub : ∀ a ∈ f1, a ∈ fp := fun a ha => ef ▸ List.mem_append_left _ ha
  have hpfp : p ∈ fp := ef ▸ List.mem_append_right _ hpf
  have hHp : H p ≠ none := rg.own.lays p hpfp
  have nown : ¬ Owns ρ σ p := fun ⟨i, ds, h1, h2⟩ => by
    obtain ⟨q, vs, k1, k2, k3, k4, k5⟩ := s0.own i ds h1
    rw [k1] at h2
    cases h2
    rw [cov_in hpfp] at k2
    exact hHp k2
  have st1 : Stt K S0 (cov H0 H f1) ρ S H σ := s0.mv rg.no rg.own.lays (Ex.refl S) s0.ext.sub (fun a _ _ => rfl) (fun a _ h _ => h) fun a ha => ⟨.inl (sub a ha), n a (sub a ha)⟩
  have rg1 : RG K S0 H0 g1 S H f1 := ⟨o1, (List.nodup_append.mp (ef ▸ rg.nd)).1, fun a ha => rg.no a (sub a ha)⟩
  have e1 : Ex S (withP (fun a => Owns ρ σ a ∨ a ∈ f1) S H) := fun a o e => by
    unfold withP
    split
    · exact s0.ext.sub a o e
    · exact e
  have e2 : Ex (withP (fun a => Owns ρ σ a ∨ a ∈ f1) S H) H := fun a o e => by
    unfold withP at e
    split at e
    · exact e
    · exact s0.ext.sub a o e
  refine ⟨withP (fun a => Owns ρ σ a ∨ a ∈ f1) S H, e1, e2, ⟨by rw [hv.length]; exact s0.env.len, fun i d h => ?_⟩, ?_⟩
  · rcases hv.get i d h with h | ⟨ds, h', e⟩ | ⟨a, m, h', hm, e⟩
    · obtain ⟨v, h1, h2⟩ := s0.env.val i d h
      exact ⟨v, h1, h2.mono e1⟩
    · subst e
      obtain ⟨q, vs, k1, k2, k3, k4, k5⟩ := s0.own i ds h'
      exact ⟨_, k1, .lst ((if_pos (.inl ⟨i, ds, h', k1⟩)).trans k4) (k5.mono e1)⟩
    · subst e
      obtain ⟨v, h1, h2⟩ := s0.env.val i _ h'
      cases h2
      obtain ⟨f, k1, k2⟩ := o1.mem hm
      exact ⟨_, h1, k2.see e1 fun b hb => if_pos (.inr (k1 b hb))⟩
  · unfold withP
    rw [if_neg fun z => z.elim nown hp1]
    exact n p hpfp
/-- a list comprehension over the keys of a dict of the region -/
theorem EvX.keys {p : Addr} {ns : List Int} (hp : List.Perm g (g1 ++ [(p, .n (.dic (ik ns)) ms)])) (hi : ρ[i]? = some (.k (.adr p))) (hv : View g1 ρ ρv) (h : EvF K te (ρv.set i (.k (.fz ns))) es) (hf : ∀ d ∈ es, d.flat = true) : EvX K (tLockE te) ρ g (.o es) g := fun S0 H0 S H σ st Q q => by
  obtain ⟨S2, e1, e2, ev, sp⟩ := st.look1 (m := .d .non) hp hv
  obtain ⟨fp, rg, s0⟩ := id st
  obtain ⟨f, hfp, o⟩ := rg.own.mem (a := p) (m := .n (.dic (ik ns)) ms) (hp.mem_iff.mpr (by simp))
  cases o with
  | n h1 h2 h3 =>
    rename_i ho vs fq
    obtain ⟨hl, eo⟩ := h2
    subst eo
    obtain ⟨v0, g1', g2'⟩ := st.env.val i _ hi
    cases g2'
    refine ⟨p, _, h1, trivial, fun od => ?_⟩
    have hkeys : ((ik ns).zip vs).map (·.1) = ns.map Sum.inl := by
      show List.map Prod.fst ((ik ns).zip vs) = ik ns
      rw [List.map_fst_zip (by rw [hl]; exact Nat.le_refl _)]
    have ex3 : Ex S2 (upd S2 p (.frz od (.dK ((ik ns).zip vs)))) := Ex.new sp
    have sub3 : Ex (upd S2 p (.frz od (.dK ((ik ns).zip vs)))) (upd H p (.frz od (.dK ((ik ns).zip vs)))) := fun a o e => by
      by_cases ha : a = p
      · subst ha; rw [upd_same] at e ⊢; exact e
      · rw [upd_ne ha] at e ⊢; exact e2 a o e
    have ev3 : Env K (upd S2 p (.frz od (.dK ((ik ns).zip vs)))) σ (ρv.set i (.k (.fz ns))) := by
      have z := (ev.mono ex3).set (i := i) (d := .fz ns) (v := .ref p) (.fz upd_same hkeys)
      rw [show σ.set i (some (.ref p)) = σ from List.ext_getElem? fun q => by
        by_cases hq : i = q
        · subst hq
          by_cases hl : i < σ.length
          · rw [List.getElem?_set_self hl, g1']
          · rw [List.getElem?_eq_none (by rw [List.length_set]; omega), List.getElem?_eq_none (by omega)]
        · rw [List.getElem?_set_ne hq]] at z
      exact z
    refine h _ _ σ sub3 ev3 _ fun q2 ws S4 H4 x hq2 sq h4 rl => ?_
    have e4 : H4 p = some (.frz od (.dK ((ik ns).zip vs))) := x.h p _ upd_same
    refine ⟨e4, ?_⟩
    have nq : q2 ≠ p := fun z => by rw [z, upd_same] at hq2; cases hq2
    have hq0 : H q2 = none := by rw [upd_ne nq] at hq2; exact hq2
    have h4' : (upd H4 p (.dK ((ik ns).zip vs))) q2 = some (.lst ws) := by rw [upd_ne nq]; exact h4
    have S5 : ∃ S5 : Hp, Ex S S5 ∧ Ex S5 (upd H4 p (.dK ((ik ns).zip vs))) ∧ S5 q2 = none := by
      refine ⟨fun a => if a = p then none else S4 a, fun a o e => ?_, fun a o e => ?_, ?_⟩
      · have ha : a ≠ p := fun z => by subst z; rw [e1 _ _ e] at sp; cases sp
        show (if a = p then none else S4 a) = some o
        rw [if_neg ha]
        exact x.s a o (ex3 a o (e1 a o e))
      · by_cases ha : a = p
        · have e : (if a = p then none else S4 a) = some o := e
          rw [if_pos ha] at e; cases e
        · have e : (if a = p then none else S4 a) = some o := e
          rw [if_neg ha] at e
          rw [upd_ne ha]
          exact x.sub a o e
      · show (if q2 = p then none else S4 q2) = none
        rw [if_neg nq]
        exact sq
    obtain ⟨S5, a1, a2, a3⟩ := S5
    have eH : Ex H (upd H4 p (.dK ((ik ns).zip vs))) := fun a o e => by
      by_cases ha : a = p
      · subst ha; rw [upd_same, ← h1]; exact e
      · rw [upd_ne ha]
        exact x.h a o (by rw [upd_ne ha]; exact e)
    have xx := ext_woH a1 eH a2
    obtain ⟨rg', s'⟩ := rg.go s0 xx
    exact q _ _ _ xx.s (SG.besideF rg s0 hq0 rg' s' (woH_none a3) h4' (rl.flat hf))
/-! ### new dicts -/
theorem ex_disp1 {k : Int} (hk : EvD K tk ρ (.int k)) (hv : EvD K tv ρ d) : EvX K (tDisp [(tk, tv)]) ρ g (.t (.n (.dic (ik [k])) [.d d])) g := fun S0 H0 S H σ st Q q => by
  intro p hp
  obtain ⟨fp, rg, s0⟩ := id st
  have x0 : Ext S H S (upd H p (.dK [])) := Ext.hid s0.ext.sub hp
  refine hk S _ σ x0.sub s0.env _ fun w1 S1 H1 x1 r1 => hv S1 H1 σ x1.sub (s0.env.mono x1.s) _ fun w2 S2 H2 x2 r2 => ?_
  cases r1
  have xx := (x0.trans x1).trans x2
  have hp2 : H2 p = some (.dK []) := (x1.trans x2).h p _ upd_same
  refine ⟨hp2, [(.inl k, w2)], rfl, Nat.le_of_ble_eq_true rfl, ?_⟩
  have eH : Ex H (upd H2 p (.dK (mergeK [] [(.inl k, w2)]))) := fun a o e => by
    rw [upd_ne fun z => by rw [z, hp] at e; cases e]
    exact xx.h a o e
  have np : S2 p = none := (x1.trans x2).dis p (sub_none s0.ext.sub hp) (by rw [upd_same]; exact fun z => nomatch z)
  have e3 : Ex S2 (upd H2 p (.dK (mergeK [] [(.inl k, w2)]))) := fun a o e => by
    rw [upd_ne fun z => by rw [z, np] at e; cases e]
    exact xx.sub a o e
  have x3 : Ext S H S2 (upd H2 p (.dK (mergeK [] [(.inl k, w2)]))) := ⟨xx.s, eH, e3, xx.dis⟩
  obtain ⟨rg', s'⟩ := rg.go s0 x3
  have npf : p ∉ fp := fun z => rg.own.lays p z hp
  have h0p : H0 p = none := by
    cases z : H0 p with
    | none => rfl
    | some o =>
      have y := s0.ext.h p o (by rw [cov_out npf]; exact z)
      rw [hp] at y
      cases y
  have s0p : S0 p = none := by
    cases z : S0 p with
    | none => rfl
    | some o =>
      have y := s0.ext.sub p o (s0.ext.s p o z)
      rw [hp] at y
      cases y
  refine q _ S2 _ xx.s ⟨p, rfl, fp ++ [p], ⟨?_, ?_, fun a ha => ?_⟩, ?_⟩
  · rw [gv_app, gm_app]
    refine rg'.own.append ?_
    have z : OwnL K S2 (upd H2 p (.dK (mergeK [] [(.inl k, w2)]))) [.ref p] [.n (.dic (ik [k])) [.d d]] ((p :: []) ++ []) := .cons (.n (o := .dK (mergeK [] [(.inl k, w2)])) upd_same ⟨rfl, rfl⟩ (OwnL.ofD (ds := [d]) (.cons r2 .nil))) .nil
    exact z
  · refine List.nodup_append.mpr ⟨rg.nd, by simp, fun a ha b hb e => ?_⟩
    rw [List.mem_singleton.mp hb] at e
    subst e
    exact npf ha
  · rcases List.mem_append.mp ha with ha | ha
    · exact rg.no a ha
    · rw [List.mem_singleton.mp ha]
      exact ⟨h0p, s0p⟩
  · refine s0.mv rg.no rg.own.lays xx.s e3 (fun a _ h => ?_) (fun a _ h1 h2 => x3.dis a h1 h2) fun a ha => ?_
    · cases z : H a with
      | none => exact absurd z h
      | some o => exact x3.h a o z
    · rcases List.mem_append.mp ha with ha | ha
      · exact ⟨.inl ha, x3.dis a (SG.noS s0 rg a ha) (rg.own.lays a ha)⟩
      · rw [List.mem_singleton.mp ha]
        exact ⟨.inr hp, np⟩
/-- d[k] = v of a new key -/
theorem TM.dputNew {ns : List Int} {k : Int} (hv : EvD K tv ρ d) (hp : EvP K td ρ g a m π) (hk : EvD K ty ρ (.int k)) (hg : g = gl ++ (a, m) :: gr) (hat : M.at π m = some (.n (.dic (ik ns)) (ds.map M.d))) (hn : k ∉ ns) (hl : ns.length < 100000)
    (kk : F.nx ρ (gl ++ (a, M.put (.n (.dic (ik (ns ++ [k]))) ((ds ++ [d]).map M.d)) π m) :: gr)) : TM K (sDPut td ty tv) ρ g F := fun S0 H0 S H σ Dd st ac =>
  hv S H σ st.sub st.env _ fun v S1 H1 x1 r1 => by
    have st1 := st.go x1
    refine hp S0 H0 S1 H1 σ st1 _ fun u S2 H2 x2 l => ?_
    have st2 := st1.go x2
    refine hk S2 H2 σ st2.sub st2.env _ fun w S3 H3 x3 r3 => ?_
    cases r3
    have st3 := st2.go x3
    obtain ⟨p, o, vs, fq, e1, e2, _, e3, e4, e5, wr⟩ := st3.write hg (l.mono x3.h) hat
    obtain ⟨e6, e7⟩ := e4.toD
    obtain ⟨e8, e9⟩ := e3
    subst e1
    subst e9
    subst e6
    have hl2 : ns.length = vs.length := by rw [← e8]; exact (List.length_map _).symm
    refine ⟨p, _, rfl, .inl ⟨_, .inl k, e2, rfl, Evl.sz_lt (by rw [List.length_zip]; unfold ik; rw [List.length_map]; omega), rfl⟩, ?_⟩
    refine ac.nx _ _ S3 _ σ kk ((x1.s.trans x2.s).trans x3.s) (wr _ (.dic (ik (ns ++ [k]))) (vs ++ [v]) _ [] ⟨?_, ?_⟩ (OwnL.ofD (e7.append (.cons (r1.mono (x2.s.trans x3.s)) .nil))) (List.Sublist.refl _))
    · unfold ik
      rw [List.length_map, List.length_append, List.length_append, hl2]
      rfl
    · rw [putK_new v (valV_out hl2 hn)]
      unfold ik
      rw [List.map_append, List.zip_append (by rw [List.length_map]; exact hl2)]
      rfl
/-- sorted(..) of a new dict -/
theorem EvX.sortedT {ns ks : List Int} (h : EvX K te ρ g (.t (.n (.dic (ik ns)) (ds.map M.d))) g') (h64 : ns.length < 64) (hs : ks.Pairwise (· ≤ ·)) (hp : ks.Perm ns) : EvX K (tCB Sk.rSortedD (tCons te tNil)) ρ g (.o (ks.map D.int)) g' := fun S0 H0 S H σ st Q q =>
  h S0 H0 S H σ st _ fun v S1 H1 e z => by
    obtain ⟨p, ev, st1⟩ := z
    subst ev
    obtain ⟨fp, rg, s1⟩ := id st1
    obtain ⟨f, hf, o⟩ := rg.own.mem (a := p) (m := .n (.dic (ik ns)) (ds.map M.d)) (by simp)
    cases o with
    | n h1 h2 h3 =>
      rename_i ho vs fq
      obtain ⟨hl, eo⟩ := h2
      subst eo
      refine ⟨p, _, ns, rfl, h1, ?_, ?_, fun ms p2 hm1 hm2 hp2 => ?_⟩
      · show List.map Prod.fst ((ik ns).zip vs) = ik ns
        rw [List.map_fst_zip (by rw [hl]; exact Nat.le_refl _)]
      · rw [List.length_zip]
        unfold ik
        rw [List.length_map]
        omega
      · have em : ms = ks := (hm2.trans hp.symm).eq_of_pairwise (fun a b _ _ h1 h2 => by omega) hm1 hs
        subst em
        obtain ⟨fp, rg, s0⟩ := id (SG.forget st1)
        obtain ⟨rg', s'⟩ := rg.go s0 (Ext.hid s0.ext.sub hp2 (o := .lst (ms.map V.int)))
        exact q _ S1 _ e (SG.besideF rg s0 hp2 rg' s' (sub_none s0.ext.sub hp2) upd_same (RdL.ofInts ms))
end
end Pl

/-! New trees; rows that are empty. -/
namespace Pl
open PySem PySem.Spec PyProof.Rows L2
open Evl (Ex)
section
variable {K : PySem.W.Frag} {S0 H0 S H S' H' : Hp} {σ : L2.St} {ρ ρ' ρ1 ρv : Rho} {g g' g1 g2 gl gr : Gs} {F G : FM} {t u : TS} {te ti td tx tk tv ty : TE} {tA : TA} {c : TT} {d : D} {es ds : List D} {ms : List M} {m m1 m2 : M} {a : Addr} {π : List Nat} {Dd : Ends} {i j : Nat} {b : Bool} {r : Rs} {E : XK} {s : Shp}
theorem SG.add {p : Addr} {f : List Addr} (st : SG K S0 H0 ρ g S H σ) (x : Ext S H S' H') (o : Own K S' H' (.ref p) m f) (nd : f.Nodup) (no : ∀ a ∈ f, H a = none ∧ S' a = none) : SG K S0 H0 ρ (g ++ [(p, m)]) S' H' σ := by
  obtain ⟨fp, rg, s0⟩ := st
  obtain ⟨rg', s'⟩ := rg.go s0 x
  have nf : ∀ a ∈ f, a ∉ fp := fun a ha z => rg.own.lays a z (no a ha).1
  refine ⟨fp ++ f, ⟨?_, ?_, fun a ha => ?_⟩, ?_⟩
  · rw [gv_app, gm_app]
    refine rg'.own.append ?_
    have z : OwnL K S' H' [.ref p] [m] (f ++ []) := .cons o .nil
    rw [List.append_nil] at z
    exact z
  · refine List.nodup_append.mpr ⟨rg.nd, nd, fun a ha b hb e => ?_⟩
    subst e
    exact nf a hb ha
  · rcases List.mem_append.mp ha with ha | ha
    · exact rg.no a ha
    · have hp := (no a ha).1
      refine ⟨?_, ?_⟩
      · cases z : H0 a with
        | none => rfl
        | some o =>
          have y := s0.ext.h a o (by rw [cov_out (nf a ha)]; exact z)
          rw [hp] at y
          cases y
      · cases z : S0 a with
        | none => rfl
        | some o =>
          have y := s0.ext.sub a o (s0.ext.s a o z)
          rw [hp] at y
          cases y
  · refine s0.mv rg.no rg.own.lays x.s x.sub (fun a _ h => ?_) (fun a _ h1 h2 => x.dis a h1 h2) fun a ha => ?_
    · cases z : H a with
      | none => exact absurd z h
      | some o => exact x.h a o z
    · rcases List.mem_append.mp ha with ha | ha
      · exact ⟨.inl ha, x.dis a (SG.noS s0 rg a ha) (rg.own.lays a ha)⟩
      · exact ⟨.inr (no a ha).1, (no a ha).2⟩
theorem ownL_rows : ∀ {as : List Addr}, (∀ a ∈ as, H a = some (.lst [])) → OwnL K S H (as.map V.ref) (List.replicate as.length (.n .lst [])) as
  | [], _ => .nil
  | a :: as, h => by
    have z : OwnL K S H (.ref a :: as.map V.ref) (.n .lst [] :: List.replicate as.length (.n .lst [])) ((a :: []) ++ as) := .cons (.n (h a List.mem_cons_self) (show Shp.ho .lst (.lst []) [] from rfl) .nil) (ownL_rows fun b hb => h b (List.mem_cons_of_mem _ hb))
    exact z
/-- [[] for .. in ..] -/
theorem EvX.rows {wi : TI} {vs : List Nat} (hi : EvI K wi ρ ds) (hj : j ∈ vs) (hl : ds.length ≤ 50000) : EvX K (tLc wi (gName j) tYes (tLst tNil) vs) ρ g (.t (.n .lst (List.replicate ds.length (.n .lst [])))) g := fun S0 H0 S H σ st Q q =>
  hi S H σ st.sub st.env _ fun J S1 H1 x1 wk => fun Dl hD => by
    refine ⟨fun i m H' => m = ds.length - i ∧ i ≤ ds.length ∧ ∃ S' as, Ext S1 H1 S' H' ∧ S' Dl = none ∧ H' Dl = some (.lst (as.map V.ref)) ∧ as.length = i ∧ (Dl :: as).Nodup ∧ ∀ a ∈ as, H' a = some (.lst []) ∧ H1 a = none ∧ S' a = none,
      ⟨ds.length, by simp, Nat.zero_le _, S1, [], Ext.hid x1.sub hD, sub_none x1.sub hD, upd_same, rfl, by simp, fun _ z => nomatch z⟩, ?_⟩
    rintro i m H' ⟨rfl, hi, S', as, x, nS, hus, hal, nd, rows⟩
    by_cases hlt : i < ds.length
    · refine .inr ⟨wk.go S' H' i x.s x.sub hlt, fun H2 => ∃ S2 as2, Ext S1 H1 S2 H2 ∧ S2 Dl = none ∧ H2 Dl = some (.lst (as2.map V.ref)) ∧ as2.length = i + 1 ∧ (Dl :: as2).Nodup ∧ ∀ a ∈ as2, H2 a = some (.lst []) ∧ H1 a = none ∧ S2 a = none, fun H2 z => ⟨ds.length - (i + 1), by omega, rfl, hlt, z⟩, fun xv H'' y => ?_⟩
      have hd : ds[i]? = some ds[i] := List.getElem?_eq_getElem hlt
      obtain ⟨S2, x2, r2⟩ := wk.yld S' H' i xv H'' ds[i] x.s x.sub hd y
      refine ⟨by rw [wipe_set hj, wipe_wipe], ?_⟩
      refine ⟨Evl.sz_of (Nat.zero_le _), fun p hp => ?_⟩
      have hD2 : H'' Dl = some (.lst (as.map V.ref)) := x2.h _ _ hus
      have np : p ≠ Dl := fun z => by rw [z, hD2] at hp; cases hp
      have npa : ∀ a ∈ as, a ≠ p := fun a ha z => by rw [← z, x2.h _ _ (rows a ha).1] at hp; cases hp
      have h1p : H1 p = none := Evl.fresh_back (x.h.trans x2.h) hp
      have s2p : S2 p = none := sub_none x2.sub hp
      have s2D : S2 Dl = none := x2.dis _ nS (by rw [hus]; exact fun z => nomatch z)
      refine ⟨as.map V.ref, by rw [upd_ne (Ne.symm np)]; exact hD2, Evl.sz_lt (by rw [List.length_map]; omega), S2, as ++ [p], ⟨x.s.trans x2.s, fun a o ha => ?_, fun a o ha => ?_, fun a h1 h2 => x2.dis a (x.dis a h1 h2) ?_⟩, s2D, ?_, by rw [List.length_append, hal]; rfl, ?_, fun a ha => ?_⟩
      · rw [upd_ne (fun z => by rw [z, hD] at ha; cases ha), upd_ne (fun z => by rw [z, h1p] at ha; cases ha)]
        exact x2.h _ _ (x.h a o ha)
      · rw [upd_ne (fun z => by rw [z, s2D] at ha; cases ha), upd_ne (fun z => by rw [z, s2p] at ha; cases ha)]
        exact x2.sub a o ha
      · cases e : H1 a with
        | none => exact absurd e h2
        | some o => rw [x.h a o e]; exact fun z => nomatch z
      · rw [upd_same, List.map_append]
        rfl
      · have nd' := List.nodup_cons.mp nd
        refine List.nodup_cons.mpr ⟨fun z => ?_, List.nodup_append.mpr ⟨nd'.2, by simp, fun a ha b hb e => npa a ha (e.trans (List.mem_singleton.mp hb))⟩⟩
        rcases List.mem_append.mp z with z | z
        · exact nd'.1 z
        · exact np (List.mem_singleton.mp z).symm
      · rcases List.mem_append.mp ha with ha | ha
        · obtain ⟨r1, r2', r3⟩ := rows a ha
          have nD : a ≠ Dl := fun z => (List.nodup_cons.mp nd).1 (z ▸ ha)
          rw [upd_ne nD, upd_ne (npa a ha)]
          exact ⟨x2.h _ _ r1, r2', x2.dis a r3 (by rw [r1]; exact fun z => nomatch z)⟩
        · rw [List.mem_singleton.mp ha, upd_ne np, upd_same]
          exact ⟨rfl, h1p, s2p⟩
    · have e0 : i = ds.length := by omega
      subst e0
      refine .inl ⟨wk.stop S' H' x.s x.sub, ?_⟩
      have xx := x1.trans x
      refine q _ S' H' xx.s ⟨Dl, rfl, st.add xx (f := Dl :: as) ?_ nd fun a ha => ?_⟩
      · rw [← hal]
        exact .n hus (show Shp.ho .lst _ _ from rfl) (ownL_rows fun a ha => (rows a ha).1)
      · rcases List.mem_cons.mp ha with e | ha
        · rw [e]
          exact ⟨Evl.fresh_back x1.h hD, nS⟩
        · exact ⟨Evl.fresh_back x1.h (rows a ha).2.1, (rows a ha).2.2⟩
/-! ### calls that read the region -/
mutual
def M.flat : M → Bool
  | .d d => d.flat
  | .n _ ms => flatL ms
def flatL : List M → Bool
  | [] => true
  | m :: ms => m.flat && flatL ms
end
mutual
theorem Own.flat {S2 : Hp} : ∀ {v : V} {m : M} {f : List Addr}, Own K S H v m f → m.flat = true → Own K S2 H v m f
  | _, _, _, .d h, e => .d (h.flat e)
  | _, _, _, .n h ho r, e => .n h ho (OwnL.flat r e)
theorem OwnL.flat {S2 : Hp} : ∀ {vs : List V} {ms : List M} {f : List Addr}, OwnL K S H vs ms f → flatL ms = true → OwnL K S2 H vs ms f
  | _, _, _, .nil, _ => .nil
  | _, _, _, .cons h r, e => by
    have e : (_ && _) = true := e
    rw [Bool.and_eq_true] at e
    exact .cons (h.flat e.1) (r.flat e.2)
end
theorem flatL_map {α : Type} {f : α → M} : ∀ {l : List α}, (∀ x ∈ l, (f x).flat = true) → flatL (l.map f) = true
  | [], _ => rfl
  | x :: l, h => by
    show ((f x).flat && flatL (l.map f)) = true
    rw [h x List.mem_cons_self, flatL_map fun y hy => h y (List.mem_cons_of_mem _ hy)]
    rfl
theorem EvX.callV {Rel : List D → Gs → Rs → Gs → Prop} (hv : View g ρ ρv) (ha : EvA K tA ρv ds) (hr : Rel ds [] (.t m) []) (hf : m.flat = true) : EvX K (tCall (spG K Rel) [] E tA) ρ g (.t m) g := fun S0 H0 S H σ st Q q => by
  obtain ⟨fp, rg, s0⟩ := id st
  obtain ⟨P, e1, e2, v, _⟩ := SG.look rg s0 hv
  refine ha _ H σ e2 v _ fun vs S1 H1 x1 r1 => ?_
  refine ⟨S1, H1, ds, [], .t m, [], ⟨[], ⟨.nil, List.nodup_nil, fun _ z => nomatch z⟩, ?_⟩, by rw [List.append_nil]; exact r1, hr, fun w S2 H2 e3 z => ?_⟩
  · rw [cov_nil]
    exact ⟨Ext.refl x1.sub, ⟨rfl, fun i d h => by simp at h⟩, fun i ds h => by simp at h, fun i j a b p h => by simp at h⟩
  · obtain ⟨p, ew, fc, rc, sc⟩ := z
    subst ew
    have o := rc.own
    have o : OwnL K S2 H2 [.ref p] [m] fc := o
    cases o with
    | cons o1 o2 =>
      cases o2
      rename_i f
      rw [List.append_nil] at rc sc
      have eH : Ex H1 H2 := fun a o e => by
        have n : a ∉ f := fun z => by rw [(rc.no a z).1] at e; cases e
        exact sc.ext.h a o (by rw [cov_out n]; exact e)
      have xx : Ext S H (woH S H S2) H2 := ext_woH ((e1.trans x1.s).trans e3) (x1.h.trans eH) sc.ext.sub
      refine q _ _ H2 xx.s ⟨p, rfl, st.add xx (o1.flat hf) rc.nd fun a ha => ?_⟩
      have n1 := (rc.no a ha).1
      exact ⟨Evl.fresh_back x1.h n1, woH_none (SG.noS sc rc a ha)⟩
/-- a comprehension over a walked dict, put into a name -/
theorem TM.lockAsg (h : EvX K (tLockE te) ρ g (.o es) g') (k : F.nx (ρ.set i (.o es)) g') : TM K (tLock (tAsg te (gName i))) ρ g F := fun S0 H0 S H σ Dd s a => by
  have z := TM.asgO h k S0 H0 S H σ Dd s a
  obtain ⟨d, u, h1, h2, h3⟩ := z
  exact ⟨d, u, h1, h2, fun od => h3 od⟩
theorem lt1 {n c : Nat} (h : n + 64 < c) : n + 1 < c := by omega
end
end Pl

/-! What joints carry, as trees and as data. -/
namespace Pl
open PySem PySem.Spec PyProof.Rows L2
open Evl (Ex)
def nD (l : List Nat) : List D := l.map fun k : Nat => .int (k : Int)
def rowD (l : List Nat) : D := .lst (nD l)
def gridD (cs : Fr.Cs) : D := .lst (cs.map rowD)
def rowM (l : List Nat) : M := .n .lst (l.map fun k : Nat => .d (.int (k : Int)))
def gridM (cs : Fr.Cs) : M := .n .lst (cs.map rowM)
def kI (l : List Nat) : List Int := l.map fun k : Nat => (k : Int)
def aD (ah : Fr.Ah) : List D := ah.map fun p => .int (p.2 : Int)
def dctM (ah : Fr.Ah) : M := .n (.dic (ik (kI (Fr.keys ah)))) ((aD ah).map M.d)
def dctD (ah : Fr.Ah) : D := .dc (ik (kI (Fr.keys ah))) (aD ah)
theorem see_row (l : List Nat) : (rowM l).see = rowD l := by
  show D.lst (seeL (l.map fun k : Nat => M.d (.int (k : Int)))) = _
  have e : (l.map fun k : Nat => M.d (.int (k : Int))) = (nD l).map M.d := by unfold nD; rw [List.map_map]; rfl
  rw [e, seeL_d]
  rfl
theorem see_grid (cs : Fr.Cs) : (gridM cs).see = gridD cs := by
  show D.lst (seeL (cs.map rowM)) = _
  rw [seeL_map, List.map_map]
  unfold gridD
  refine congrArg D.lst (List.map_congr_left fun l _ => see_row l)
theorem see_dct (ah : Fr.Ah) : (dctM ah).see = dctD ah := by
  show D.dc _ (seeL ((aD ah).map M.d)) = _
  rw [seeL_d]
  rfl
theorem get_cs {cs : Fr.Cs} {j : Nat} (h : j < cs.length) : cs[j]? = some (Fr.at_ cs j) := by
  unfold Fr.at_
  simp [List.getD, h]
theorem at_grid {cs : Fr.Cs} {j : Nat} (h : j < cs.length) : M.at [j] (gridM cs) = some (rowM (Fr.at_ cs j)) := by
  have e : (cs.map rowM)[j]? = some (rowM (Fr.at_ cs j)) := by rw [List.getElem?_map, get_cs h]; rfl
  show (match (cs.map rowM)[j]? with | some m => M.at [] m | none => none) = _
  rw [e]
  rfl
theorem put_grid {cs : Fr.Cs} {j : Nat} {l : List Nat} (h : j < cs.length) : M.put (rowM l) [j] (gridM cs) = gridM (cs.set j l) := by
  have e : (cs.map rowM)[j]? = some (rowM (Fr.at_ cs j)) := by rw [List.getElem?_map, get_cs h]; rfl
  show (match (cs.map rowM)[j]? with | some m => M.n .lst ((cs.map rowM).set j (M.put (rowM l) [] m)) | none => .n .lst (cs.map rowM)) = _
  rw [e]
  show M.n .lst ((cs.map rowM).set j (rowM l)) = _
  unfold gridM
  rw [List.map_set]
theorem gridD_at {cs : Fr.Cs} {j : Nat} (h : j < cs.length) : atI (cs.map rowD) (j : Int) = some (rowD (Fr.at_ cs j)) := atI_nat (by rw [List.getElem?_map, get_cs h]; rfl)
theorem kI_mem {l : List Nat} {k : Nat} : (k : Int) ∈ kI l ↔ k ∈ l := by
  unfold kI
  rw [List.mem_map]
  constructor
  · rintro ⟨a, h, e⟩
    have : a = k := by omega
    rw [← this]
    exact h
  · exact fun h => ⟨k, h, rfl⟩
theorem visit_snoc (j f : Nat) : ∀ (l : List Nat) (ah : Fr.Ah) (wt : List Nat), Fr.visit j (l ++ [f]) ah wt = if f ∈ Fr.keys (Fr.visit j l ah wt).1 then Fr.visit j l ah wt else ((Fr.visit j l ah wt).1 ++ [(f, j)], (Fr.visit j l ah wt).2 ++ [f])
  | [], ah, wt => by by_cases h : f ∈ Fr.keys ah <;> simp [Fr.visit, h]
  | x :: l, ah, wt => by
    rw [List.cons_append]
    unfold Fr.visit
    split
    · exact visit_snoc j f l ah wt
    · exact visit_snoc j f l _ _
theorem visit_len (j : Nat) : ∀ (l : List Nat) (ah : Fr.Ah) (wt : List Nat), (Fr.visit j l ah wt).1.length ≤ ah.length + l.length ∧ (Fr.visit j l ah wt).2.length ≤ wt.length + l.length
  | [], ah, wt => by simp [Fr.visit]
  | x :: l, ah, wt => by
    unfold Fr.visit
    split
    · have := visit_len j l ah wt
      simp only [List.length_cons]
      omega
    · have := visit_len j l (ah ++ [(x, j)]) (wt ++ [x])
      simp only [List.length_cons, List.length_append, List.length_nil] at this ⊢
      omega
theorem visit_grow (j : Nat) : ∀ (l : List Nat) (ah : Fr.Ah) (wt : List Nat), ah.length ≤ (Fr.visit j l ah wt).1.length
  | [], ah, wt => Nat.le_refl _
  | x :: l, ah, wt => by
    unfold Fr.visit
    split
    · exact visit_grow j l ah wt
    · have := visit_grow j l (ah ++ [(x, j)]) (wt ++ [x])
      rw [List.length_append, List.length_cons, List.length_nil] at this
      omega
theorem reach_step (cs : Fr.Cs) (m j : Nat) (ah : Fr.Ah) (wt : List Nat) : Fr.reach cs (m + 1) ah (wt ++ [j]) = Fr.reach cs m (Fr.visit j (Fr.at_ cs j) ah wt).1 (Fr.visit j (Fr.at_ cs j) ah wt).2 := by
  conv => lhs; unfold Fr.reach
  simp
theorem seen_start {cs : Fr.Cs} {start : Nat} (hs : start < cs.length) : Fr.Seen cs.length cs start [(start, start)] [start] := by
  refine ⟨by simp [Fr.keys], fun k hk => ?_, ⟨[], rfl⟩, fun i f p h hi => ?_, fun k hk => ?_⟩
  · simp [Fr.keys] at hk
    omega
  · obtain ⟨m, rfl⟩ : ∃ m, i = m + 1 := ⟨i - 1, by omega⟩
    simp at h
  · simpa [Fr.keys] using hk
theorem dctM_snoc (ah : Fr.Ah) (f j : Nat) : M.n (.dic (ik (kI (Fr.keys ah) ++ [(f : Int)]))) ((aD ah ++ [D.int (j : Int)]).map M.d) = dctM (ah ++ [(f, j)]) := by
  unfold dctM
  rw [Fr.keys_append]
  unfold kI aD
  rw [List.map_append, List.map_append, List.map_append, List.map_append]
  rfl
theorem nD_snoc (l : List Nat) (f : Nat) : nD l ++ [D.int (f : Int)] = nD (l ++ [f]) := by unfold nD; rw [List.map_append]; rfl
theorem dct_flat (ah : Fr.Ah) : (dctM ah).flat = true := by
  show flatL ((aD ah).map M.d) = true
  refine flatL_map fun x hx => ?_
  obtain ⟨p, _, rfl⟩ := List.mem_map.mp hx
  rfl
theorem grid_flat (cs : Fr.Cs) : (gridM cs).flat = true := by
  show flatL (cs.map rowM) = true
  refine flatL_map fun l _ => ?_
  show flatL (l.map fun k : Nat => M.d (.int (k : Int))) = true
  exact flatL_map fun x _ => rfl
theorem rowM_kI (l : List Nat) : rowM l = .n .lst ((kI l).map fun n => M.d (.int n)) := by
  unfold rowM kI
  rw [List.map_map]
  rfl
theorem kI_erase {j : Nat} : ∀ {l : List Nat}, j ∈ l → ∃ i, (kI l)[i]? = some (j : Int) ∧ (∀ q : Nat, q < i → (kI l)[q]? ≠ some (j : Int)) ∧ (kI l).eraseIdx i = kI (l.erase j)
  | x :: l, h => by
    by_cases e : x = j
    · subst e
      refine ⟨0, rfl, fun q hq => absurd hq (Nat.not_lt_zero _), ?_⟩
      rw [List.erase_cons_head]
      rfl
    · obtain ⟨i, h1, h2, h3⟩ := kI_erase (List.mem_of_ne_of_mem (Ne.symm e) h)
      refine ⟨i + 1, h1, fun q hq => ?_, ?_⟩
      · cases q with
        | zero =>
          intro z
          have z : (x : Int) = (j : Int) := Option.some.inj z
          omega
        | succ q => exact h2 q (by omega)
      · rw [List.erase_cons_tail (by simpa using e)]
        show (x : Int) :: (kI l).eraseIdx i = _
        rw [h3]
        rfl
/-- what turning a bar about leaves -/
theorem turn_two {cs : Fr.Cs} {b j v : Nat} (hb : b < cs.length) (hj : j < cs.length) (ne : b ≠ j) : (Fr.at_ (Fr.turn cs b j) v).length ≤ (Fr.at_ cs v).length + 1 := by
  rw [Fr.turn_at hb hj ne]
  split
  · rename_i h
    subst h
    rw [List.length_append]
    exact Nat.le_refl _
  · split
    · rename_i h
      subst h
      exact Nat.le_trans (List.length_erase_le) (Nat.le_succ _)
    · exact Nat.le_succ _
theorem turn_set {cs : Fr.Cs} {b j : Nat} (hb : b < cs.length) (ne : b ≠ j) : (cs.set b ((Fr.at_ cs b).erase j)).set j (Fr.at_ cs j ++ [b]) = Fr.turn cs b j := by
  unfold Fr.turn
  rw [Fr.at_set hb, if_neg ne]
theorem row_app (l : List Nat) (b : Nat) : M.n .lst ((l.map fun k : Nat => M.d (.int (k : Int))) ++ [M.d (.int (b : Int))]) = rowM (l ++ [b]) := by
  unfold rowM
  rw [List.map_append]
  rfl
def passR (cs : Fr.Cs) (start spared : Nat) : Fr.Cs × Bool := match Fr.passOn cs start spared with
  | none => (cs, false)
  | some c => (c, true)
theorem keys_at {ah : Fr.Ah} {j : Nat} (h : j ∈ Fr.keys ah) : ∃ (i q : Nat), ah[i]? = some (j, q) := by
  obtain ⟨⟨x, q⟩, hm, e⟩ := List.mem_map.mp h
  obtain ⟨i, hi⟩ := List.getElem?_of_mem hm
  exact ⟨i, q, by rw [hi]; exact congrArg some (Prod.ext e rfl)⟩
theorem keys_get {ah : Fr.Ah} {i j q : Nat} (h : ah[i]? = some (j, q)) : (kI (Fr.keys ah))[i]? = some (j : Int) := by
  unfold kI Fr.keys
  rw [List.getElem?_map, List.getElem?_map, h]
  rfl
theorem keys_first {ah : Fr.Ah} (nd : (Fr.keys ah).Nodup) {i j q : Nat} (h : ah[i]? = some (j, q)) : ∀ k : Nat, k < i → (kI (Fr.keys ah))[k]? ≠ some (j : Int) := fun k hk e => by
  have hl : i < ah.length := (List.getElem?_eq_some_iff.mp h).1
  have hk2 : k < ah.length := by omega
  have e0 : ah[k]? = some (ah[k].1, ah[k].2) := List.getElem?_eq_getElem hk2
  rw [keys_get e0] at e
  have e1 : ah[k].1 = j := by
    have := Option.some.inj e
    omega
  rw [e1] at e0
  have := Fr.nd_pos nd h e0
  omega
/-- what holds while bars are turned about -/
def BackAt (cs : Fr.Cs) (ah : Fr.Ah) (start j0 m : Nat) (cs1 : Fr.Cs) (i j q : Nat) : Prop :=
  ah[i]? = some (j, q) ∧ i < m ∧ m ≤ cs.length + 1 ∧ cs1.length = cs.length ∧ (∀ v w, w ∈ Fr.at_ cs1 v → w < cs.length ∧ w ≠ v) ∧ (∀ i' v p' : Nat, i' < i → ah[i']? = some (v, p') → Fr.at_ cs1 v = Fr.at_ cs v) ∧
    (∀ v, (Fr.at_ cs1 v).length + m ≤ cs.length + 3) ∧ Fr.back ah start m cs1 j = Fr.back ah start (cs.length + 1) cs j0
theorem back_step {cs : Fr.Cs} {ah : Fr.Ah} {start j0 m : Nat} {cs1 : Fr.Cs} {i j q : Nat} (sn : Fr.Seen cs.length cs start ah []) (low : ∀ v w, w ∈ Fr.at_ cs v → w < cs.length ∧ w ≠ v) (h : BackAt cs ah start j0 (m + 1) cs1 i j q) (hne : j ≠ start) :
    j ∈ Fr.at_ cs1 q ∧ (q < cs.length ∧ j < cs.length) ∧ q ≠ j ∧ ∃ (i' q' : Nat), i' < i ∧ ah[i']? = some (q, q') ∧ BackAt cs ah start j0 m (Fr.turn cs1 q j) i' q q' := by
  obtain ⟨hi, him, hm, hl1, low1, same1, len1, hb1⟩ := h
  have i0 : i ≠ 0 := fun e => by
    subst e
    obtain ⟨r, hr⟩ := sn.head
    rw [hr] at hi
    simp at hi
    exact hne hi.1.symm
  obtain ⟨hjq, i', q', hi', hq'⟩ := sn.par i j q hi i0
  have eq := same1 i' q q' hi' hq'
  have hj1 : j ∈ Fr.at_ cs1 q := by rw [eq]; exact hjq
  obtain ⟨hjn, hjne⟩ := low q j hjq
  have hqn : q < cs.length := sn.low q (List.mem_map.mpr ⟨(q, q'), List.mem_of_getElem? hq', rfl⟩)
  have hql : q < cs1.length := by omega
  have hjl : j < cs1.length := by omega
  have ne : q ≠ j := fun e => hjne e.symm
  refine ⟨hj1, ⟨hqn, hjn⟩, ne, i', q', hi', hq', hq', by omega, by omega, by rw [Fr.turn_len, hl1], fun v w hw => ?_, fun i2 v p' h2 hv => ?_, fun v => ?_, ?_⟩
  · rw [Fr.turn_at hql hjl ne] at hw
    split at hw
    · rename_i e
      subst e
      rcases List.mem_append.mp hw with hw | hw
      · exact low1 _ _ hw
      · rw [List.mem_singleton.mp hw]
        exact ⟨hqn, ne⟩
    · split at hw
      · rename_i e
        subst e
        exact low1 _ _ (List.mem_of_mem_erase hw)
      · exact low1 _ _ hw
  · rw [Fr.turn_at hql hjl ne, if_neg, if_neg]
    · exact same1 i2 v p' (by omega) hv
    · intro e
      subst e
      have := Fr.nd_pos sn.nd hv hq'
      omega
    · intro e
      subst e
      have := Fr.nd_pos sn.nd hv hi
      omega
  · have := turn_two (v := v) hql hjl ne
    have := len1 v
    omega
  · rw [← hb1]
    show _ = Fr.back ah start (m + 1) cs1 j
    conv => rhs; unfold Fr.back
    rw [if_neg hne, Fr.look_at sn.nd hi]
end Pl
namespace Pl
open PySem PySem.Spec PyProof.Rows L2
open Evl (Ex)
def sortN (ks : List Nat) : List Nat := ks.mergeSort fun a b => decide (a ≤ b)
theorem sortN_perm (ks : List Nat) : (sortN ks).Perm ks := List.mergeSort_perm _ _
theorem sortN_rise (ks : List Nat) : (sortN ks).Pairwise (· ≤ ·) :=
  (List.pairwise_mergeSort (le := fun a b => decide (a ≤ b)) (fun a b c h1 h2 => by simp at h1 h2 ⊢; omega) (fun a b => by simp; omega) ks).imp fun h => by simpa using h
theorem kI_rise {ks : List Nat} (h : ks.Pairwise (· ≤ ·)) : (kI ks).Pairwise (· ≤ ·) := by
  unfold kI
  rw [List.pairwise_map]
  exact h.imp fun h => by omega
def layR : Option (List Nat) → Rs
  | none => .d .non
  | some ks => .o ((kI (sortN ks)).map D.int)
def bI (b : Fr.Bar) : Int × Int := ((b.1 : Int), (b.2 : Int))
def crowdL (cs : Fr.Cs) : List Fr.Bar → Option (List Nat)
  | [] => none
  | b :: r => match (Fr.lay cs b.1 b.2).2 with
    | none => crowdL (Fr.lay cs b.1 b.2).1 r
    | some ks => some ks
end Pl
namespace Pl
open PySem PySem.Spec PyProof.Rows L2
open Evl (Ex)
theorem at_bare (n v : Nat) : Fr.at_ (List.replicate n []) v = [] := by
  unfold Fr.at_
  by_cases h : v < n
  · simp [List.getD, h]
  · simp [List.getD, Nat.le_of_not_lt h]
theorem outs_bare (n : Nat) (S : Fr.JS) : ∀ k : Nat, Fr.outs (List.replicate n []) S k = 0
  | 0 => rfl
  | k + 1 => by
    unfold Fr.outs
    rw [outs_bare n S k, at_bare]
    simp
theorem fits_bare (n : Nat) : Fr.Fits n (List.replicate n []) [] where
  len := List.length_replicate
  two := fun v => by rw [at_bare]; exact Nat.zero_le _
  low := fun v w h => by rw [at_bare] at h; cases h
  out := fun S => by rw [outs_bare]; rfl
theorem slim_nil (n : Nat) : Fr.Slim n [] := fun S h => by
  have : Fr.ins [] S = 0 := rfl
  omega
end Pl
namespace Pl
/-- the numbers of the bars that are taken, from number i on -/
def chosenL (cs : Fr.Cs) : List Fr.Bar → Nat → List Nat
  | [], _ => []
  | b :: r, i => match (Fr.lay cs b.1 b.2).2 with
    | none => i :: chosenL (Fr.lay cs b.1 b.2).1 r (i + 1)
    | some _ => chosenL (Fr.lay cs b.1 b.2).1 r (i + 1)
end Pl

/-! What going through all bars tells: they are lean, or some joints are crowded. -/
namespace Fr
theorem card_inL {n : Nat} {ks : List Nat} (nd : ks.Nodup) (low : ∀ k ∈ ks, k < n) : card n (inL ks) = ks.length := by
  unfold card
  rw [List.countP_eq_length_filter]
  refine List.Perm.length_eq ((List.perm_ext_iff_of_nodup (List.nodup_range.filter _) nd).mpr fun k => ?_)
  rw [List.mem_filter, List.mem_range]
  unfold inL
  rw [decide_eq_true_eq]
  exact ⟨fun h => h.2, fun h => ⟨low k h, h⟩⟩
theorem ins_le_append (as bs : List Bar) (S : JS) : ins as S ≤ ins (as ++ bs) S := by
  unfold ins
  rw [List.countP_append]
  exact Nat.le_add_right _ _
theorem crowd_go {n : Nat} : ∀ (rest pre : List Bar) (cs : Cs), Ok n (pre ++ rest) → Fits n cs pre → Slim n pre → (Pl.crowdL cs rest = none → Slim n (pre ++ rest)) ∧
    ∀ ks, Pl.crowdL cs rest = some ks → ks.Nodup ∧ (∀ k ∈ ks, k < n) ∧ 2 ≤ ks.length ∧ 2 * ks.length < ins (pre ++ rest) (inL ks) + 3
  | [], pre, cs, _, _, sl => ⟨fun _ => by rw [List.append_nil]; exact sl, fun ks h => by cases h⟩
  | b :: rest, pre, cs, ok, ft, sl => by
    obtain ⟨o1, o2, o3⟩ := ok b (by simp)
    have eq : pre ++ b :: rest = (pre ++ [b]) ++ rest := by simp
    unfold Pl.crowdL
    cases hy : (lay cs b.1 b.2).2 with
    | none =>
      obtain ⟨f1, f2⟩ := lay_yes ft (fun c hc => ok c (List.mem_append_left _ hc)) sl o1 o2 o3 (Prod.ext rfl hy : lay cs b.1 b.2 = ((lay cs b.1 b.2).1, none))
      have z := crowd_go rest (pre ++ [b]) (lay cs b.1 b.2).1 (by rw [← eq]; exact ok) f1 f2
      rw [eq]
      exact z
    | some ks =>
      show (some ks = none → Slim n (pre ++ b :: rest)) ∧ ∀ ks', some ks = some ks' → ks'.Nodup ∧ (∀ k ∈ ks', k < n) ∧ 2 ≤ ks'.length ∧ 2 * ks'.length < ins (pre ++ b :: rest) (inL ks') + 3
      refine ⟨fun h => (Option.some_ne_none _ h).elim, fun ks' h => ?_⟩
      have h := Option.some.inj h
      subst h
      obtain ⟨_, nd, low, m1, m2, t1, t2⟩ := lay_no ft sl o1 o2 o3 (Prod.ext rfl hy : lay cs b.1 b.2 = ((lay cs b.1 b.2).1, some ks))
      rw [card_inL nd low] at t1 t2
      refine ⟨nd, low, t1, ?_⟩
      have i1 := ins_append pre b (inL ks)
      have e1 : inL ks b.1 = true := decide_eq_true m1
      have e2 : inL ks b.2 = true := decide_eq_true m2
      rw [e1, e2, Bool.and_self, if_pos rfl] at i1
      have i2 := ins_le_append (pre ++ [b]) rest (inL ks)
      rw [eq]
      omega
/-- None: lean; else: crowded joints -/
theorem crowd_spec {n : Nat} {nb : List Bar} (ok : Ok n nb) : (Pl.crowdL (List.replicate n []) nb = none ↔ Slim n nb) ∧
    ∀ ks, Pl.crowdL (List.replicate n []) nb = some ks → ks.Nodup ∧ (∀ k ∈ ks, k < n) ∧ 2 ≤ ks.length ∧ 2 * ks.length < ins nb (inL ks) + 3 := by
  obtain ⟨h1, h2⟩ := crowd_go nb [] (List.replicate n []) ok (Pl.fits_bare n) (Pl.slim_nil n)
  rw [List.nil_append] at h1 h2
  refine ⟨⟨h1, fun sl => ?_⟩, h2⟩
  cases e : Pl.crowdL (List.replicate n []) nb with
  | none => rfl
  | some ks =>
    obtain ⟨nd, low, k2, k3⟩ := h2 ks e
    have := sl (inL ks) (by rw [card_inL nd low]; exact k2)
    rw [card_inL nd low] at this
    omega
end Fr

/-! More of lists: an item of any data taken out, one popped into another list, turned about. -/
namespace Pl
open PySem PySem.Spec PyProof.Rows L2
open Evl (Ex)
/-- xs.remove(y): the first item that equals y goes -/
def rRemD (K : PySem.W.Frag) : V → List V → Hp → VK → Prop := fun x xs H Q => ∃ (a : Addr) (vs : List V) (y : V) (d : PyData) (ds : List PyData) (j : Nat) (z : PyData), x = V.ref a ∧ xs = [y] ∧ H a = some (.lst vs) ∧ DpAll K H vs ds ∧ Dp K H y d ∧
  PyData.canLayAll0 ds = true ∧ d.canLay0 = true ∧ d.depth ≤ 60 ∧ ds[j]? = some z ∧ PyData.eqv z d = true ∧ (∀ (m : Nat) (w : PyData), m < j → ds[m]? = some w → PyData.eqv w d = false) ∧ Q .non (upd H a (.lst (vs.eraseIdx j)))
theorem mt_removeD {X : Cx} (hu : X.A.units + 64 < cLine) : MtR X "list.remove" (rRemD X.K) := by
  intro pins s σ H x xs v us Q I rx rxs h
  obtain ⟨a, vs, y, d, ds, j, z, ex, exs, hH, ha, hy, sl, sd, dd, hz, hzj, hno, q⟩ := h
  subst ex
  subst exs
  cases rx
  obtain ⟨u, eu, ru⟩ := rxs.one
  subst eu
  obtain ⟨bs, r1⟩ := Dp.reads I d y u hy ru
  obtain ⟨big, its, n, rv, hl, ho⟩ := I.lstM hH
  obtain ⟨as, r2⟩ := Dp.readsAll I ds _ its ha rv
  have nl : its.length = ds.length := SeqAt.ReadsAll.length ds its as r2
  have me := SeqAt.readsAll_map ds its as sl r2
  have jl : j < ds.length := (List.getElem?_eq_some_iff.mp hz).1
  have hj : j < its.toArray.size := by rw [List.size_toArray]; omega
  have item : ∀ (m : Nat) (hm : m < its.toArray.size) (w : PyData), ds[m]? = some w → SeqAt.readOf s.heap its.toArray[m] = w := fun m hm w hw => by
    have hml : m < its.length := by rw [List.size_toArray] at hm; exact hm
    rw [← me, List.getElem?_map, List.getElem?_eq_getElem hml] at hw
    have := Option.some.inj hw
    simpa using this
  have room : X.A.units + 1 + min (PyData.depthAll ds) d.depth < cLine := by
    have := Nat.min_le_right (PyData.depthAll ds) d.depth
    omega
  refine call_meets PySem.F.slot_list_remove ⟨_, ho, rfl⟩ PySem.F.entry_list_remove (PySem.F.args_list_remove_2 _ _)
    (SeqAt.list_removeAt a its.toArray n none #[] u (fun w => PyData.eqv (SeqAt.readOf s.heap w) d) j hj ?_ (fun m hm hmj => ?_) (by rw [List.size_toArray]; omega)) ⟨ho, SeqAt.items_eqAt (vs := its.toArray) r2 r1 sl sd room, ?_⟩
  · show PyData.eqv (SeqAt.readOf s.heap its.toArray[j]) d = true
    rw [item j hj z hz, hzj]
  · have hmd : m < ds.length := by rw [List.size_toArray] at hm; omega
    show PyData.eqv (SeqAt.readOf s.heap its.toArray[m]) d = false
    rw [item m hm _ (List.getElem?_eq_getElem hmd)]
    exact hno m _ hmj (List.getElem?_eq_getElem hmd)
  · refine ⟨.non, _, I.lset (its' := its.eraseIdx j) (t' := s.toks) hH ho ?_ (rv.eraseIdx j) ?_, rfl, q⟩
    · show its.toArray.eraseIdxIfInBounds j = (its.eraseIdx j).toArray
      rw [List.eraseIdxIfInBounds_toArray]
    · exact Nat.le_trans (List.length_eraseIdx_le _ _) big
section
variable {K : PySem.W.Frag} {ρ : Rho} {te ti : TE} {d : D} {ds es : List D} {F : FE} {i j : Nat}
theorem mt_remD {X : Cx} {K : PySem.W.Frag} (h : X.K = K) (hu : X.A.units + 64 < cLine) : MtR X "list.remove" (rRemD K) := by subst h; exact mt_removeD hu
/-- xs.remove(y) of an own list -/
theorem T.removeD {k : Nat} (h : ρ[i]? = some (.o ds)) (he : EvD K te ρ d) (h0 : d.okd 59 = true) (h1 : ∀ x ∈ ds, x.okd 59 = true) (s0 : d.sm 60 = true) (s1 : ∀ x ∈ ds, x.sm 60 = true) (hj : ds[k]? = some d) (hn : ∀ m : Nat, m < k → ds[m]? ≠ some d) (kk : F.nx (ρ.set i (.o (ds.eraseIdx k)))) :
    T K (tDrop (tBM K "list" (rRemD K) (tVar i) (tCons te tNil))) ρ F := fun S0 H0 S H σ Dd s a => by
  obtain ⟨p, vs, g1, g2, g3, g4, g5⟩ := s.own i ds h
  refine ⟨_, g1, .inl ⟨rfl, _, Evl.sq_of g4⟩, ?_⟩
  refine he S H σ s.ext.sub s.env _ fun v S' H' x r => ?_
  have s' := s.go x
  have rl := (g5.mono x.s).mono x.sub
  have dl := okd_shape 59 d h0
  refine ⟨p, vs, v, d.py, pyL ds, k, d.py, rfl, rfl, x.h _ _ g4, dpL (fun v d => Rd.dp 59 v d) _ _ h1 rl, Rd.dp 59 _ _ h0 (r.mono x.sub), ?_, dl.1, by omega, ?_, eqv_dec s0 s0 (by simp), fun m w hm hw => ?_, ?_⟩
  · rw [pyL_map]
    exact canLayAll_of _ fun y hy => by
      obtain ⟨e, he, rfl⟩ := List.mem_map.mp hy
      exact (okd_shape 59 e (h1 e he)).1
  · rw [pyL_map, List.getElem?_map, hj]
    rfl
  · rw [pyL_map, List.getElem?_map] at hw
    cases e : ds[m]? with
    | none => rw [e] at hw; cases hw
    | some y =>
      rw [e] at hw
      cases hw
      have ne : y ≠ d := fun z => hn m hm (by rw [e, z])
      exact eqv_dec (b := false) (s1 y (List.mem_of_getElem? e)) s0 ⟨fun z => (Bool.false_ne_true z).elim, fun z => (ne z).elim⟩
  · exact a.nx _ S' _ σ kk x.s (s'.put (vs := vs) h g1 ((g5.mono x.s).eraseIdx k))
/-- found.append(left.pop(k)) of two own lists -/
theorem T.appendPop {k : Nat} (h : ρ[i]? = some (.o ds)) (h2 : ρ[j]? = some (.o es)) (ne : i ≠ j) (hi : EvD K ti (see ρ) (.int (k : Int))) (hk : es[k]? = some d) (hl : ds.length < 100000) (hl2 : es.length < 100000) (kk : F.nx ((ρ.set j (.o (es.eraseIdx k))).set i (.o (ds ++ [d])))) :
    T K (tDrop (tBM K "list" rAppend (tVar i) (tCons (tBM K "list" rPopAt (tVar j) (tCons ti tNil)) tNil))) ρ F := fun S0 H0 S H σ Dd s a => by
  obtain ⟨e, v, w⟩ := s.see
  obtain ⟨p, vs, g1, g2, g3, g4, g5⟩ := s.own i ds h
  obtain ⟨p2, vs2, f1, f2, f3, f4, f5⟩ := s.own j es h2
  refine ⟨_, g1, .inl ⟨rfl, _, Evl.sq_of g4⟩, _, f1, .inl ⟨rfl, _, Evl.sq_of f4⟩, ?_⟩
  refine hi _ H σ e v _ fun x S' H' xx r => ?_
  cases r
  obtain ⟨eS, s'⟩ := w S' H' xx
  have hkl : k < es.length := (List.getElem?_eq_some_iff.mp hk).1
  obtain ⟨y, hy, ry⟩ := (f5.mono eS).get hk
  have np : p ≠ p2 := fun z => ne (s.apart i j ds es p h h2 g1 (by rw [z]; exact f1))
  refine ⟨p2, vs2, (k : Int), k, y, rfl, rfl, xx.h _ _ f4, by omega, by omega, ?_, hy, ?_⟩
  · unfold seqIndex?
    have hv : vs2.length = es.length := f5.length
    rw [hv]
    have h0 : ¬ ((k : Int) < 0) := by omega
    simp only [h0, if_false]
    have h1 : (decide (0 ≤ (k : Int)) && decide ((k : Int) < (es.length : Int))) = true := by
      rw [Bool.and_eq_true]
      exact ⟨decide_eq_true (by omega), decide_eq_true (by omega)⟩
    rw [if_pos h1]
    rfl
  · have s1 := s'.put (vs := vs2) h2 f1 ((f5.mono eS).eraseIdx k)
    refine ⟨p, vs, y, rfl, rfl, by rw [upd_ne np]; exact xx.h _ _ g4, Evl.sz_lt (by rw [g5.length]; exact hl), ?_⟩
    have hi2 : (ρ.set j (.o (es.eraseIdx k)))[i]? = some (.o ds) := by rw [List.getElem?_set_ne (Ne.symm ne)]; exact h
    exact a.nx _ _ _ σ kk eS (s1.put (vs := vs) hi2 g1 ((g5.mono eS).append (.cons ry .nil)))
theorem RdL.rev {S : Hp} : ∀ {vs : List V} {ds : List D}, RdL K S vs ds → RdL K S vs.reverse ds.reverse
  | _, _, .nil => .nil
  | _, _, .cons h r => by
    rw [List.reverse_cons, List.reverse_cons]
    exact (RdL.rev r).append (.cons h .nil)
/-- xs[::-1] -/
theorem evF_revL (h : EvD K te ρ (.lst ds)) : EvF K (tRevL K te) ρ ds.reverse := fun S H σ e v Q q =>
  h S H σ e v _ fun u S1 H1 x1 r1 => by
    cases r1 with
    | lst ha rl =>
      exact ⟨_, _, rfl, Evl.sq_of (x1.sub _ _ ha), fun p hp => q p _ S1 _ (x1.trans (Ext.hid x1.sub hp)) (Evl.fresh_back x1.h hp) (sub_none x1.sub hp) upd_same rl.rev⟩
theorem ok_revL {X : Cx} {e : Expr} {te : TE} {k : Nat} {p1 p2 p3 pos : Pos} (h : X.K = K) (he : PE X e te) : PE X (.Subscript e (.Slice none none (some (.UnaryOp .USub (.Constant (.int 1) k p1) p2)) p3) pos) (tRevL K te) := by subst h; exact pe_revL he
/-- list(range(n)) -/
theorem evF_listRg {n : Nat} (h : EvD K te ρ (.int (n : Int))) (hn : n ≤ 100000) : EvF K (tLstRg (tRg1 te)) ρ ((kI (List.range n)).map D.int) := fun S H σ e v Q q =>
  h S H σ e v _ fun w S1 H1 x1 r1 => by
    cases r1
    refine ⟨_, rfl, RgOk.of_le (by omega) (by omega) (by omega) (by omega), fun p hp => ?_⟩
    have ev : rgV 0 (n : Int) = (kI (List.range n)).map V.int := by
      unfold rgV kI
      have e1 : ((n : Int) - 0).toNat = n := by omega
      rw [e1, List.map_map]
      refine List.map_congr_left fun k _ => ?_
      show V.int (0 + (k : Int)) = V.int (k : Int)
      rw [Int.zero_add]
    rw [ev]
    exact q p _ S1 _ (x1.trans (Ext.hid x1.sub hp)) (Evl.fresh_back x1.h hp) (sub_none x1.sub hp) upd_same (RdL.ofInts _)
/-- while, its test with a look at own lists -/
theorem T.whileV {c : TT} {t : TS} (Pv : Nat → Rho → Prop) {m0 : Nat} (h0 : Pv m0 ρ) (hs : ∀ (m : Nat) (ρ' : Rho), Pv m ρ' → ∃ b, EvT K c (see ρ') b ∧ (b = true → T K t ρ' { F with nx := fun r => ∃ m', m' < m ∧ Pv m' r, ct := fun r => ∃ m', m' < m ∧ Pv m' r, bk := F.nx }) ∧ (b = false → F.nx ρ')) :
    T K (tWhile c t) ρ F := fun S0 H0 S H σ Dd s a => by
  refine ⟨fun m σ' H' => ∃ ρ' S', Pv m ρ' ∧ Ex S S' ∧ Stt K S0 H0 ρ' S' H' σ', ⟨m0, ρ, S, h0, Ex.refl S, s⟩, ?_⟩
  rintro m σ' H' ⟨ρ', S', p, e, s'⟩
  obtain ⟨b, hb, h1, h2⟩ := hs m ρ' p
  obtain ⟨ev, vv, w⟩ := s'.see
  refine hb _ H' σ' ev vv _ fun S2 H2 x2 => ?_
  obtain ⟨eS, s2⟩ := w S2 H2 x2
  have e2 := e.trans eS
  cases b with
  | true =>
    refine ⟨fun σ3 H3 => ∃ m', m' < m ∧ ∃ ρ3 S3, Pv m' ρ3 ∧ Ex S S3 ∧ Stt K S0 H0 ρ3 S3 H3 σ3, fun σ3 H3 z => z, ?_⟩
    exact h1 rfl S0 H0 _ H2 σ' _ s2 ⟨fun ρ3 S3 H3 σ3 ⟨m', l, n⟩ e3 s3 => ⟨m', l, ρ3, S3, n, e2.trans e3, s3⟩, fun ρ3 S3 H3 σ3 n e3 s3 => a.nx ρ3 S3 H3 σ3 n (e2.trans e3) s3, fun ρ3 S3 H3 σ3 ⟨m', l, n⟩ e3 s3 => ⟨m', l, ρ3, S3, n, e2.trans e3, s3⟩, a.rt, a.rf⟩
  | false => exact a.nx ρ' _ H2 σ' (h2 rfl) e2 s2
/-- f(..) of one thing that may change the region -/
theorem EvX.cb1 {rc : List V → Hp → VK → Prop} {g g' : Gs} {z : D} (h : EvX K te ρ g (.d d) g') (hr : RC K rc [d] z) : EvX K (tCB rc (tCons te tNil)) ρ g (.d z) g' := fun S0 H0 S H σ s Q q => h S0 H0 S H σ s _ fun v S' H' e y => by
  obtain ⟨y1, y2⟩ := y
  exact hr S' H' [v] y1.sub (.cons y2 .nil) Q fun w S2 H2 x2 r2 => q w S2 H2 (e.trans x2.s) ⟨y1.go x2, r2⟩
end
end Pl

/-! Fresh lists of tuples, told with a look at own lists. -/
namespace Pl
open PySem PySem.Spec PyProof.Rows L2
open Evl (Ex)
/-- flat things and tuples of such -/
def D.still (d : D) : Bool := match d with
  | .tup ds => ds.all D.flat
  | d => d.flat
section
variable {K : PySem.W.Frag} {S S2 : Hp}
theorem Rd.still (k : ∀ a xs, S a = some (.tup xs) → S2 a = some (.tup xs)) {v : V} {d : D} (h : Rd K S v d) (e : d.still = true) : Rd K S2 v d := by
  have g : d.flat = true → Rd K S2 v d := fun f => h.flat f
  cases h with
  | tup h r =>
    refine .tup (k _ _ h) (r.flat fun x hx => ?_)
    have e : List.all _ D.flat = true := e
    exact List.all_eq_true.mp e x hx
  | _ => exact g e
theorem RdL.still (k : ∀ a xs, S a = some (.tup xs) → S2 a = some (.tup xs)) : ∀ {vs : List V} {ds : List D}, RdL K S vs ds → (∀ d ∈ ds, d.still = true) → RdL K S2 vs ds
  | _, _, .nil, _ => .nil
  | _, _, .cons h r, e => .cons (Rd.still k h (e _ List.mem_cons_self)) (RdL.still k r fun d hd => e d (List.mem_cons_of_mem _ hd))
end
section
variable {K : PySem.W.Frag} {ρ : Rho} {te : TE} {es : List D} {F : FE} {i : Nat}
theorem T.asgFV (h : EvF K te (see ρ) es) (hf : ∀ d ∈ es, d.still = true) (k : F.nx (ρ.set i (.o es))) : T K (tAsg te (gName i)) ρ F := fun S0 H0 S H σ Dd s a => by
  obtain ⟨e, v, w⟩ := s.see
  refine h _ H σ e v _ fun p vs S' H' xx hp sp h' r => ?_
  obtain ⟨eS, s'⟩ := w S' H' xx
  have kt : ∀ a xs, S' a = some (.tup xs) → woOwn ρ σ S' a = some (.tup xs) := fun b xs q => by
    unfold woOwn
    rw [if_neg]
    · exact q
    · rintro ⟨j, ds, h1, h2⟩
      obtain ⟨p', us, g1, g2, g3, g4, g5⟩ := s.own j ds h1
      rw [g1] at h2
      cases h2
      have z1 := xx.h _ _ g4
      rw [xx.sub _ _ q] at z1
      cases z1
  refine a.nx _ _ H' _ k eS (s'.setO (Evl.fresh_back s.ext.h hp) ?_ h' (r.still kt hf) fun j ds _ hh ej => ?_)
  · unfold woOwn
    split
    · rfl
    · exact sp
  · obtain ⟨q, us, g1, g2, g3, g4, g5⟩ := s.own j ds hh
    rw [g1] at ej
    cases ej
    rw [hp] at g4
    cases g4
end
end Pl

/-! What stands between two joints: the same as lay, without the bar; what is carried behind all bars. -/
namespace Fr
def btw (cs : Cs) (one other : Nat) : Cs × Option (List Nat) :=
  ((unload other one 3 (unload one one 3 cs).1).1, if (unload other one 3 (unload one one 3 cs).1).2 = true then none else some (keys (reached (unload other one 3 (unload one one 3 cs).1).1 other)))
theorem lay_none {cs : Cs} {one other : Nat} (h : (btw cs one other).2 = none) : lay cs one other = ((btw cs one other).1.set one (at_ (btw cs one other).1 one ++ [other]), none) := by
  unfold btw at h ⊢
  unfold lay
  by_cases e : (unload other one 3 (unload one one 3 cs).1).2 = true
  · simp only [e, if_true]
  · simp only [e] at h
    cases h
theorem lay_some {cs : Cs} {one other : Nat} {ks : List Nat} (h : (btw cs one other).2 = some ks) : lay cs one other = ((btw cs one other).1, some ks) := by
  unfold btw at h ⊢
  unfold lay
  by_cases e : (unload other one 3 (unload one one 3 cs).1).2 = true
  · simp only [e, if_true] at h
    cases h
  · simp only [if_neg e] at h ⊢
    cases h
    rfl
theorem btw_fits {n : Nat} {cs : Cs} {bs : List Bar} {one other : Nat} (ft : Fits n cs bs) (h1 : one < n) (h2 : other < n) : Fits n (btw cs one other).1 bs := by
  obtain ⟨ft1, _⟩ := unload_spec (spared := one) h1 3 cs ft (by have := ft.two one; omega)
  exact (unload_spec (spared := one) h2 3 _ ft1 (by have := ft1.two other; omega)).1
def layL (cs : Cs) : List Bar → Cs
  | [] => cs
  | b :: r => layL (lay cs b.1 b.2).1 r
/-- the bars that are taken -/
def keptL (cs : Cs) : List Bar → List Bar
  | [] => []
  | b :: r => if (lay cs b.1 b.2).2 = none then b :: keptL (lay cs b.1 b.2).1 r else keptL (lay cs b.1 b.2).1 r
theorem lay_len {cs : Cs} {one other n : Nat} {bs : List Bar} (ft : Fits n cs bs) (h1 : one < n) (h2 : other < n) : (lay cs one other).1.length = n := by
  have l := (btw_fits ft h1 h2).len
  cases h : (btw cs one other).2 with
  | none => rw [lay_none h]; simpa using l
  | some ks => rw [lay_some h]; exact l
theorem lay_fits_no {n : Nat} {cs : Cs} {bs : List Bar} {one other : Nat} {ks : List Nat} (ft : Fits n cs bs) (h1 : one < n) (h2 : other < n) (h : (lay cs one other).2 = some ks) : Fits n (lay cs one other).1 bs := by
  have l := btw_fits ft h1 h2
  cases hb : (btw cs one other).2 with
  | none => rw [lay_none hb] at h; cases h
  | some k => rw [lay_some hb]; exact l
theorem kept_go {n : Nat} : ∀ (nb pre : List Bar) (cs : Cs), Ok n nb → Ok n pre → Fits n cs pre → Slim n pre → Fits n (layL cs nb) (pre ++ keptL cs nb) ∧ Slim n (pre ++ keptL cs nb)
  | [], pre, cs, _, _, ft, sl => by
    unfold layL keptL
    rw [List.append_nil]
    exact ⟨ft, sl⟩
  | b :: r, pre, cs, ok, okp, ft, sl => by
    obtain ⟨o1, o2, o3⟩ := ok b List.mem_cons_self
    have okr : Ok n r := fun c hc => ok c (List.mem_cons_of_mem _ hc)
    unfold layL keptL
    cases hy : (lay cs b.1 b.2).2 with
    | none =>
      obtain ⟨f1, f2⟩ := lay_yes ft okp sl o1 o2 o3 (Prod.ext rfl hy : lay cs b.1 b.2 = ((lay cs b.1 b.2).1, none))
      have z := kept_go r (pre ++ [b]) _ okr (fun c hc => by
        rcases List.mem_append.mp hc with hc | hc
        · exact okp c hc
        · rw [List.mem_singleton.mp hc]; exact ⟨o1, o2, o3⟩) f1 f2
      rw [List.append_assoc] at z
      exact z
    | some ks =>
      have z := kept_go r pre _ okr okp (lay_fits_no ft o1 o2 hy) sl
      rw [if_neg (by simp)]
      exact z
theorem kept_spec {n : Nat} {nb : List Bar} (ok : Ok n nb) : Fits n (layL (List.replicate n []) nb) (keptL (List.replicate n []) nb) ∧ Slim n (keptL (List.replicate n []) nb) := by
  have := kept_go nb [] (List.replicate n []) ok (fun _ h => nomatch h) (Pl.fits_bare n) (Pl.slim_nil n)
  simpa using this
theorem layL_snoc : ∀ (nb : List Bar) (cs : Cs) (b : Bar), layL cs (nb ++ [b]) = (lay (layL cs nb) b.1 b.2).1
  | [], cs, b => rfl
  | a :: r, cs, b => layL_snoc r _ b
end Fr

/-! What keeps bars slim: a joint with two bars, or with three where one goes; fewer bars, other orders, other names. -/
namespace Fr
def wo (S : JS) (j : Nat) : JS := fun x => S x && !(x == j)
theorem card_wo {n j : Nat} {S : JS} (hj : j < n) (h : S j = true) : card n S = card n (wo S j) + 1 := by
  have hc := card_cup_cap n (wo S j) (one j)
  rw [card_one hj] at hc
  have e1 : card n (cup (wo S j) (one j)) = card n S := card_same fun x _ => by
    show (S x && !(x == j) || (x == j)) = S x
    cases e : (x == j) with
    | false => simp
    | true =>
      rw [beq_iff_eq.mp e, h]
      rfl
  have e2 : card n (cap (wo S j) (one j)) = 0 := by
    unfold card
    rw [List.countP_eq_zero]
    intro x _ e
    simp [cap, one, wo] at e
    exact e.1.2 e.2
  omega
theorem ins_wo {n j : Nat} {bs : List Bar} {S : JS} (ok : Ok j bs) : ins bs (wo S j) = ins bs S := by
  unfold ins
  refine countP_same fun b hb => ?_
  obtain ⟨l1, l2, _⟩ := ok b hb
  unfold wo
  have e1 : (b.1 == j) = false := by simp; omega
  have e2 : (b.2 == j) = false := by simp; omega
  rw [e1, e2]
  simp
theorem ins_app (as bs : List Bar) (S : JS) : ins (as ++ bs) S = ins as S + ins bs S := by
  unfold ins
  exact List.countP_append
theorem ins_cons (b : Bar) (bs : List Bar) (S : JS) : ins (b :: bs) S = ins bs S + (S b.1 && S b.2).toNat := by
  unfold ins
  rw [List.countP_cons]
  cases (S b.1 && S b.2) <;> simp
theorem ins_nil (S : JS) : ins [] S = 0 := rfl
theorem ins_perm {as bs : List Bar} (h : as.Perm bs) (S : JS) : ins as S = ins bs S := h.countP_eq _
theorem ins_sub {as bs : List Bar} (h : as.Sublist bs) (S : JS) : ins as S ≤ ins bs S := h.countP_le
theorem ins_erase {bs : List Bar} {b : Bar} (h : b ∈ bs) (S : JS) : ins (bs.erase b) S + (S b.1 && S b.2).toNat = ins bs S := by
  rw [ins_perm (List.perm_cons_erase h) S, ins_cons]
theorem Ok.up {j n : Nat} {bs : List Bar} (h : Ok j bs) (le : j ≤ n) : Ok n bs := fun b hb => by
  obtain ⟨a, b, c⟩ := h b hb
  exact ⟨by omega, by omega, c⟩
theorem Slim.sub {n : Nat} {as bs : List Bar} (h : Slim n bs) (e : as.Sublist bs) : Slim n as := fun S hS => by
  have := h S hS
  have := ins_sub e S
  omega
theorem Slim.perm {n : Nat} {as bs : List Bar} (h : Slim n bs) (e : as.Perm bs) : Slim n as := fun S hS => by
  rw [ins_perm e]
  exact h S hS
theorem Ok.sub {n : Nat} {as bs : List Bar} (h : Ok n bs) (e : as.Sublist bs) : Ok n as := fun b hb => h b (e.subset hb)
theorem Ok.perm {n : Nat} {as bs : List Bar} (h : Ok n bs) (e : as.Perm bs) : Ok n as := fun b hb => h b (e.subset hb)
theorem Ok.app {n : Nat} {as bs : List Bar} (h : Ok n as) (g : Ok n bs) : Ok n (as ++ bs) := fun b hb => (List.mem_append.mp hb).elim (h b) (g b)
theorem bool_sum2 {x y z : Bool} : (z && x).toNat + (z && y).toNat ≤ 2 := by cases x <;> cases y <;> cases z <;> decide
/-- at most one of some joints lies in a set of one joint -/
theorem two_slim {n j a b : Nat} {bs ad : List Bar} (ok : Ok j bs) (sl : Slim n bs) (hj : j < n) (ha : a < j) (hb : b < j) (ne : a ≠ b) (had : ∀ S : JS, ins ad S = (S j && S a).toNat + (S j && S b).toNat) : Slim n (bs ++ ad) := fun S hS => by
  rw [ins_app, had]
  cases e : S j with
  | false => simpa using sl S hS
  | true =>
    have c := card_wo hj e
    have i := ins_wo (n := n) (S := S) ok
    by_cases h2 : 2 ≤ card n (wo S j)
    · have := sl _ h2
      have := @bool_sum2 (S a) (S b) true
      omega
    · have z := ins_small (ok.up (Nat.le_of_lt hj)) (S := wo S j) (by omega)
      have : ¬ (S a = true ∧ S b = true) := fun ⟨q1, q2⟩ => ne (le_one_of (S := wo S j) (n := n) (by omega) (by omega) (by omega) (by simp [wo, q1]; omega) (by simp [wo, q2]; omega))
      revert this
      rw [i] at z
      cases S a <;> cases S b <;> simp <;> omega
theorem three_slim {n j a b c : Nat} {bs ad : List Bar} (ok : Ok j bs) (sl : Slim n bs) (hj : j < n) (ha : a < j) (hb : b < j) (hc : c < j) (ne : a ≠ b) (nca : c ≠ a) (ncb : c ≠ b) (hm : (a, b) ∈ bs)
    (had : ∀ S : JS, ins ad S = (S j && S a).toNat + (S j && S b).toNat + (S j && S c).toNat) : Slim n (bs.erase (a, b) ++ ad) := fun S hS => by
  rw [ins_app, had]
  have er := ins_erase hm S
  cases e : S j with
  | false =>
    have := sl S hS
    simp
    omega
  | true =>
    have cc := card_wo hj e
    have i := ins_wo (n := n) (S := S) ok
    by_cases h2 : 2 ≤ card n (wo S j)
    · have := sl _ h2
      revert er
      show ins _ S + (S a && S b).toNat = _ → _
      cases S a <;> cases S b <;> cases S c <;> simp <;> omega
    · have z := ins_small (ok.up (Nat.le_of_lt hj)) (S := wo S j) (by omega)
      have k : ∀ x y : Nat, x < j → y < j → x ≠ y → ¬ (S x = true ∧ S y = true) := fun x y hx hy ne ⟨q1, q2⟩ => ne (le_one_of (S := wo S j) (n := n) (by omega) (by omega) (by omega) (by simp [wo, q1]; omega) (by simp [wo, q2]; omega))
      have k1 := k a b ha hb ne
      have k2 := k c a hc ha nca
      have k3 := k c b hc hb ncb
      rw [i] at z
      revert k1 k2 k3 er
      show ins _ S + (S a && S b).toNat = _ → _
      cases S a <;> cases S b <;> cases S c <;> simp <;> omega
theorem slim_one {n a b : Nat} (h : a ≠ b) : Slim n [(a, b)] := fun S hS => by
  rw [ins_cons, ins_nil]
  have : (S a && S b).toNat ≤ 1 := Bool.toNat_le _
  show 0 + (S a && S b).toNat + 3 ≤ _
  omega
/-- too many bars for all joints -/
theorem not_slim_all {n : Nat} {bs : List Bar} (ok : Ok n bs) (h2 : 2 ≤ n) (h : 2 * n < bs.length + 3) : ¬ Slim n bs := fun sl => by
  have c : card n (fun _ => true) = n := by simp [card]
  have := sl (fun _ => true) (by omega)
  have i : ins bs (fun _ => true) = bs.length := by simp [ins]
  omega
theorem slim_len {n : Nat} {bs : List Bar} (h2 : 2 ≤ n) (sl : Slim n bs) : bs.length + 3 ≤ 2 * n := by
  have c : card n (fun _ => true) = n := by simp [card]
  have := sl (fun _ => true) (by omega)
  have i : ins bs (fun _ => true) = bs.length := by simp [ins]
  omega
theorem small_len {n : Nat} {l : List Nat} (nd : l.Nodup) (low : ∀ k ∈ l, k < n) : l.length ≤ n := by
  have h := card_inL nd low
  rw [← h]
  exact card_le _ _
/-- other names -/
theorem card_name {n : Nat} {f : Nat → Nat} (inj : ∀ x y, x < n → y < n → f x = f y → x = y) (low : ∀ x, x < n → f x < n) (S : JS) : card n (fun x => S (f x)) = card n S := by
  have p : ((List.range n).map f).Perm (List.range n) := by
    have nd : ((List.range n).map f).Nodup := by
      unfold List.Nodup
      rw [List.pairwise_map]
      exact List.Pairwise.imp_of_mem (fun hx hy ne e => ne (inj _ _ (List.mem_range.mp hx) (List.mem_range.mp hy) e)) (List.nodup_range (n := n))
    refine (List.perm_ext_iff_of_nodup nd List.nodup_range).mpr fun y => ⟨fun hy => ?_, fun hy => ?_⟩
    · obtain ⟨x, hx, rfl⟩ := List.mem_map.mp hy
      exact List.mem_range.mpr (low x (List.mem_range.mp hx))
    · by_cases h : y ∈ (List.range n).map f
      · exact h
      · have := small_len (n := n) (l := y :: (List.range n).map f) (List.nodup_cons.mpr ⟨h, nd⟩) fun k hk => by
          rcases List.mem_cons.mp hk with rfl | hk
          · exact List.mem_range.mp hy
          · obtain ⟨x, hx, rfl⟩ := List.mem_map.mp hk
            exact low x (List.mem_range.mp hx)
        simp at this
        omega
  unfold card
  rw [← p.countP_eq S, List.countP_map]
  rfl
theorem name_slim {n : Nat} {f : Nat → Nat} {as bs : List Bar} (inj : ∀ x y, x < n → y < n → f x = f y → x = y) (low : ∀ x, x < n → f x < n) (sl : Slim n bs) (h : ∀ S : JS, ins as S = ins bs fun x => S (f x)) : Slim n as := fun S hS => by
  rw [h, ← card_name inj low S]
  exact sl _ (by rw [card_name inj low S]; exact hS)
end Fr
namespace Fr
def thirds (b : Bar) (j : Nat) : List Nat := (List.range j).filter fun e => !decide (e = b.1) && !decide (e = b.2)
def tstep (more j : Nat) (bs : List Bar) : List Bar :=
  if 2 < j ∧ more / 64 % 2 = 1 then
    bs.erase (bs.getD (more % bs.length) (0, 0)) ++ [((bs.getD (more % bs.length) (0, 0)).1, j), (j, (bs.getD (more % bs.length) (0, 0)).2),
      ((thirds (bs.getD (more % bs.length) (0, 0)) j).getD (more / 128 % (thirds (bs.getD (more % bs.length) (0, 0)) j).length) 0, j)]
  else bs ++ [(more / 7 % j, j), (j, (more / 7 % j + 1 + more / 211 % (j - 1)) % j)]
/-- lean bars of a stiff frame, joint by joint -/
def tgo (mx : Nat → Nat) : Nat → List Bar
  | 0 => [(0, 1)]
  | k + 1 => tstep (mx (k + 2)) (k + 2) (tgo mx k)
def tightB (mx : Nat → Nat) (n : Nat) : List Bar := if n ≤ 1 then [] else tgo mx (n - 2)
theorem thirds_pos {b : Bar} {j : Nat} (h : 2 < j) : 0 < (thirds b j).length := by
  apply List.length_pos_iff.mpr
  intro e
  have h0 : ∀ x, x < j → x = b.1 ∨ x = b.2 := fun x hx => by
    by_cases h1 : x = b.1
    · exact .inl h1
    · by_cases h2 : x = b.2
      · exact .inr h2
      · have : x ∈ thirds b j := List.mem_filter.mpr ⟨List.mem_range.mpr hx, by simp [h1, h2]⟩
        rw [e] at this
        cases this
  have a0 := h0 0 (by omega)
  have a1 := h0 1 (by omega)
  have a2 := h0 2 (by omega)
  omega
theorem getD_mem {α : Type} {l : List α} {i : Nat} {d : α} (h : i < l.length) : l.getD i d ∈ l := by
  have : l.getD i d = l[i] := by simp [List.getD, h]
  rw [this]
  exact List.getElem_mem h
theorem other_ne {a m j : Nat} (ha : a < j) (h2 : 2 ≤ j) : (a + 1 + m % (j - 1)) % j < j ∧ (a + 1 + m % (j - 1)) % j ≠ a := by
  have hm : m % (j - 1) < j - 1 := Nat.mod_lt _ (by omega)
  refine ⟨Nat.mod_lt _ (by omega), fun e => ?_⟩
  by_cases h : a + 1 + m % (j - 1) < j
  · rw [Nat.mod_eq_of_lt h] at e
    omega
  · rw [Nat.mod_eq_sub_mod (by omega), Nat.mod_eq_of_lt (by omega)] at e
    omega
theorem tstep_ok {more j n : Nat} {bs : List Bar} (h2 : 2 ≤ j) (hj : j < n) (ok : Ok j bs) (sl : Slim n bs) (hl : 0 < bs.length) :
    Ok (j + 1) (tstep more j bs) ∧ Slim n (tstep more j bs) ∧ (tstep more j bs).length = bs.length + 2 := by
  unfold tstep
  have hm : bs.getD (more % bs.length) (0, 0) ∈ bs := getD_mem (Nat.mod_lt _ hl)
  generalize bs.getD (more % bs.length) (0, 0) = b at hm ⊢
  obtain ⟨o1, o2, o3⟩ := ok b hm
  split
  · rename_i h
    have tp := thirds_pos (b := b) h.1
    have ht : (thirds b j).getD (more / 128 % (thirds b j).length) 0 ∈ thirds b j := getD_mem (Nat.mod_lt _ tp)
    generalize (thirds b j).getD (more / 128 % (thirds b j).length) 0 = c at ht ⊢
    obtain ⟨c1, c2⟩ := List.mem_filter.mp ht
    have c1 := List.mem_range.mp c1
    simp at c2
    refine ⟨Ok.app ((ok.sub List.erase_sublist).up (Nat.le_succ j)) fun x hx => ?_, three_slim ok sl hj o1 o2 c1 o3 c2.1 c2.2 hm fun S => ?_, ?_⟩
    · simp at hx
      rcases hx with rfl | rfl | rfl <;> simp <;> omega
    · simp only [ins_cons, ins_nil]
      cases S j <;> cases S b.1 <;> cases S b.2 <;> cases S c <;> rfl
    · rw [List.length_append, List.length_erase_of_mem hm]
      simp
      omega
  · have ha : more / 7 % j < j := Nat.mod_lt _ (by omega)
    generalize more / 7 % j = a at ha ⊢
    obtain ⟨b1, b2⟩ := other_ne (m := more / 211) ha h2
    generalize (a + 1 + more / 211 % (j - 1)) % j = b at b1 b2 ⊢
    refine ⟨Ok.app (ok.up (Nat.le_succ j)) fun x hx => ?_, two_slim ok sl hj ha b1 (Ne.symm b2) fun S => ?_, by simp⟩
    · simp at hx
      rcases hx with rfl | rfl <;> simp <;> omega
    · simp only [ins_cons, ins_nil]
      cases S j <;> cases S a <;> cases S b <;> rfl
theorem tgo_ok {mx : Nat → Nat} {n : Nat} : ∀ k, k + 2 ≤ n → Ok (k + 2) (tgo mx k) ∧ Slim n (tgo mx k) ∧ (tgo mx k).length = 2 * k + 1
  | 0, h => ⟨fun b hb => by
      simp [tgo] at hb
      subst hb
      simp, slim_one (by decide), rfl⟩
  | k + 1, h => by
    obtain ⟨h1, h2, h3⟩ := tgo_ok (mx := mx) (n := n) k (by omega)
    obtain ⟨g1, g2, g3⟩ := tstep_ok (more := mx (k + 2)) (j := k + 2) (by omega) (by omega) h1 h2 (by omega)
    exact ⟨g1, g2, by show (tstep _ _ _).length = _; omega⟩
theorem tight_ok {mx : Nat → Nat} {n : Nat} (h : 2 ≤ n) : Ok n (tightB mx n) ∧ Slim n (tightB mx n) ∧ (tightB mx n).length + 3 = 2 * n := by
  obtain ⟨h1, h2, h3⟩ := tgo_ok (mx := mx) (n := n) (n - 2) (by omega)
  unfold tightB
  rw [if_neg (by omega)]
  have : n - 2 + 2 = n := by omega
  rw [this] at h1
  exact ⟨h1, h2, by omega⟩
end Fr

/-! Numbers below n by a test. -/
namespace Pl
open PySem PySem.Spec PyProof.Rows L2
open Evl (Ex)
def numI : D → Int
  | .int i => i
  | _ => 0
/-- rising numbers below n by a test -/
def pick (n : Nat) (f : Nat → Bool) : List Int := ((List.range n).filter f).map fun k : Nat => (k : Int)
theorem pick_rise (n : Nat) (f : Nat → Bool) : (pick n f).Pairwise (· < ·) := by
  unfold pick
  rw [List.pairwise_map]
  exact (List.pairwise_lt_range.filter f).imp fun h => by omega
theorem pick_mem {n : Nat} {f : Nat → Bool} {k : Int} : k ∈ pick n f ↔ ∃ i : Nat, i < n ∧ f i = true ∧ (i : Int) = k := by
  unfold pick
  rw [List.mem_map]
  constructor
  · rintro ⟨i, hi, e⟩
    rw [List.mem_filter, List.mem_range] at hi
    exact ⟨i, hi.1, hi.2, e⟩
  · rintro ⟨i, h1, h2, e⟩
    exact ⟨i, by rw [List.mem_filter, List.mem_range]; exact ⟨h1, h2⟩, e⟩
theorem pick_len (n : Nat) (f : Nat → Bool) : (pick n f).length ≤ n := by
  unfold pick
  rw [List.length_map]
  have := List.length_filter_le f (List.range n)
  rw [List.length_range] at this
  exact this
theorem evF_pick {K : PySem.W.Frag} {ρ : Rho} {wi : TI} {tt : TT} {te : TE} {vs : List Nat} {n : Nat} {j : Nat} {f : Nat → Bool} (hi : EvI K wi ρ (rngD 0 n 1)) (hj : j ∈ vs) (hn : n ≤ 1000)
    (ht : ∀ i : Nat, i < n → EvT K tt (setR (wipeR ρ vs) [(j, .int (i : Int))]) (f i)) (he : ∀ i : Nat, i < n → EvD K te (setR (wipeR ρ vs) [(j, .int (i : Int))]) (.int (i : Int))) :
    EvF K (tLc wi (gName j) tt te vs) ρ ((pick n f).map D.int) := by
  refine EvF.to (evF_lc hi (fun d => [(j, d)]) (fun d => f (numI d).toNat) id (fun d _ => eg_name) (fun d _ p hp => ?_) (fun d hd => ?_) (fun d hd _ => ?_) ?_) ?_
  · rw [List.mem_singleton.mp hp]
    exact hj
  · obtain ⟨i, hi, rfl⟩ := rngD_mem0 hd
    show EvT K tt _ (f ((i : Int)).toNat)
    rw [Int.toNat_natCast]
    exact ht i hi
  · obtain ⟨i, hi, rfl⟩ := rngD_mem0 hd
    exact he i hi
  · rw [rngD_len]
    omega
  · unfold pick rngD
    rw [List.filter_map, List.map_map, List.map_map]
    have e : ((fun d => f (numI d).toNat) ∘ fun i : Nat => D.int (0 + (i : Int) * 1)) = f := by
      funext i
      show f (0 + (i : Int) * 1).toNat = f i
      rw [Int.mul_one, Int.zero_add, Int.toNat_natCast]
    rw [e]
    refine List.map_congr_left fun i _ => ?_
    show D.int (0 + (i : Int) * 1) = D.int (i : Int)
    rw [Int.mul_one, Int.zero_add]
end Pl

/-! Lists of bars as data. -/
namespace Pl
open PySem PySem.Spec PyProof.Rows L2
open Evl (Ex)
def brs (nb : List Fr.Bar) : List D := (nb.map bI).map barD
theorem brs_app (as bs : List Fr.Bar) : brs (as ++ bs) = brs as ++ brs bs := by unfold brs; rw [List.map_append, List.map_append]
theorem brs_len (as : List Fr.Bar) : (brs as).length = as.length := by unfold brs; rw [List.length_map, List.length_map]
theorem brs_get {as : List Fr.Bar} {i : Nat} (h : i < as.length) : (brs as)[i]? = some (barD (bI (as.getD i (0, 0)))) := by
  unfold brs
  rw [List.getElem?_map, List.getElem?_map, List.getElem?_eq_getElem h]
  simp [List.getD, h]
theorem brs_mem {as : List Fr.Bar} {d : D} (h : d ∈ brs as) : ∃ b ∈ as, d = barD (bI b) := by
  obtain ⟨c, hc, rfl⟩ := List.mem_map.mp h
  obtain ⟨b, hb, rfl⟩ := List.mem_map.mp hc
  exact ⟨b, hb, rfl⟩
theorem brs_still {as : List Fr.Bar} : ∀ d ∈ brs as, d.still = true := fun d h => by
  obtain ⟨b, _, rfl⟩ := brs_mem h
  rfl
theorem brs_okd {as : List Fr.Bar} : ∀ d ∈ brs as, d.okd 59 = true := fun d h => by
  obtain ⟨b, _, rfl⟩ := brs_mem h
  rfl
theorem brs_sm {as : List Fr.Bar} : ∀ d ∈ brs as, d.sm 60 = true := fun d h => by
  obtain ⟨b, _, rfl⟩ := brs_mem h
  rfl
theorem erase_map {α β : Type} [BEq α] [LawfulBEq α] {f : α → β} (inj : ∀ x y, f x = f y → x = y) {a : α} : ∀ {l : List α}, a ∈ l → ∃ i, (l.map f)[i]? = some (f a) ∧ (∀ q : Nat, q < i → (l.map f)[q]? ≠ some (f a)) ∧ (l.map f).eraseIdx i = (l.erase a).map f
  | x :: l, h => by
    by_cases e : x = a
    · subst e
      refine ⟨0, rfl, fun q hq => absurd hq (Nat.not_lt_zero _), ?_⟩
      rw [List.erase_cons_head]
      rfl
    · obtain ⟨i, h1, h2, h3⟩ := erase_map inj (List.mem_of_ne_of_mem (Ne.symm e) h)
      refine ⟨i + 1, h1, fun q hq => ?_, ?_⟩
      · cases q with
        | zero =>
          intro z
          exact e (inj _ _ (Option.some.inj z))
        | succ q => exact h2 q (by omega)
      · rw [List.erase_cons_tail (by simpa using e)]
        show f x :: (l.map f).eraseIdx i = _
        rw [h3]
        rfl
theorem barI_inj : ∀ x y : Fr.Bar, barD (bI x) = barD (bI y) → x = y := fun x y h => by
  have h : D.tup [.int (x.1 : Int), .int (x.2 : Int)] = D.tup [.int (y.1 : Int), .int (y.2 : Int)] := h
  injection h with h
  injection h with h1 h2
  injection h2 with h2 _
  injection h1 with h1
  injection h2 with h2
  exact Prod.ext (by omega) (by omega)
theorem brs_erase {as : List Fr.Bar} {b : Fr.Bar} (h : b ∈ as) : ∃ i, (brs as)[i]? = some (barD (bI b)) ∧ (∀ q : Nat, q < i → (brs as)[q]? ≠ some (barD (bI b))) ∧ (brs as).eraseIdx i = brs (as.erase b) := by
  have e : ∀ l : List Fr.Bar, brs l = l.map fun x => barD (bI x) := fun l => by unfold brs; rw [List.map_map]; rfl
  rw [e, e]
  exact erase_map barI_inj h
theorem cut_from (xs : List D) (k : Nat) : cutD xs (some (k : Int)) none = xs.drop k := by
  unfold cutD
  rw [HT.sIx_nat, HT.sIx_none]
  by_cases h : k ≤ xs.length
  · rw [Nat.min_eq_left h, List.take_of_length_le (by rw [List.length_drop]; omega)]
  · rw [Nat.min_eq_right (by omega), List.drop_length, List.drop_eq_nil_of_le (by omega), List.take_nil]
theorem cut_to (xs : List D) (k : Nat) : cutD xs none (some (k : Int)) = xs.take k := by
  unfold cutD
  rw [HT.sIx_nat, HT.sIx_none, List.drop_zero, Nat.sub_zero]
  by_cases h : k ≤ xs.length
  · rw [Nat.min_eq_left h]
  · rw [Nat.min_eq_right (by omega), List.take_length, List.take_of_length_le (by omega)]
theorem natL_get {l : List Nat} {i : Nat} (h : i < l.length) : ((kI l).map D.int)[i]? = some (.int ((l.getD i 0 : Nat) : Int)) := by
  unfold kI
  rw [List.getElem?_map, List.getElem?_map, List.getElem?_eq_getElem h]
  simp [List.getD, h]
end Pl

/-! insert and clear of own lists. -/
namespace Pl
open PySem PySem.Spec PyProof.Rows L2
open Evl (Ex)
def rIns : V → List V → Hp → VK → Prop := fun x vs H Q => ∃ (l : Addr) (xs : List V) (i : Int) (y : V), x = .ref l ∧ vs = [.int i, y] ∧ H l = some (.lst xs) ∧ xs.length < sizeLine ∧ 0 ≤ i ∧ i < 2 ^ 63 ∧
    Q .non (upd H l (.lst (xs.take i.toNat ++ [y] ++ xs.drop i.toNat)))
theorem ok_insert {X : Cx} : MtR X "list.insert" rIns := mt_insert
section
variable {K : PySem.W.Frag} {ρ : Rho} {te ti : TE} {d : D} {ds es : List D} {F : FE} {i j : Nat}
theorem T.insert {k : Nat} (h : ρ[i]? = some (.o ds)) (hi : EvD K ti (see ρ) (.int (k : Int))) (he : EvD K te ρ d) (hl : ds.length < 100000) (hk : k ≤ ds.length) (kk : F.nx (ρ.set i (.o (ds.take k ++ [d] ++ ds.drop k)))) :
    T K (tDrop (tBM K "list" rIns (tVar i) (tCons ti (tCons te tNil)))) ρ F := fun S0 H0 S H σ Dd s a => by
  obtain ⟨e, v, w⟩ := s.see
  obtain ⟨p, vs, g1, g2, g3, g4, g5⟩ := s.own i ds h
  refine ⟨_, g1, .inl ⟨rfl, _, Evl.sq_of g4⟩, ?_⟩
  refine hi _ H σ e v _ fun x S' H' xx r => ?_
  cases r
  obtain ⟨eS, s'⟩ := w S' H' xx
  obtain ⟨p', vs', k1, k2, k3, k4, k5⟩ := s'.own i ds h
  rw [g1] at k1
  cases k1
  refine he _ H' σ s'.ext.sub s'.env _ fun y S2 H2 x2 r2 => ?_
  have s2 := s'.go x2
  refine ⟨p, vs', (k : Int), y, rfl, rfl, x2.h _ _ k4, Evl.sz_lt (by rw [k5.length]; exact hl), by omega, by omega, ?_⟩
  have rl := k5.mono x2.s
  rw [Int.toNat_natCast]
  exact a.nx _ _ _ σ kk (Ex.trans eS x2.s) (s2.put (vs := vs') h g1 (((rl.take k).append (.cons r2 .nil)).append (rl.drop k)))
theorem T.clear (h : ρ[i]? = some (.o ds)) (kk : F.nx (ρ.set i (.o []))) : T K (tDrop (tBM0 K "list" rClear (tVar i))) ρ F := fun S0 H0 S H σ Dd s a => by
  obtain ⟨p, vs, g1, g2, g3, g4, g5⟩ := s.own i ds h
  refine ⟨_, g1, .inl ⟨rfl, _, Evl.sq_of g4⟩, ?_⟩
  exact ⟨p, vs, rfl, rfl, g4, a.nx _ S _ σ kk (Ex.refl S) (s.put (vs := vs) h g1 .nil)⟩
end
end Pl

/-! Orders, other names, and sets, as the text that tries a frame makes them. -/
namespace Pl
def orderGo : Nat → Int → List Int → List Int → List Int
  | 0, _, _, found => found
  | k + 1, c, left, found => orderGo k (c / (left.length : Int)) (left.eraseIdx (c % (left.length : Int)).toNat) (found ++ [left.getD (c % (left.length : Int)).toNat 0])
def orderL (c : Int) (n : Nat) : List Int := orderGo n c ((List.range n).map fun k : Nat => (k : Int)) []
theorem take_out {l : List Int} : ∀ {i : Nat}, i < l.length → (l.getD i 0 :: l.eraseIdx i).Perm l := by
  induction l with
  | nil => intro i h; exact absurd h (Nat.not_lt_zero _)
  | cons x l ih =>
    intro i h
    cases i with
    | zero => exact .refl _
    | succ i => exact (List.Perm.swap x (l.getD i 0) (l.eraseIdx i)).trans ((ih (Nat.lt_of_succ_lt_succ h)).cons x)
theorem orderGo_perm : ∀ (k : Nat) (c : Int) (left found : List Int), left.length = k → (orderGo k c left found).Perm (found ++ left)
  | 0, c, left, found, h => by
    have : left = [] := List.length_eq_zero_iff.mp h
    subst this
    rw [List.append_nil]
    exact .refl _
  | k + 1, c, left, found, h => by
    have m1 := Int.emod_nonneg c (show (left.length : Int) ≠ 0 by omega)
    have m2 := Int.emod_lt_of_pos c (show (0 : Int) < (left.length : Int) by omega)
    have hi : (c % (left.length : Int)).toNat < left.length := by omega
    show (orderGo k (c / (left.length : Int)) (left.eraseIdx (c % (left.length : Int)).toNat) (found ++ [left.getD (c % (left.length : Int)).toNat 0])).Perm _
    generalize (c % (left.length : Int)).toNat = i at hi
    refine (orderGo_perm k _ _ _ (by rw [List.length_eraseIdx_of_lt hi]; omega)).trans ?_
    rw [List.append_assoc]
    exact (take_out hi).append_left found
/-- the order as numbers -/
def orderN (c : Int) (n : Nat) : List Nat := (orderL c n).map Int.toNat
theorem order_perm (c : Int) (n : Nat) : (orderN c n).Perm (List.range n) := by
  have h := (orderGo_perm n c ((List.range n).map fun k : Nat => (k : Int)) [] (by simp)).map Int.toNat
  rw [List.nil_append, List.map_map] at h
  have e : (Int.toNat ∘ fun k : Nat => (k : Int)) = id := by funext k; exact Int.toNat_natCast k
  rw [e, List.map_id] at h
  exact h
theorem orderL_eq (c : Int) (n : Nat) : orderL c n = kI (orderN c n) := by
  unfold kI orderN
  rw [List.map_map]
  have h := orderGo_perm n c ((List.range n).map fun k : Nat => (k : Int)) [] (by simp)
  refine (List.map_id _).symm.trans (List.map_congr_left fun x hx => ?_)
  obtain ⟨k, _, rfl⟩ := List.mem_map.mp (h.mem_iff.mp hx)
  rfl
theorem orderN_len (c : Int) (n : Nat) : (orderN c n).length = n := by
  have := (order_perm c n).length_eq
  rwa [List.length_range] at this
theorem orderN_low {c : Int} {n x : Nat} (h : x < n) : (orderN c n).getD x 0 < n := by
  have : (orderN c n).getD x 0 ∈ orderN c n := Fr.getD_mem (by rw [orderN_len]; exact h)
  exact List.mem_range.mp ((order_perm c n).mem_iff.mp this)
theorem orderN_inj {c : Int} {n x y : Nat} (hx : x < n) (hy : y < n) (e : (orderN c n).getD x 0 = (orderN c n).getD y 0) : x = y := by
  have nd : (orderN c n).Nodup := (order_perm c n).nodup_iff.mpr List.nodup_range
  have lx : x < (orderN c n).length := by rw [orderN_len]; exact hx
  have ly : y < (orderN c n).length := by rw [orderN_len]; exact hy
  simp only [List.getD, List.getElem?_eq_getElem lx, List.getElem?_eq_getElem ly, Option.getD_some] at e
  have q := List.pairwise_iff_getElem.mp nd
  rcases Nat.lt_trichotomy x y with h | h | h
  · exact absurd e (q x y lx ly h)
  · exact h
  · exact absurd e.symm (q y x ly lx h)
/-! ### other names -/
def nameP (bs : List (Int × Int)) (os : List Int) (c : Int) (k : Nat) : Int × Int :=
  (os.getD (bs.getD (((k : Int) + c) % (bs.length : Int)).toNat (0, 0)).1.toNat 0, os.getD (bs.getD (((k : Int) + c) % (bs.length : Int)).toNat (0, 0)).2.toNat 0)
def nameB (bs : List (Int × Int)) (os : List Int) (c : Int) (k : Nat) : Int × Int := if c / ((k : Int) + 2) % 2 = 1 then ((nameP bs os c k).2, (nameP bs os c k).1) else nameP bs os c k
def namedL (bs : List (Int × Int)) (os : List Int) (c : Int) (m : Nat) : List (Int × Int) := (List.range m).map (nameB bs os c)
theorem namedL_succ (bs : List (Int × Int)) (os : List Int) (c : Int) (m : Nat) : namedL bs os c (m + 1) = namedL bs os c m ++ [nameB bs os c m] := by
  unfold namedL
  rw [List.range_succ, List.map_append]
  rfl
def rotI (c : Int) (m k : Nat) : Nat := (((k : Int) + c) % (m : Int)).toNat
def turnB (q : Bool) (b : Fr.Bar) : Fr.Bar := if q then (b.2, b.1) else b
def nameN (nb : List Fr.Bar) (p : List Nat) (c : Int) (k : Nat) : Fr.Bar :=
  turnB (decide (c / ((k : Int) + 2) % 2 = 1)) (p.getD (nb.getD (rotI c nb.length k) (0, 0)).1 0, p.getD (nb.getD (rotI c nb.length k) (0, 0)).2 0)
def namedN (nb : List Fr.Bar) (p : List Nat) (c : Int) : List Fr.Bar := (List.range nb.length).map (nameN nb p c)
theorem getD_bI (nb : List Fr.Bar) (i : Nat) : (nb.map bI).getD i (0, 0) = bI (nb.getD i (0, 0)) := by
  by_cases h : i < nb.length
  · simp [List.getD, h]
  · simp [List.getD, Nat.le_of_not_lt h, bI]
theorem getD_kI (p : List Nat) (i : Nat) : (kI p).getD i 0 = ((p.getD i 0 : Nat) : Int) := by
  unfold kI
  by_cases h : i < p.length
  · simp [List.getD, h]
  · simp [List.getD, Nat.le_of_not_lt h]
theorem nameB_eq (nb : List Fr.Bar) (p : List Nat) (c : Int) (k : Nat) : nameB (nb.map bI) (kI p) c k = bI (nameN nb p c k) := by
  have e : nameP (nb.map bI) (kI p) c k = bI (p.getD (nb.getD (rotI c nb.length k) (0, 0)).1 0, p.getD (nb.getD (rotI c nb.length k) (0, 0)).2 0) := by
    unfold nameP rotI
    rw [List.length_map, getD_bI]
    show (_, _) = (_, _)
    simp only [bI, Int.toNat_natCast, getD_kI]
  unfold nameB nameN turnB
  rw [e]
  by_cases h : c / ((k : Int) + 2) % 2 = 1
  · rw [if_pos h, decide_eq_true h, if_pos rfl]; rfl
  · rw [if_neg h, decide_eq_false h, if_neg Bool.false_ne_true]
theorem namedL_eq (nb : List Fr.Bar) (p : List Nat) (c : Int) : namedL (nb.map bI) (kI p) c (nb.map bI).length = (namedN nb p c).map bI := by
  unfold namedL namedN
  rw [List.map_map, List.length_map]
  exact List.map_congr_left fun k _ => nameB_eq nb p c k
theorem namedN_len (nb : List Fr.Bar) (p : List Nat) (c : Int) : (namedN nb p c).length = nb.length := by unfold namedN; rw [List.length_map, List.length_range]
theorem rotI_lt {c : Int} {m k : Nat} (h : k < m) : rotI c m k < m := by
  unfold rotI
  have m1 := Int.emod_nonneg ((k : Int) + c) (show (m : Int) ≠ 0 by omega)
  have m2 := Int.emod_lt_of_pos ((k : Int) + c) (show (0 : Int) < (m : Int) by omega)
  omega
theorem rotI_inj {c : Int} {m x y : Nat} (hx : x < m) (hy : y < m) (h : rotI c m x = rotI c m y) : x = y := by
  unfold rotI at h
  have m1 := Int.emod_nonneg ((x : Int) + c) (show (m : Int) ≠ 0 by omega)
  have m2 := Int.emod_nonneg ((y : Int) + c) (show (m : Int) ≠ 0 by omega)
  have e : ((x : Int) + c) % (m : Int) = ((y : Int) + c) % (m : Int) := by omega
  have z := Int.emod_eq_emod_iff_emod_sub_eq_zero.mp e
  have z2 := Int.emod_eq_emod_iff_emod_sub_eq_zero.mp e.symm
  by_cases l : y ≤ x
  · rw [show ((x : Int) + c - ((y : Int) + c)) = ((x - y : Nat) : Int) by omega, Int.emod_eq_of_lt (by omega) (by omega)] at z
    omega
  · rw [show ((y : Int) + c - ((x : Int) + c)) = ((y - x : Nat) : Int) by omega, Int.emod_eq_of_lt (by omega) (by omega)] at z2
    omega
theorem range_perm {n : Nat} {f : Nat → Nat} (inj : ∀ x y, x < n → y < n → f x = f y → x = y) (low : ∀ x, x < n → f x < n) : ((List.range n).map f).Perm (List.range n) := by
  have nd : ((List.range n).map f).Nodup := by
    unfold List.Nodup
    rw [List.pairwise_map]
    exact List.Pairwise.imp_of_mem (fun hx hy ne e => ne (inj _ _ (List.mem_range.mp hx) (List.mem_range.mp hy) e)) (List.nodup_range (n := n))
  refine (List.perm_ext_iff_of_nodup nd List.nodup_range).mpr fun y => ⟨fun hy => ?_, fun hy => ?_⟩
  · obtain ⟨x, hx, rfl⟩ := List.mem_map.mp hy
    exact List.mem_range.mpr (low x (List.mem_range.mp hx))
  · by_cases h : y ∈ (List.range n).map f
    · exact h
    · have := Fr.small_len (n := n) (l := y :: (List.range n).map f) (List.nodup_cons.mpr ⟨h, nd⟩) fun k hk => by
        rcases List.mem_cons.mp hk with rfl | hk
        · exact List.mem_range.mp hy
        · obtain ⟨x, hx, rfl⟩ := List.mem_map.mp hk
          exact low x (List.mem_range.mp hx)
      simp at this
      omega
theorem range_getD (nb : List Fr.Bar) : (List.range nb.length).map (fun i => nb.getD i (0, 0)) = nb := by
  refine List.ext_getElem (by simp) fun i h1 h2 => ?_
  simp [List.getD, h2]
/-- the bars as they stand there, the first ones behind -/
theorem rot_perm (nb : List Fr.Bar) (c : Int) : ((List.range nb.length).map fun k => nb.getD (rotI c nb.length k) (0, 0)).Perm nb := by
  have h := (range_perm (n := nb.length) (f := rotI c nb.length) (fun x y hx hy => rotI_inj hx hy) fun x hx => rotI_lt hx).map fun i => nb.getD i (0, 0)
  rw [range_getD, List.map_map] at h
  exact h
theorem ins_named (nb : List Fr.Bar) (p : List Nat) (c : Int) (S : Fr.JS) : Fr.ins (namedN nb p c) S = Fr.ins nb fun x => S (p.getD x 0) := by
  rw [← Fr.ins_perm (rot_perm nb c)]
  unfold namedN Fr.ins
  rw [List.countP_map, List.countP_map]
  refine Fr.countP_same fun k _ => ?_
  show (S (nameN nb p c k).1 && S (nameN nb p c k).2) = (S _ && S _)
  unfold nameN turnB
  split
  · exact Bool.and_comm _ _
  · rfl
theorem named_ok {nb : List Fr.Bar} {n : Nat} (ok : Fr.Ok n nb) (o c : Int) : Fr.Ok n (namedN nb (orderN o n) c) := fun b hb => by
  obtain ⟨k, hk, rfl⟩ := List.mem_map.mp hb
  have hk := List.mem_range.mp hk
  have hm : nb.getD (rotI c nb.length k) (0, 0) ∈ nb := Fr.getD_mem (rotI_lt hk)
  obtain ⟨o1, o2, o3⟩ := ok _ hm
  unfold nameN turnB
  generalize nb.getD (rotI c nb.length k) (0, 0) = b at o1 o2 o3
  have l1 := orderN_low (c := o) o1
  have l2 := orderN_low (c := o) o2
  have ne : (orderN o n).getD b.1 0 ≠ (orderN o n).getD b.2 0 := fun e => o3 (orderN_inj o1 o2 e)
  split
  · exact ⟨l2, l1, Ne.symm ne⟩
  · exact ⟨l1, l2, ne⟩
theorem named_slim {nb : List Fr.Bar} {n : Nat} (sl : Fr.Slim n nb) (o c : Int) : Fr.Slim n (namedN nb (orderN o n) c) :=
  Fr.name_slim (f := fun x => (orderN o n).getD x 0) (fun x y hx hy => orderN_inj hx hy) (fun x hx => orderN_low hx) sl fun S => ins_named nb _ c S
/-! ### sets -/
def setsAll (js : List Int) : List (List Int) := js.foldl (fun acc j => acc ++ acc.map (· ++ [j])) [[]]
def setsL (js : List Int) : List (List Int) := (setsAll js).filter fun l => decide (1 < l.length)
theorem setsAll_snoc (js : List Int) (j : Int) : setsAll (js ++ [j]) = setsAll js ++ (setsAll js).map (· ++ [j]) := by
  unfold setsAll
  rw [List.foldl_append]
  rfl
theorem snoc_ind {α : Type} {p : List α → Prop} (h0 : p []) (hs : ∀ l x, p l → p (l ++ [x])) (l : List α) : p l := by
  have h : ∀ k : Nat, k ≤ l.length → p (l.take k) := fun k => by
    induction k with
    | zero => exact fun _ => h0
    | succ k ih =>
      intro hk
      rw [← List.take_append_getElem (show k < l.length by omega)]
      exact hs _ _ (ih (by omega))
  have := h l.length (Nat.le_refl _)
  rwa [List.take_length] at this
theorem setsAll_len (js : List Int) : (setsAll js).length = 2 ^ js.length := by
  refine snoc_ind (p := fun js => (setsAll js).length = 2 ^ js.length) rfl (fun js j ih => ?_) js
  rw [setsAll_snoc, List.length_append, List.length_map, ih, List.length_append]
  show _ = 2 ^ (js.length + 1)
  rw [Nat.pow_succ]
  omega
theorem setsAll_sub (js : List Int) : ∀ l, l ∈ setsAll js ↔ l.Sublist js := by
  refine snoc_ind (p := fun js => ∀ l, l ∈ setsAll js ↔ l.Sublist js) (fun l => ?_) (fun js j ih l => ?_) js
  · show l ∈ [[]] ↔ _
    rw [List.mem_singleton, List.sublist_nil]
  · rw [setsAll_snoc, List.mem_append, List.mem_map]
    constructor
    · rintro (h | ⟨k, hk, rfl⟩)
      · exact ((ih l).mp h).trans (List.sublist_append_left _ _)
      · exact ((ih k).mp hk).append (.refl _)
    · intro h
      obtain ⟨l1, l2, rfl, h1, h2⟩ := List.sublist_append_iff.mp h
      rcases l2 with _ | ⟨x, l2⟩
      · rw [List.append_nil]
        exact .inl ((ih l1).mpr h1)
      · have hl := h2.length_le
        have : l2 = [] := List.length_eq_zero_iff.mp (by simp at hl; exact List.length_eq_zero_iff.mpr hl)
        subst this
        have hx : x = j := List.mem_singleton.mp (h2.subset List.mem_cons_self)
        subst hx
        exact .inr ⟨l1, (ih l1).mpr h1, rfl⟩
theorem setsAll_short (js : List Int) : ∀ l ∈ setsAll js, l.length ≤ js.length := fun l h => ((setsAll_sub js l).mp h).length_le
def insideL (bs : List (Int × Int)) (js : List Int) : Nat := (bs.filter fun b => decide (b.1 ∈ js) && decide (b.2 ∈ js)).length
def isI (l : List Int) : Fr.JS := fun x => decide ((x : Int) ∈ l)
theorem inside_ins (nb : List Fr.Bar) (l : List Int) : insideL (nb.map bI) l = Fr.ins nb (isI l) := by
  unfold insideL Fr.ins
  rw [← List.countP_eq_length_filter, List.countP_map]
  rfl
def ofS (n : Nat) (S : Fr.JS) : List Int := kI ((List.range n).filter S)
theorem ofS_sub (n : Nat) (S : Fr.JS) : (ofS n S).Sublist (kI (List.range n)) := (List.filter_sublist).map _
theorem ofS_len (n : Nat) (S : Fr.JS) : (ofS n S).length = Fr.card n S := by
  unfold ofS kI Fr.card
  rw [List.length_map, List.countP_eq_length_filter]
theorem isI_ofS {n x : Nat} {S : Fr.JS} (h : x < n) : isI (ofS n S) x = S x := by
  unfold isI ofS
  have : ((x : Int) ∈ kI ((List.range n).filter S)) ↔ S x = true := by
    rw [kI_mem, List.mem_filter, List.mem_range]
    exact ⟨fun h => h.2, fun e => ⟨h, e⟩⟩
  cases e : S x with
  | true => exact decide_eq_true (this.mpr e)
  | false => exact decide_eq_false fun q => by rw [this.mp q] at e; cases e
theorem sub_nodup {n : Nat} {l : List Int} (h : l.Sublist (kI (List.range n))) : ∃ m : List Nat, l = kI m ∧ m.Nodup ∧ (∀ k ∈ m, k < n) ∧ m.Pairwise (· < ·) := by
  obtain ⟨m, hm, rfl⟩ := List.sublist_map_iff.mp h
  exact ⟨m, rfl, hm.nodup List.nodup_range, fun k hk => List.mem_range.mp (hm.subset hk), List.pairwise_lt_range.sublist hm⟩
theorem card_isI {n : Nat} {l : List Int} (h : l.Sublist (kI (List.range n))) : Fr.card n (isI l) = l.length := by
  obtain ⟨m, rfl, nd, low, _⟩ := sub_nodup h
  have e : isI (kI m) = Fr.inL m := by
    funext x
    unfold isI Fr.inL
    exact decide_eq_decide.mpr kI_mem
  rw [e, Fr.card_inL nd low]
  unfold kI
  rw [List.length_map]
/-- lean: no set crowded -/
theorem sets_slim {n : Nat} {nb : List Fr.Bar} (ok : Fr.Ok n nb) : (∀ l ∈ setsL (kI (List.range n)), ¬ (2 * l.length < insideL (nb.map bI) l + 3)) ↔ Fr.Slim n nb := by
  constructor
  · intro h S hS
    have hl := h (ofS n S) (List.mem_filter.mpr ⟨(setsAll_sub _ _).mpr (ofS_sub n S), by rw [decide_eq_true_eq, ofS_len]; omega⟩)
    rw [ofS_len, inside_ins, Fr.ins_same ok (T := S) fun x hx => isI_ofS hx] at hl
    omega
  · intro sl l hl
    obtain ⟨h1, h2⟩ := List.mem_filter.mp hl
    have h1 := (setsAll_sub _ _).mp h1
    have h2 := of_decide_eq_true h2
    have := sl (isI l) (by rw [card_isI h1]; exact h2)
    rw [card_isI h1] at this
    rw [inside_ins]
    omega
end Pl

/-! A call with no region before and after is like any other. -/
namespace Pl
open PySem PySem.Spec PyProof.Rows L2
open Evl (Ex)
section
variable {K : PySem.W.Frag} {S0 H0 S H S' H' : Hp} {σ : L2.St} {ρ : Rho} {tA : TA} {E : XK} {ds es : List D} {d : D} {N : List Str} {t : TS}
theorem SG.none (e : Ex S H) : SG K S H [] [] S H [] := by
  refine ⟨[], ⟨.nil, List.nodup_nil, fun _ h => nomatch h⟩, ?_⟩
  rw [cov_nil]
  exact ⟨Ext.refl e, ⟨rfl, fun i d h => by simp at h⟩, fun i ds h => by simp at h, fun i j a b p h => by simp at h⟩
theorem SG.bare (s : SG K S0 H0 ρ [] S H σ) : Stt K S0 H0 ρ S H σ := by
  obtain ⟨fp, rg, st⟩ := s
  have o := rg.own
  cases o
  rwa [cov_nil] at st
theorem SG.bareG {g : Gs} (s : SG K S0 H0 ρ g S H σ) : Stt K S0 H0 ρ S H σ := SG.bare (SG.forget (g := []) (g' := g) s)
theorem ev_callG {Rel : List D → Gs → Rs → Gs → Prop} (ha : EvA K tA ρ ds) (hr : Rel ds [] (.d d) []) : EvD K (tCall (spG K Rel) [] E tA) ρ d := fun S H σ e v Q q =>
  ha S H σ e v _ fun vs S1 H1 x1 r1 => ⟨S1, H1, ds, [], .d d, [], SG.none x1.sub, by rw [List.append_nil]; exact r1, hr, fun v S2 H2 _ z => q v S2 H2 (x1.trans (SG.bare z.1).ext) z.2⟩
theorem evF_callG {Rel : List D → Gs → Rs → Gs → Prop} (ha : EvA K tA ρ ds) (hr : Rel ds [] (.o es) []) : EvF K (tCall (spG K Rel) [] E tA) ρ es := fun S H σ e v Q q =>
  ha S H σ e v _ fun vs S1 H1 x1 r1 => ⟨S1, H1, ds, [], .o es, [], SG.none x1.sub, by rw [List.append_nil]; exact r1, hr, fun v S2 H2 _ z => by
    have z : SG K S1 H1 [.o es] [] S2 H2 [some v] := z
    have st := SG.bare z
    obtain ⟨p, ws, h1, h2, h3, h4, h5⟩ := st.own 0 es rfl
    have e : v = .ref p := Option.some.inj (Option.some.inj h1)
    subst e
    exact q p ws S2 H2 (x1.trans st.ext) (Evl.fresh_back x1.h h2) h3 h4 h5⟩
def FM.says (d : D) : FM := { nx := fun _ _ => d = .non, rt := fun r _ => r = .d d }
/-- a def that tells data, walked with a region of its own -/
theorem TM.finD {Rel : List D → D → Prop} {vs : List V} {H : Hp} {Q : VK} {E : XK} (h : spD K Rel vs H Q E) (k : ∀ ds d, Rel ds d → TM K t (startR N.length ds) [] (.says d)) : t { nx := fun _ H' => Q .non H', rt := Q } (L2.start N vs) H := by
  obtain ⟨S, ds, d, e, r, rel, q⟩ := h
  refine k ds d rel S H S H _ _ ((SG.none e).start r) ⟨fun ρ x S' H' σ n e' s => ?_, fun _ _ _ _ _ z => z.elim, fun _ _ _ _ _ z => z.elim, fun r' x v ρ S' H' σ n s => ?_⟩
  · have n : d = .non := n
    subst n
    exact q .non S' H' s.bareG.ext .non
  · have n : r' = .d d := n
    subst n
    exact q v S' H' s.1.bareG.ext s.2
end
end Pl
namespace Pl
theorem sortN_len (ks : List Nat) : (sortN ks).length = ks.length := (sortN_perm ks).length_eq
theorem kI_len (ks : List Nat) : (kI ks).length = ks.length := by unfold kI; rw [List.length_map]
theorem rise_of {l : List Nat} (h : l.Pairwise (· ≤ ·)) (nd : l.Nodup) : l.Pairwise (· < ·) := by
  have : l.Pairwise fun a b => a ≤ b ∧ a ≠ b := h.and nd
  exact this.imp fun h => by omega
theorem sortN_lt {ks : List Nat} (nd : ks.Nodup) : (sortN ks).Pairwise (· < ·) := rise_of (sortN_rise ks) ((sortN_perm ks).nodup_iff.mpr nd)
theorem kI_lt {ks : List Nat} (h : ks.Pairwise (· < ·)) : (kI ks).Pairwise (· < ·) := by
  unfold kI
  rw [List.pairwise_map]
  exact h.imp fun h => by omega
theorem isI_kI (m : List Nat) : isI (kI m) = Fr.inL m := by
  funext x
  unfold isI Fr.inL
  exact decide_eq_decide.mpr kI_mem
theorem inL_perm {l m : List Nat} (h : l.Perm m) : Fr.inL l = Fr.inL m := by
  funext x
  unfold Fr.inL
  exact decide_eq_decide.mpr h.mem_iff
theorem crowd_told {n : Nat} {nb : List Fr.Bar} (ok : Fr.Ok n nb) (hn : n ≤ 16) {ks : List Nat} (h : crowdL (List.replicate n []) nb = some ks) :
    (∀ x ∈ kI (sortN ks), 0 ≤ x ∧ x ≤ (n : Int) - 1) ∧ (kI (sortN ks)).Pairwise (· < ·) ∧ (kI (sortN ks)).length < 64 ∧ 2 ≤ (kI (sortN ks)).length ∧ 2 * (kI (sortN ks)).length < insideL (nb.map bI) (kI (sortN ks)) + 3 := by
  obtain ⟨nd, low, h2, h3⟩ := (Fr.crowd_spec ok).2 ks h
  have sm := Fr.small_len nd low
  rw [kI_len, sortN_len, inside_ins, isI_kI, inL_perm (sortN_perm ks)]
  refine ⟨fun x hx => ?_, kI_lt (sortN_lt nd), by omega, h2, h3⟩
  obtain ⟨k, hk, rfl⟩ := List.mem_map.mp hx
  have := low k ((sortN_perm ks).mem_iff.mp hk)
  omega
/-- bars as numbers -/
def unB (b : Int × Int) : Fr.Bar := (b.1.toNat, b.2.toNat)
theorem unB_bI {bs : List (Int × Int)} (h : ∀ b ∈ bs, 0 ≤ b.1 ∧ 0 ≤ b.2) : (bs.map unB).map bI = bs := by
  rw [List.map_map]
  refine (List.map_congr_left fun b hb => ?_).trans (List.map_id _)
  obtain ⟨h1, h2⟩ := h b hb
  show ((b.1.toNat : Int), (b.2.toNat : Int)) = b
  exact Prod.ext (Int.toNat_of_nonneg h1) (Int.toNat_of_nonneg h2)
end Pl

/-! The choice: going through bars, one taken where all stay slim; and by the room of all sets. -/
namespace Fr
open Classical in
noncomputable def pickN (n : Nat) : List Bar → List Bar → Nat → List Nat
  | _, [], _ => []
  | kb, b :: r, i => if Slim n (kb ++ [b]) then i :: pickN n (kb ++ [b]) r (i + 1) else pickN n kb r (i + 1)
open Classical in
noncomputable def pickB (n : Nat) : List Bar → List Bar → List Bar
  | _, [] => []
  | kb, b :: r => if Slim n (kb ++ [b]) then b :: pickB n (kb ++ [b]) r else pickB n kb r
theorem pickN_yes {n : Nat} {kb r : List Bar} {b : Bar} {i : Nat} (h : Slim n (kb ++ [b])) : pickN n kb (b :: r) i = i :: pickN n (kb ++ [b]) r (i + 1) := by rw [pickN, if_pos h]
theorem pickN_no {n : Nat} {kb r : List Bar} {b : Bar} {i : Nat} (h : ¬ Slim n (kb ++ [b])) : pickN n kb (b :: r) i = pickN n kb r (i + 1) := by rw [pickN, if_neg h]
theorem pickB_yes {n : Nat} {kb r : List Bar} {b : Bar} (h : Slim n (kb ++ [b])) : pickB n kb (b :: r) = b :: pickB n (kb ++ [b]) r := by rw [pickB, if_pos h]
theorem pickB_no {n : Nat} {kb r : List Bar} {b : Bar} (h : ¬ Slim n (kb ++ [b])) : pickB n kb (b :: r) = pickB n kb r := by rw [pickB, if_neg h]
theorem pickN_app {n : Nat} : ∀ (r s kb : List Bar) (i : Nat), pickN n kb (r ++ s) i = pickN n kb r i ++ pickN n (kb ++ pickB n kb r) s (i + r.length)
  | [], s, kb, i => by rw [pickB, List.append_nil]; rfl
  | b :: r, s, kb, i => by
    have e : i + (b :: r).length = i + 1 + r.length := by simp; omega
    by_cases h : Slim n (kb ++ [b])
    · rw [List.cons_append, pickN_yes h, pickN_yes h, pickB_yes h, pickN_app r s, e, List.append_assoc]
      rfl
    · rw [List.cons_append, pickN_no h, pickN_no h, pickB_no h, pickN_app r s, e]
theorem pickB_app {n : Nat} : ∀ (r s kb : List Bar), pickB n kb (r ++ s) = pickB n kb r ++ pickB n (kb ++ pickB n kb r) s
  | [], s, kb => by rw [pickB, List.append_nil]; rfl
  | b :: r, s, kb => by
    by_cases h : Slim n (kb ++ [b])
    · rw [List.cons_append, pickB_yes h, pickB_yes h, pickB_app r s, List.append_assoc]
      rfl
    · rw [List.cons_append, pickB_no h, pickB_no h, pickB_app r s]
theorem pickB_len {n : Nat} : ∀ (r kb : List Bar) (i : Nat), (pickN n kb r i).length = (pickB n kb r).length
  | [], kb, i => by rw [pickN, pickB]; rfl
  | b :: r, kb, i => by
    by_cases h : Slim n (kb ++ [b])
    · rw [pickN_yes h, pickB_yes h, List.length_cons, List.length_cons, pickB_len r]
    · rw [pickN_no h, pickB_no h, pickB_len r]
theorem pickB_slim {n : Nat} : ∀ (r kb : List Bar), Slim n kb → Slim n (kb ++ pickB n kb r)
  | [], kb, sl => by rw [pickB, List.append_nil]; exact sl
  | b :: r, kb, sl => by
    by_cases h : Slim n (kb ++ [b])
    · rw [pickB_yes h]
      have := pickB_slim r _ h
      rwa [List.append_assoc] at this
    · rw [pickB_no h]
      exact pickB_slim r kb sl
theorem pickB_sub {n : Nat} : ∀ (r kb : List Bar), (pickB n kb r).Sublist r
  | [], kb => by rw [pickB]; exact .refl _
  | b :: r, kb => by
    by_cases h : Slim n (kb ++ [b])
    · rw [pickB_yes h]
      exact (pickB_sub r _).cons₂ b
    · rw [pickB_no h]
      exact (pickB_sub r kb).cons b
theorem pickN_rise {n : Nat} : ∀ (r kb : List Bar) (i : Nat), (∀ k ∈ pickN n kb r i, i ≤ k ∧ k < i + r.length) ∧ (pickN n kb r i).Pairwise (· < ·)
  | [], kb, i => by
    rw [pickN]
    exact ⟨fun k h => (nomatch h), List.Pairwise.nil⟩
  | b :: r, kb, i => by
    by_cases h : Slim n (kb ++ [b])
    · rw [pickN_yes h]
      obtain ⟨h1, h2⟩ := pickN_rise r (kb ++ [b]) (i + 1)
      refine ⟨fun k hk => ?_, .cons (fun k hk => by have := h1 k hk; omega) h2⟩
      rw [List.length_cons]
      rcases List.mem_cons.mp hk with rfl | hk
      · omega
      · have := h1 k hk
        omega
    · rw [pickN_no h]
      obtain ⟨h1, h2⟩ := pickN_rise r kb (i + 1)
      refine ⟨fun k hk => ?_, h2⟩
      rw [List.length_cons]
      have := h1 k hk
      omega
/-- lean ones are all taken -/
theorem pickN_all {n : Nat} : ∀ (r kb : List Bar) (i : Nat), Slim n (kb ++ r) → pickN n kb r i = List.range' i r.length ∧ pickB n kb r = r
  | [], kb, i, _ => by rw [pickN, pickB]; exact ⟨rfl, rfl⟩
  | b :: r, kb, i, sl => by
    have e : kb ++ b :: r = (kb ++ [b]) ++ r := by simp
    rw [e] at sl
    have h : Slim n (kb ++ [b]) := sl.sub (List.sublist_append_left _ _)
    obtain ⟨h1, h2⟩ := pickN_all r (kb ++ [b]) (i + 1) sl
    rw [pickN_yes h, pickB_yes h, h1, h2]
    exact ⟨rfl, rfl⟩
/-- no room is left -/
theorem pickN_full {n : Nat} (h2 : 2 ≤ n) {kb : List Bar} (okk : Ok n kb) (hl : kb.length + 3 = 2 * n) : ∀ (r : List Bar) (i : Nat), Ok n r → pickN n kb r i = [] ∧ pickB n kb r = []
  | [], i, _ => by rw [pickN, pickB]; exact ⟨rfl, rfl⟩
  | b :: r, i, ok => by
    have h : ¬ Slim n (kb ++ [b]) := not_slim_all (okk.app fun c hc => by rw [List.mem_singleton.mp hc]; exact ok b List.mem_cons_self) h2 (by rw [List.length_append, List.length_singleton]; omega)
    rw [pickN_no h, pickB_no h]
    exact pickN_full h2 okk hl r (i + 1) fun c hc => ok c (List.mem_cons_of_mem _ hc)
/-- the joints' way of going through the bars takes the same ones -/
theorem lay_slim {n : Nat} {cs : Cs} {kb : List Bar} {b : Bar} (ft : Fits n cs kb) (okk : Ok n kb) (sl : Slim n kb) (o : b.1 < n ∧ b.2 < n ∧ b.1 ≠ b.2) : (lay cs b.1 b.2).2 = none ↔ Slim n (kb ++ [b]) := by
  obtain ⟨o1, o2, o3⟩ := o
  constructor
  · intro h
    exact (lay_yes ft okk sl o1 o2 o3 (Prod.ext rfl h : lay cs b.1 b.2 = ((lay cs b.1 b.2).1, none))).2
  · intro h
    cases hy : (lay cs b.1 b.2).2 with
    | none => rfl
    | some ks =>
      obtain ⟨_, nd, low, m1, m2, t1, t2⟩ := lay_no ft sl o1 o2 o3 (Prod.ext rfl hy : lay cs b.1 b.2 = ((lay cs b.1 b.2).1, some ks))
      have := h (inL ks) t1
      have i1 := ins_append kb b (inL ks)
      have e1 : inL ks b.1 = true := decide_eq_true m1
      have e2 : inL ks b.2 = true := decide_eq_true m2
      rw [e1, e2, Bool.and_self, if_pos rfl] at i1
      omega
theorem chosen_go {n : Nat} : ∀ (r kb : List Bar) (cs : Cs) (i : Nat), Ok n r → Ok n kb → Fits n cs kb → Slim n kb → Pl.chosenL cs r i = pickN n kb r i ∧ keptL cs r = pickB n kb r
  | [], kb, cs, i, _, _, _, _ => by rw [pickN, pickB]; exact ⟨rfl, rfl⟩
  | b :: r, kb, cs, i, ok, okk, ft, sl => by
    have o := ok b List.mem_cons_self
    have okr : Ok n r := fun c hc => ok c (List.mem_cons_of_mem _ hc)
    have hs := lay_slim ft okk sl o
    unfold Pl.chosenL keptL
    cases hy : (lay cs b.1 b.2).2 with
    | none =>
      have h := hs.mp hy
      obtain ⟨f1, f2⟩ := lay_yes ft okk sl o.1 o.2.1 o.2.2 (Prod.ext rfl hy : lay cs b.1 b.2 = ((lay cs b.1 b.2).1, none))
      obtain ⟨g1, g2⟩ := chosen_go r (kb ++ [b]) _ (i + 1) okr (okk.app fun c hc => by rw [List.mem_singleton.mp hc]; exact o) f1 f2
      rw [pickN_yes h, pickB_yes h, ← g1, ← g2]
      exact ⟨rfl, if_pos rfl⟩
    | some ks =>
      have h : ¬ Slim n (kb ++ [b]) := fun z => by rw [hs.mpr z] at hy; cases hy
      obtain ⟨g1, g2⟩ := chosen_go r kb _ (i + 1) okr okk (lay_fits_no ft o.1 o.2.1 hy) sl
      rw [pickN_no h, pickB_no h, ← g1, ← g2]
      exact ⟨rfl, if_neg (by simp)⟩
theorem chosen_spec {n : Nat} {nb : List Bar} (ok : Ok n nb) : Pl.chosenL (List.replicate n []) nb 0 = pickN n [] nb 0 ∧ keptL (List.replicate n []) nb = pickB n [] nb :=
  chosen_go nb [] _ 0 ok (fun _ h => nomatch h) (Pl.fits_bare n) (Pl.slim_nil n)
end Fr
namespace Pl
open PySem PySem.Spec PyProof.Rows L2
open Evl (Ex)
def nearL (L : List (List Int)) (b : Int × Int) : List Int := pick L.length fun k => decide (b.1 ∈ L.getD k []) && decide (b.2 ∈ L.getD k [])
def roomOf (kb : List Fr.Bar) (l : List Int) : Int := 2 * (l.length : Int) - 3 - (insideL (kb.map bI) l : Int)
def roomL (L : List (List Int)) (kb : List Fr.Bar) : List Int := L.map (roomOf kb)
theorem roomL_get (L : List (List Int)) (kb : List Fr.Bar) {k : Nat} (h : k < L.length) : (roomL L kb).getD k 0 = roomOf kb (L.getD k []) := by
  unfold roomL
  simp [List.getD, h]
theorem near_mem {L : List (List Int)} {b : Int × Int} {k : Int} : k ∈ nearL L b ↔ ∃ i : Nat, i < L.length ∧ (b.1 ∈ L.getD i [] ∧ b.2 ∈ L.getD i []) ∧ (i : Int) = k := by
  unfold nearL
  rw [pick_mem]
  constructor
  · rintro ⟨i, h1, h2, h3⟩
    rw [Bool.and_eq_true, decide_eq_true_eq, decide_eq_true_eq] at h2
    exact ⟨i, h1, h2, h3⟩
  · rintro ⟨i, h1, h2, h3⟩
    exact ⟨i, h1, by rw [Bool.and_eq_true, decide_eq_true_eq, decide_eq_true_eq]; exact h2, h3⟩
theorem inside_snoc (kb : List Fr.Bar) (b : Fr.Bar) (l : List Int) : insideL ((kb ++ [b]).map bI) l = insideL (kb.map bI) l + if (b.1 : Int) ∈ l ∧ (b.2 : Int) ∈ l then 1 else 0 := by
  rw [inside_ins, inside_ins, Fr.ins_append]
  by_cases h : (b.1 : Int) ∈ l ∧ (b.2 : Int) ∈ l
  · rw [if_pos h, if_pos (by unfold isI; rw [decide_eq_true h.1, decide_eq_true h.2]; rfl)]
  · rw [if_neg h, if_neg]
    intro z
    unfold isI at z
    rw [Bool.and_eq_true, decide_eq_true_eq, decide_eq_true_eq] at z
    exact h z
theorem whole_in {n : Nat} (h : 2 ≤ n) : kI (List.range n) ∈ setsL (kI (List.range n)) :=
  List.mem_filter.mpr ⟨(setsAll_sub _ _).mpr (.refl _), by rw [decide_eq_true_eq, kI_len, List.length_range]; omega⟩
theorem near_ne {n : Nat} {b : Fr.Bar} (h1 : b.1 < n) (h2 : b.2 < n) (h : 2 ≤ n) : 0 < (nearL (setsL (kI (List.range n))) (bI b)).length := by
  obtain ⟨i, hi, e⟩ := List.mem_iff_getElem.mp (whole_in h)
  refine List.length_pos_of_mem (a := (i : Int)) (near_mem.mpr ⟨i, hi, ?_, rfl⟩)
  have : (setsL (kI (List.range n))).getD i [] = kI (List.range n) := by simp [List.getD, hi, e]
  rw [this]
  exact ⟨kI_mem.mpr (List.mem_range.mpr h1), kI_mem.mpr (List.mem_range.mpr h2)⟩
theorem room_slim {n : Nat} {kb : List Fr.Bar} {b : Fr.Bar} (okk : Fr.Ok n kb) (sl : Fr.Slim n kb) (o : b.1 < n ∧ b.2 < n ∧ b.1 ≠ b.2) :
    (∀ k ∈ nearL (setsL (kI (List.range n))) (bI b), 0 < (roomL (setsL (kI (List.range n))) kb).getD k.toNat 0) ↔ Fr.Slim n (kb ++ [b]) := by
  have ok2 : Fr.Ok n (kb ++ [b]) := okk.app fun c hc => by rw [List.mem_singleton.mp hc]; exact o
  rw [← sets_slim ok2]
  have sl := (sets_slim okk).mpr sl
  constructor
  · intro h l hl
    obtain ⟨i, hi, e⟩ := List.mem_iff_getElem.mp hl
    have eg : (setsL (kI (List.range n))).getD i [] = l := by simp [List.getD, hi, e]
    rw [inside_snoc]
    by_cases q : (b.1 : Int) ∈ l ∧ (b.2 : Int) ∈ l
    · have z := h (i : Int) (near_mem.mpr ⟨i, hi, by rw [eg]; exact q, rfl⟩)
      rw [Int.toNat_natCast, roomL_get _ _ hi, eg] at z
      unfold roomOf at z
      rw [if_pos q]
      omega
    · rw [if_neg q]
      exact sl l hl
  · intro h k hk
    obtain ⟨i, hi, q, rfl⟩ := near_mem.mp hk
    rw [Int.toNat_natCast, roomL_get _ _ hi]
    have hm : (setsL (kI (List.range n))).getD i [] ∈ setsL (kI (List.range n)) := Fr.getD_mem hi
    have z := h _ hm
    have q : (b.1 : Int) ∈ (setsL (kI (List.range n))).getD i [] ∧ (b.2 : Int) ∈ (setsL (kI (List.range n))).getD i [] := q
    rw [inside_snoc, if_pos q] at z
    unfold roomOf
    omega
theorem room_next {L : List (List Int)} {kb : List Fr.Bar} {b : Fr.Bar} {R : List Int} (hl : R.length = L.length) (h : ∀ k : Nat, k < L.length → R.getD k 0 = (roomL L kb).getD k 0 - if (k : Int) ∈ nearL L (bI b) then 1 else 0) : R = roomL L (kb ++ [b]) := by
  have e2 : (roomL L (kb ++ [b])).length = L.length := by unfold roomL; rw [List.length_map]
  refine List.ext_getElem (by rw [hl, e2]) fun k h1 h2 => ?_
  have hk : k < L.length := by omega
  have a := h k hk
  have a2 := roomL_get L (kb ++ [b]) hk
  rw [roomL_get _ _ hk] at a
  have g1 : R.getD k 0 = R[k] := by simp [List.getD, h1]
  have g2 : (roomL L (kb ++ [b])).getD k 0 = (roomL L (kb ++ [b]))[k] := by simp [List.getD, h2]
  rw [← g1, ← g2, a, a2]
  unfold roomOf
  rw [inside_snoc]
  by_cases q : (b.1 : Int) ∈ L.getD k [] ∧ (b.2 : Int) ∈ L.getD k []
  · have q' : (bI b).1 ∈ L.getD k [] ∧ (bI b).2 ∈ L.getD k [] := q
    rw [if_pos (near_mem.mpr ⟨k, hk, q, rfl⟩), if_pos q]
    omega
  · rw [if_neg (fun z => q (by
      obtain ⟨i, _, q2, e⟩ := near_mem.mp z
      have : i = k := by omega
      rw [← this]
      exact q2)), if_neg q]
    omega
theorem ok_min {X : Cx} {K : PySem.W.Frag} (h : X.K = K) (hc : X.calm = true) : CallR X (.builtin "min") (rMin K) := by subst h; exact cr_min hc
theorem rc_min {K : PySem.W.Frag} {ns : List Int} {m : Int} (h1 : m ∈ ns) (h2 : ∀ y ∈ ns, m ≤ y) : RC K (rMin K) [.lst (ns.map D.int)] (.int m) := fun S H vs e r Q q => by
  cases r with
  | cons h t =>
    cases t
    cases h with
    | lst ha rl =>
      have z := rl.ints
      subst z
      refine ⟨_, ns, rfl, Evl.sq_of (e _ _ ha), List.length_pos_of_mem h1, fun k k1 k2 => ?_⟩
      have a := h2 k k1
      have b := k2 m h1
      have : k = m := by omega
      subst this
      exact q _ S H (Ext.refl e) (.int _)
theorem least_of : ∀ {ns : List Int}, 0 < ns.length → ∃ m ∈ ns, ∀ y ∈ ns, m ≤ y
  | [x], _ => ⟨x, List.mem_cons_self, fun y hy => by rw [List.mem_singleton.mp hy]; exact Int.le_refl _⟩
  | x :: y :: ns, _ => by
    obtain ⟨m, h1, h2⟩ := least_of (ns := y :: ns) (by simp)
    by_cases h : x ≤ m
    · exact ⟨x, List.mem_cons_self, fun z hz => by
        rcases List.mem_cons.mp hz with rfl | hz
        · exact Int.le_refl _
        · have := h2 z hz; omega⟩
    · exact ⟨m, List.mem_cons_of_mem _ h1, fun z hz => by
        rcases List.mem_cons.mp hz with rfl | hz
        · omega
        · exact h2 z hz⟩
end Pl

/-! What lean bars hold: parts, and that no lean ones are more; the worth. -/
namespace Fr
/-- two joints lie in a set without room -/
def Spn (n : Nat) (K : List Bar) (a b : Nat) : Prop := ∃ S : JS, Tight n K S ∧ S a = true ∧ S b = true
theorem Spn.symm {n : Nat} {K : List Bar} {a b : Nat} (h : Spn n K a b) : Spn n K b a := by
  obtain ⟨S, t, h1, h2⟩ := h
  exact ⟨S, t, h2, h1⟩
theorem Tight.mono {n : Nat} {K L : List Bar} {S : JS} (t : Tight n K S) (le : ins K S ≤ ins L S) (sl : Slim n L) : Tight n L S := by
  obtain ⟨h1, h2⟩ := t
  have := sl S h1
  exact ⟨h1, by omega⟩
theorem Spn.mono {n : Nat} {K L : List Bar} {a b : Nat} (h : Spn n K a b) (e : K.Sublist L) (sl : Slim n L) : Spn n L a b := by
  obtain ⟨S, t, h1, h2⟩ := h
  exact ⟨S, t.mono (ins_sub e S) sl, h1, h2⟩
theorem slim_snoc {n : Nat} {K : List Bar} {b : Bar} (sl : Slim n K) (h1 : b.1 < n) (h2 : b.2 < n) (ne : b.1 ≠ b.2) : Slim n (K ++ [b]) ↔ ¬ Spn n K b.1 b.2 := by
  constructor
  · rintro h ⟨S, ⟨t1, t2⟩, s1, s2⟩
    have i := ins_append K b S
    rw [s1, s2, Bool.and_self, if_pos rfl] at i
    have := h S t1
    omega
  · intro h S hS
    have i := ins_append K b S
    have s := sl S hS
    by_cases e : (S b.1 && S b.2) = true
    · rw [if_pos e] at i
      rw [Bool.and_eq_true] at e
      by_cases z : ins K S + 3 = 2 * card n S
      · exact (h ⟨S, ⟨hS, z⟩, e.1, e.2⟩).elim
      · omega
    · rw [if_neg e] at i
      omega
theorem ins_pos {bs : List Bar} {b : Bar} {S : JS} (hm : b ∈ bs) (h1 : S b.1 = true) (h2 : S b.2 = true) : 0 < ins bs S := List.countP_pos_iff.mpr ⟨b, hm, by rw [h1, h2]; rfl⟩
theorem bar_spn {n : Nat} {K : List Bar} {b : Bar} (ok : Ok n K) (sl : Slim n K) (hm : b ∈ K) : Spn n K b.1 b.2 := by
  obtain ⟨o1, o2, o3⟩ := ok b hm
  have c := card_two o1 o2 o3
  have s := sl (two b.1 b.2) (by omega)
  have p := ins_pos (S := two b.1 b.2) hm (by simp [two]) (by simp [two])
  exact ⟨two b.1 b.2, ⟨by omega, by omega⟩, by simp [two], by simp [two]⟩
/-- three joints that are held two by two are held by one set -/
theorem spn_three {n : Nat} {K : List Bar} (ok : Ok n K) (sl : Slim n K) {a b c : Nat} (ha : a < n) (hb : b < n) (hc : c < n) (nab : a ≠ b) (nac : a ≠ c) (nbc : b ≠ c)
    (h1 : Spn n K a b) (h2 : Spn n K a c) (h3 : Spn n K b c) : ∃ T, Tight n K T ∧ T a = true ∧ T b = true ∧ T c = true := by
  obtain ⟨S, tS, sa, sb⟩ := h1
  obtain ⟨T, tT, ta, tc⟩ := h2
  obtain ⟨U, tU, ub, uc⟩ := h3
  have p1 : 0 < card n (cap S T) := card_pos ha (by simp [cap, sa, ta])
  have p2 : 0 < card n (cap S U) := card_pos hb (by simp [cap, sb, ub])
  have p3 : 0 < card n (cap T U) := card_pos hc (by simp [cap, tc, uc])
  by_cases q1 : 2 ≤ card n (cap S T)
  · exact ⟨cup S T, (tS.cup sl tT q1).1, by simp [cup, sa], by simp [cup, sb], by simp [cup, tc]⟩
  by_cases q2 : 2 ≤ card n (cap S U)
  · exact ⟨cup S U, (tS.cup sl tU q2).1, by simp [cup, sa], by simp [cup, sb], by simp [cup, uc]⟩
  by_cases q3 : 2 ≤ card n (cap T U)
  · exact ⟨cup T U, (tT.cup sl tU q3).1, by simp [cup, ta], by simp [cup, ub], by simp [cup, tc]⟩
  have cc := card_cup_cap n (cap S U) (cap T U)
  have e1 : card n (cup (cap S U) (cap T U)) = card n (cap (cup S T) U) := card_same fun x _ => by
    show (S x && U x || T x && U x) = ((S x || T x) && U x)
    cases S x <;> cases T x <;> cases U x <;> rfl
  have e2 : card n (cap (cap S U) (cap T U)) = 0 := by
    cases z : card n (cap (cap S U) (cap T U)) with
    | zero => rfl
    | succ m =>
      have : 0 < card n (cap (cap S U) (cap T U)) := by omega
      obtain ⟨x, hx, h⟩ := List.countP_pos_iff.mp this
      have hx := List.mem_range.mp hx
      have h : (S x && U x && (T x && U x)) = true := h
      simp only [Bool.and_eq_true] at h
      obtain ⟨⟨k1, k2⟩, k3, _⟩ := h
      have : x = a := le_one_of (S := cap S T) (n := n) (by omega) hx ha (by simp [cap, k1, k3]) (by simp [cap, sa, ta])
      have : x = b := le_one_of (S := cap S U) (n := n) (by omega) hx hb (by simp [cap, k1, k2]) (by simp [cap, sb, ub])
      omega
  exact ⟨cup (cup S T) U, Tight.three ok sl tS tT tU (by omega) (by omega) (by omega) (by omega), by simp [cup, sa], by simp [cup, sb], by simp [cup, tc]⟩
open Classical in
/-- the part of two joints that hold each other -/
noncomputable def part (n : Nat) (K : List Bar) (a b : Nat) : JS := fun c => decide (c = a ∨ c = b ∨ (Spn n K a c ∧ Spn n K b c))
open Classical in
theorem part_iff {n : Nat} {K : List Bar} {a b c : Nat} : part n K a b c = true ↔ (c = a ∨ c = b ∨ (Spn n K a c ∧ Spn n K b c)) := by unfold part; exact decide_eq_true_iff
section
variable {n : Nat} {K : List Bar} {a b : Nat}
theorem part_most (ok : Ok n K) (sl : Slim n K) (ha : a < n) (hb : b < n) (ne : a ≠ b) (h : Spn n K a b) : ∀ m, m ≤ n → ∃ U, Tight n K U ∧ U a = true ∧ U b = true ∧ ∀ c, c < m → (∃ T, Tight n K T ∧ T a = true ∧ T b = true ∧ T c = true) → U c = true
  | 0, _ => by
    obtain ⟨S, t, h1, h2⟩ := h
    exact ⟨S, t, h1, h2, fun c hc => absurd hc (Nat.not_lt_zero _)⟩
  | m + 1, hm => by
    obtain ⟨U, tU, ua, ub, uc⟩ := part_most ok sl ha hb ne h m (by omega)
    by_cases q : ∃ T, Tight n K T ∧ T a = true ∧ T b = true ∧ T m = true
    · obtain ⟨T, tT, ta, tb, tm⟩ := q
      refine ⟨cup U T, Tight.cup_of sl tU tT ha hb ne ua ub ta tb, by simp [cup, ua], by simp [cup, ub], fun c hc hT => ?_⟩
      by_cases e : c = m
      · subst e
        simp [cup, tm]
      · simp [cup, uc c (by omega) hT]
    · refine ⟨U, tU, ua, ub, fun c hc hT => ?_⟩
      by_cases e : c = m
      · subst e
        exact (q hT).elim
      · exact uc c (by omega) hT
theorem part_all (ok : Ok n K) (sl : Slim n K) (ha : a < n) (hb : b < n) (ne : a ≠ b) (h : Spn n K a b) :
    Tight n K (part n K a b) ∧ ∀ T, Tight n K T → T a = true → T b = true → ∀ x, x < n → T x = true → part n K a b x = true := by
  obtain ⟨U, tU, ua, ub, uc⟩ := part_most ok sl ha hb ne h n (Nat.le_refl n)
  have e : ∀ x, x < n → U x = part n K a b x := fun x hx => by
    cases q : part n K a b x with
    | true =>
      rcases part_iff.mp q with rfl | rfl | ⟨h1, h2⟩
      · exact ua
      · exact ub
      · by_cases x1 : x = a
        · rw [x1]; exact ua
        by_cases x2 : x = b
        · rw [x2]; exact ub
        exact uc x hx (spn_three ok sl ha hb hx ne (Ne.symm x1) (Ne.symm x2) h h1 h2)
    | false =>
      cases z : U x with
      | false => rfl
      | true =>
        have : part n K a b x = true := part_iff.mpr (.inr (.inr ⟨⟨U, tU, ua, z⟩, ⟨U, tU, ub, z⟩⟩))
        rw [q] at this
        cases this
  exact ⟨tU.same ok e, fun T tT ta tb x hx tx => by rw [← e x hx]; exact uc x hx ⟨T, tT, ta, tb, tx⟩⟩
theorem part_left : part n K a b a = true := part_iff.mpr (.inl rfl)
theorem part_right : part n K a b b = true := part_iff.mpr (.inr (.inl rfl))
/-- two of a part have that part -/
theorem part_same (ok : Ok n K) (sl : Slim n K) (ha : a < n) (hb : b < n) (ne : a ≠ b) (h : Spn n K a b) {x y : Nat} (hx : x < n) (hy : y < n) (nxy : x ≠ y) (px : part n K a b x = true) (py : part n K a b y = true) :
    Spn n K x y ∧ ∀ z, z < n → part n K a b z = part n K x y z := by
  obtain ⟨t1, m1⟩ := part_all ok sl ha hb ne h
  have hxy : Spn n K x y := ⟨_, t1, px, py⟩
  obtain ⟨t2, m2⟩ := part_all ok sl hx hy nxy hxy
  refine ⟨hxy, fun z hz => ?_⟩
  have i1 : part n K a b z = true → part n K x y z = true := fun q => m2 _ t1 px py z hz q
  have pa := m2 _ t1 px py a ha part_left
  have pb := m2 _ t1 px py b hb part_right
  have i2 : part n K x y z = true → part n K a b z = true := fun q => m1 _ t2 pa pb z hz q
  cases q : part n K x y z with
  | true => exact i2 q
  | false =>
    cases r : part n K a b z with
    | false => rfl
    | true => rw [i1 r] at q; cases q
end
theorem least_ex {p : Nat → Prop} : ∀ x, p x → ∃ m, p m ∧ ∀ y, y < m → ¬ p y := fun x => by
  induction x using Nat.strongRecOn with
  | ind x ih =>
    intro h
    by_cases q : ∃ y, y < x ∧ p y
    · obtain ⟨y, hy, py⟩ := q
      exact ih y hy py
    · exact ⟨x, h, fun y hy py => q ⟨y, hy, py⟩⟩
theorem least_two {n : Nat} {S : JS} (h : 2 ≤ card n S) : ∃ a b, a < b ∧ b < n ∧ S a = true ∧ S b = true ∧ ∀ c, c < n → S c = true → c = a ∨ b ≤ c := by
  obtain ⟨x, y, lxy, hy, sx, sy⟩ := exists_two h
  obtain ⟨a, pa, la⟩ := least_ex (p := fun c => S c = true) x sx
  have hax : a ≤ x := by
    by_cases q : a ≤ x
    · exact q
    · exact (la x (by omega) sx).elim
  obtain ⟨b, ⟨pb, hb⟩, lb⟩ := least_ex (p := fun c => S c = true ∧ a < c) y ⟨sy, by omega⟩
  have hby : b ≤ y := by
    by_cases q : b ≤ y
    · exact q
    · exact (lb y (by omega) ⟨sy, by omega⟩).elim
  refine ⟨a, b, hb, by omega, pa, pb, fun c hc sc => ?_⟩
  by_cases q : c = a
  · exact .inl q
  · right
    have : a < c := by
      by_cases r : c < a
      · exact (la c r sc).elim
      · omega
    by_cases r : b ≤ c
    · exact r
    · exact (lb c (by omega) ⟨sc, this⟩).elim
/-- the two least joints of a part -/
def Ld (n : Nat) (K : List Bar) (a b : Nat) : Prop := a < b ∧ b < n ∧ Spn n K a b ∧ ∀ c, c < n → part n K a b c = true → c = a ∨ b ≤ c
section
variable {n : Nat} {K : List Bar}
theorem lead_ex (ok : Ok n K) (sl : Slim n K) {x y : Nat} (hx : x < n) (hy : y < n) (ne : x ≠ y) (h : Spn n K x y) : ∃ a b, Ld n K a b ∧ part n K a b x = true ∧ part n K a b y = true := by
  obtain ⟨t, _⟩ := part_all ok sl hx hy ne h
  obtain ⟨a, b, lab, hb, pa, pb, hl⟩ := least_two t.1
  obtain ⟨hab, e⟩ := part_same ok sl hx hy ne h (by omega) hb (by omega) pa pb
  refine ⟨a, b, ⟨lab, hb, hab, fun c hc q => hl c hc (by rw [e c hc]; exact q)⟩, ?_, ?_⟩
  · rw [← e x hx]; exact part_left
  · rw [← e y hy]; exact part_right
theorem lead_uniq (ok : Ok n K) (sl : Slim n K) {a b a' b' x y : Nat} (h : Ld n K a b) (h' : Ld n K a' b') (hx : x < n) (hy : y < n) (ne : x ≠ y) (p1 : part n K a b x = true) (p2 : part n K a b y = true)
    (q1 : part n K a' b' x = true) (q2 : part n K a' b' y = true) : a = a' ∧ b = b' := by
  obtain ⟨l1, hb, s1, m1⟩ := h
  obtain ⟨l2, hb', s2, m2⟩ := h'
  obtain ⟨_, e1⟩ := part_same ok sl (show a < n by omega) hb (by omega) s1 hx hy ne p1 p2
  obtain ⟨_, e2⟩ := part_same ok sl (show a' < n by omega) hb' (by omega) s2 hx hy ne q1 q2
  have e : ∀ z, z < n → part n K a b z = part n K a' b' z := fun z hz => by rw [e1 z hz, e2 z hz]
  have z1 := m1 a' (by omega) (by rw [e a' (by omega)]; exact part_left)
  have z2 := m1 b' hb' (by rw [e b' hb']; exact part_right)
  have z3 := m2 a (by omega) (by rw [← e a (by omega)]; exact part_left)
  have z4 := m2 b hb (by rw [← e b hb]; exact part_right)
  omega
open Classical in
/-- the two least joints of each part, rising -/
noncomputable def ldrs (n : Nat) (K : List Bar) : List Bar := (List.range n).flatMap fun a => ((List.range n).filter fun b => decide (Ld n K a b)).map fun b => (a, b)
open Classical in
theorem ldrs_mem {p : Bar} : p ∈ ldrs n K ↔ Ld n K p.1 p.2 := by
  unfold ldrs
  rw [List.mem_flatMap]
  constructor
  · rintro ⟨a, _, h⟩
    obtain ⟨b, hb, rfl⟩ := List.mem_map.mp h
    exact of_decide_eq_true (List.mem_filter.mp hb).2
  · intro h
    obtain ⟨h1, h2, _⟩ := id h
    exact ⟨p.1, List.mem_range.mpr (by omega), List.mem_map.mpr ⟨p.2, List.mem_filter.mpr ⟨List.mem_range.mpr h2, decide_eq_true h⟩, rfl⟩⟩
def Lex (x y : Bar) : Prop := x.1 < y.1 ∨ (x.1 = y.1 ∧ x.2 < y.2)
theorem ldrs_lex : (ldrs n K).Pairwise Lex := by
  unfold ldrs
  rw [List.pairwise_flatMap]
  refine ⟨fun a _ => ?_, List.pairwise_lt_range.imp fun {a b} h x hx y hy => ?_⟩
  · rw [List.pairwise_map]
    exact (List.pairwise_lt_range.filter _).imp fun h => .inr ⟨rfl, h⟩
  · obtain ⟨u, _, rfl⟩ := List.mem_map.mp hx
    obtain ⟨v, _, rfl⟩ := List.mem_map.mp hy
    exact .inl h
theorem ldrs_nodup : (ldrs n K).Nodup := ldrs_lex.imp fun {x y} h e => by
  subst e
  rcases h with h | h <;> omega
end
theorem count_one {α : Type} {p : α → Bool} : ∀ {l : List α} {x : α}, l.Nodup → x ∈ l → p x = true → (∀ y ∈ l, p y = true → y = x) → l.countP p = 1
  | y :: l, x, nd, hx, px, h => by
    obtain ⟨n1, n2⟩ := List.nodup_cons.mp nd
    rcases List.mem_cons.mp hx with rfl | hx
    · rw [List.countP_cons, if_pos px]
      have : l.countP p = 0 := List.countP_eq_zero.mpr fun y hy e => by
        have := h y (List.mem_cons_of_mem _ hy) e
        subst this
        exact n1 hy
      omega
    · have hy : ¬ p y = true := fun e => by
        have := h y List.mem_cons_self e
        subst this
        exact n1 hx
      rw [List.countP_cons, if_neg hy, count_one n2 hx px fun z hz => h z (List.mem_cons_of_mem _ hz)]
theorem sum_add {α : Type} (f g : α → Nat) : ∀ l : List α, (l.map fun x => f x + g x).sum = (l.map f).sum + (l.map g).sum
  | [] => rfl
  | x :: l => by
    simp only [List.map_cons, List.sum_cons]
    rw [sum_add f g l]
    omega
theorem sum_one {α : Type} {f : α → Nat} : ∀ {l : List α}, (∀ x ∈ l, f x = 1) → (l.map f).sum = l.length
  | [], _ => rfl
  | x :: l, h => by
    simp only [List.map_cons, List.sum_cons, List.length_cons]
    rw [sum_one fun y hy => h y (List.mem_cons_of_mem _ hy), h x List.mem_cons_self]
    omega
theorem sum_le {α : Type} {f g : α → Nat} : ∀ {l : List α}, (∀ x ∈ l, f x ≤ g x) → (l.map f).sum ≤ (l.map g).sum
  | [], _ => Nat.le_refl _
  | x :: l, h => by
    simp only [List.map_cons, List.sum_cons]
    have := sum_le fun y hy => h y (List.mem_cons_of_mem _ hy)
    have := h x List.mem_cons_self
    omega
theorem sum_count {β : Type} (q : β → Bool) : ∀ J : List β, (J.map fun x => (q x).toNat).sum = J.countP q
  | [] => rfl
  | x :: J => by
    simp only [List.map_cons, List.sum_cons, List.countP_cons]
    rw [sum_count q J]
    cases q x <;> simp <;> omega
theorem sum_swap {α β : Type} (q : α → β → Bool) (J : List β) : ∀ l : List α, (l.map fun p => J.countP (q p)).sum = (J.map fun x => l.countP fun p => q p x).sum
  | [] => by
    have : (J.map fun x => ([] : List α).countP fun p => q p x).sum = 0 := by
      induction J with
      | nil => rfl
      | cons y J ih => simp only [List.map_cons, List.sum_cons, ih]; rfl
    rw [this]
    rfl
  | p :: l => by
    simp only [List.map_cons, List.sum_cons]
    rw [sum_swap q J l, ← sum_count (q p) J, ← sum_add]
    congr 1
    refine List.map_congr_left fun x _ => ?_
    rw [List.countP_cons]
    cases q p x <;> simp <;> omega
section
variable {n : Nat} {K J : List Bar}
theorem ins_ldrs (ok : Ok n K) (sl : Slim n K) (okJ : Ok n J) (h : ∀ x ∈ J, Spn n K x.1 x.2) : ((ldrs n K).map fun p => ins J (part n K p.1 p.2)).sum = J.length := by
  have e := sum_swap (fun (p : Bar) (x : Bar) => part n K p.1 p.2 x.1 && part n K p.1 p.2 x.2) J (ldrs n K)
  refine Eq.trans e (sum_one fun x hx => ?_)
  obtain ⟨o1, o2, o3⟩ := okJ x hx
  obtain ⟨a, b, hl, p1, p2⟩ := lead_ex ok sl o1 o2 o3 (h x hx)
  refine count_one (x := (a, b)) ldrs_nodup (ldrs_mem.mpr hl) (by rw [p1, p2]; rfl) fun y hy e => ?_
  rw [Bool.and_eq_true] at e
  obtain ⟨z1, z2⟩ := lead_uniq ok sl (ldrs_mem.mp hy) hl o1 o2 o3 e.1 e.2 p1 p2
  exact Prod.ext z1 z2
/-- twice the joints less three, added up over the parts -/
theorem parts_sum (ok : Ok n K) (sl : Slim n K) : ((ldrs n K).map fun p => 2 * card n (part n K p.1 p.2) - 3).sum = K.length := by
  rw [← ins_ldrs ok sl ok fun x hx => bar_spn ok sl hx]
  congr 1
  refine List.map_congr_left fun p hp => ?_
  obtain ⟨h1, h2, h3, _⟩ := ldrs_mem.mp hp
  obtain ⟨⟨t1, t2⟩, _⟩ := part_all ok sl (show p.1 < n by omega) h2 (by omega) h3
  omega
/-- no lean ones that are held are more -/
theorem span_le (ok : Ok n K) (sl : Slim n K) (okJ : Ok n J) (slJ : Slim n J) (h : ∀ x ∈ J, Spn n K x.1 x.2) : J.length ≤ K.length := by
  rw [← ins_ldrs ok sl okJ h, ← ins_ldrs ok sl ok fun x hx => bar_spn ok sl hx]
  refine sum_le fun p hp => ?_
  obtain ⟨h1, h2, h3, _⟩ := ldrs_mem.mp hp
  obtain ⟨⟨t1, t2⟩, _⟩ := part_all ok sl (show p.1 < n by omega) h2 (by omega) h3
  have := slJ _ t1
  omega
end
/-! ### the worth -/
noncomputable def rk (n : Nat) (nb : List Bar) : Nat := (pickB n [] nb).length
/-- two joints hold each other -/
def Hld (n : Nat) (nb : List Bar) (a b : Nat) : Prop := Spn n (pickB n [] nb) a b
section
variable {n : Nat} {nb as bs : List Bar}
theorem basis_slim (n : Nat) (nb : List Bar) : Slim n (pickB n [] nb) := by
  have := pickB_slim nb [] (Pl.slim_nil n)
  simpa using this
theorem basis_ok (ok : Ok n nb) : Ok n (pickB n [] nb) := ok.sub (pickB_sub nb [])
theorem pick_spn : ∀ (r kb : List Bar), Ok n r → Ok n kb → Slim n kb → ∀ x ∈ r, Spn n (kb ++ pickB n kb r) x.1 x.2
  | b :: r, kb, ok, okk, sl, x, hx => by
    have o := ok b List.mem_cons_self
    have okr : Ok n r := fun c hc => ok c (List.mem_cons_of_mem _ hc)
    by_cases h : Slim n (kb ++ [b])
    · have okb : Ok n (kb ++ [b]) := okk.app fun c hc => by rw [List.mem_singleton.mp hc]; exact o
      rw [pickB_yes h]
      have e : kb ++ b :: pickB n (kb ++ [b]) r = (kb ++ [b]) ++ pickB n (kb ++ [b]) r := by simp
      rw [e]
      have s2 := pickB_slim r _ h
      rcases List.mem_cons.mp hx with rfl | hx
      · exact (bar_spn okb h (List.mem_append_right _ (List.mem_singleton.mpr rfl))).mono (List.sublist_append_left _ _) s2
      · exact pick_spn r _ okr okb h x hx
    · rw [pickB_no h]
      rcases List.mem_cons.mp hx with rfl | hx
      · have : Spn n kb x.1 x.2 := by
          by_cases q : Spn n kb x.1 x.2
          · exact q
          · exact (h ((slim_snoc sl o.1 o.2.1 o.2.2).mpr q)).elim
        exact this.mono (List.sublist_append_left _ _) (pickB_slim r kb sl)
      · exact pick_spn r kb okr okk sl x hx
theorem hld_bar (ok : Ok n nb) {x : Bar} (hx : x ∈ nb) : Hld n nb x.1 x.2 := by
  have := pick_spn nb [] ok (fun _ h => nomatch h) (Pl.slim_nil n) x hx
  rwa [List.nil_append] at this
theorem rk_max {J : List Bar} (ok : Ok n nb) (okJ : Ok n J) (slJ : Slim n J) (h : ∀ x ∈ J, Hld n nb x.1 x.2) : J.length ≤ rk n nb :=
  span_le (basis_ok ok) (basis_slim n nb) okJ slJ h
theorem rk_sub (oka : Ok n as) (okb : Ok n bs) (h : ∀ x ∈ as, Hld n bs x.1 x.2) : rk n as ≤ rk n bs :=
  rk_max okb (basis_ok oka) (basis_slim n as) fun x hx => h x ((pickB_sub as []).subset hx)
theorem rk_snoc {x : Bar} (o : x.1 < n ∧ x.2 < n ∧ x.1 ≠ x.2) : (Hld n nb x.1 x.2 → rk n (nb ++ [x]) = rk n nb) ∧ (¬ Hld n nb x.1 x.2 → rk n (nb ++ [x]) = rk n nb + 1) := by
  have e : pickB n [] (nb ++ [x]) = pickB n [] nb ++ pickB n (pickB n [] nb) [x] := by rw [pickB_app, List.nil_append]
  have s := slim_snoc (b := x) (basis_slim n nb) o.1 o.2.1 o.2.2
  constructor
  · intro h
    unfold rk
    rw [e, pickB_no (fun z => s.mp z h), pickB, List.append_nil]
  · intro h
    unfold rk
    rw [e, pickB_yes (s.mpr h), pickB, List.length_append]
    rfl
theorem hld_rk {x : Bar} (o : x.1 < n ∧ x.2 < n ∧ x.1 ≠ x.2) : Hld n nb x.1 x.2 ↔ rk n (nb ++ [x]) = rk n nb := by
  obtain ⟨h1, h2⟩ := rk_snoc (nb := nb) o
  by_cases h : Hld n nb x.1 x.2
  · exact ⟨h1, fun _ => h⟩
  · have := h2 h
    exact ⟨fun z => (h z).elim, fun z => by omega⟩
theorem ok_snoc {x : Bar} (ok : Ok n nb) (o : x.1 < n ∧ x.2 < n ∧ x.1 ≠ x.2) : Ok n (nb ++ [x]) := ok.app fun c hc => by rw [List.mem_singleton.mp hc]; exact o
/-- what is held by the one is held by the other -/
theorem hld_le (oka : Ok n as) (okb : Ok n bs) (h : ∀ x ∈ as, Hld n bs x.1 x.2) {a b : Nat} (ha : a < n) (hb : b < n) (ne : a ≠ b) (q : Hld n as a b) : Hld n bs a b := by
  have o : (a, b).1 < n ∧ (a, b).2 < n ∧ (a, b).1 ≠ (a, b).2 := ⟨ha, hb, ne⟩
  by_cases z : Hld n bs a b
  · exact z
  -- else a basis of the one, with this bar, and all of the other's
  have okab := ok_snoc okb o
  have hab : ∀ x, x ∈ bs ++ [(a, b)] → Hld n (bs ++ [(a, b)]) x.1 x.2 := fun x hx => hld_bar okab hx
  -- all of as ++ bs ++ [(a,b)] is held by bs ++ [(a,b)]; and by bs alone
  have oka2 : Ok n (bs ++ as) := okb.app oka
  have k1 : pickB n [] (bs ++ as) = pickB n [] bs := by
    have go : ∀ r : List Bar, Ok n r → (∀ x ∈ r, Hld n bs x.1 x.2) → pickB n (pickB n [] bs) r = [] := fun r => by
      induction r with
      | nil => intro _ _; rw [pickB]
      | cons y r ih =>
        intro okr hr
        have oy := okr y List.mem_cons_self
        rw [pickB_no fun s => (slim_snoc (basis_slim n bs) oy.1 oy.2.1 oy.2.2).mp s (hr y List.mem_cons_self)]
        exact ih (fun c hc => okr c (List.mem_cons_of_mem _ hc)) fun c hc => hr c (List.mem_cons_of_mem _ hc)
    rw [pickB_app, List.nil_append, go as oka h, List.append_nil]
  have e2 : Hld n (bs ++ as) a b ↔ Hld n bs a b := by unfold Hld; rw [k1]
  -- the rank of as, bs and the bar: no more than of as and bs
  have r1 := (rk_snoc (nb := bs ++ as) o).2 fun y => z (e2.mp y)
  have okas : Ok n (as ++ bs) := oka.app okb
  have r2 : rk n ((bs ++ as) ++ [(a, b)]) ≤ rk n (as ++ bs) := rk_sub (ok_snoc oka2 o) okas fun x hx => by
    rcases List.mem_append.mp hx with hx | hx
    · exact hld_bar okas (List.mem_append.mpr (List.mem_append.mp hx).symm)
    · rw [List.mem_singleton.mp hx]
      have : pickB n [] (as ++ bs) = pickB n [] as ++ pickB n (pickB n [] as) bs := by rw [pickB_app, List.nil_append]
      show Spn n _ a b
      rw [this]
      have s := pickB_slim bs _ (basis_slim n as)
      exact q.mono (List.sublist_append_left _ _) s
  have r3 : rk n (as ++ bs) ≤ rk n (bs ++ as) := rk_sub okas oka2 fun x hx => hld_bar oka2 (List.mem_append.mpr (List.mem_append.mp hx).symm)
  omega
theorem hld_symm {a b : Nat} (h : Hld n nb a b) : Hld n nb b a := Spn.symm h
/-- the same bars, in any order, turned or not -/
def Sub (as bs : List Bar) : Prop := ∀ x ∈ as, x ∈ bs ∨ (x.2, x.1) ∈ bs
theorem sub_hld (okb : Ok n bs) (h : Sub as bs) : ∀ x ∈ as, Hld n bs x.1 x.2 := fun x hx => (h x hx).elim (hld_bar okb) fun q => hld_symm (hld_bar okb q)
theorem rk_same (oka : Ok n as) (okb : Ok n bs) (h1 : Sub as bs) (h2 : Sub bs as) : rk n as = rk n bs := Nat.le_antisymm (rk_sub oka okb (sub_hld okb h1)) (rk_sub okb oka (sub_hld oka h2))
theorem hld_same (oka : Ok n as) (okb : Ok n bs) (h1 : Sub as bs) (h2 : Sub bs as) {a b : Nat} (ha : a < n) (hb : b < n) (ne : a ≠ b) : Hld n as a b ↔ Hld n bs a b :=
  ⟨hld_le oka okb (sub_hld okb h1) ha hb ne, hld_le okb oka (sub_hld oka h2) ha hb ne⟩
/-- the frame without the bar at i -/
theorem rk_less {i : Nat} (ok : Ok n nb) (hi : i < nb.length) : (Hld n (nb.eraseIdx i) nb[i].1 nb[i].2 → rk n (nb.eraseIdx i) = rk n nb ∧ ∀ a b, a < n → b < n → a ≠ b → (Hld n (nb.eraseIdx i) a b ↔ Hld n nb a b)) ∧
    (¬ Hld n (nb.eraseIdx i) nb[i].1 nb[i].2 → rk n (nb.eraseIdx i) + 1 = rk n nb) := by
  have okl : Ok n (nb.eraseIdx i) := ok.sub (List.eraseIdx_sublist _ _)
  have o := ok nb[i] (List.getElem_mem hi)
  have all : ∀ x ∈ nb, x ∈ nb.eraseIdx i ∨ x = nb[i] := fun x hx => by
    obtain ⟨j, hj, e⟩ := List.mem_iff_getElem.mp hx
    by_cases q : j = i
    · subst q; exact .inr e.symm
    · exact .inl (List.mem_eraseIdx_iff_getElem.mpr ⟨j, hj, q, e⟩)
  have s1 : Sub nb (nb.eraseIdx i ++ [nb[i]]) := fun x hx => .inl ((all x hx).elim (List.mem_append_left _) fun e => List.mem_append_right _ (by rw [e]; exact List.mem_singleton.mpr rfl))
  have s2 : Sub (nb.eraseIdx i ++ [nb[i]]) nb := fun x hx => .inl ((List.mem_append.mp hx).elim (fun h => (List.eraseIdx_sublist _ _).subset h) fun h => by rw [List.mem_singleton.mp h]; exact List.getElem_mem hi)
  have e := rk_same ok (ok_snoc okl o) s1 s2
  obtain ⟨h1, h2⟩ := rk_snoc (nb := nb.eraseIdx i) o
  refine ⟨fun h => ⟨by rw [e, h1 h], fun a b ha hb ne => ⟨fun q => hld_le okl ok (fun x hx => hld_bar ok ((List.eraseIdx_sublist _ _).subset hx)) ha hb ne q, fun q => hld_le ok okl (fun x hx => ?_) ha hb ne q⟩⟩, fun h => by rw [e, h2 h]⟩
  rcases all x hx with hx | rfl
  · exact hld_bar okl hx
  · exact h
end
end Fr

/-! What stands between two joints is told by what is carried, and the joints told are the fewest. -/
namespace Fr
def lens (cs : Cs) (S : JS) : Nat → Nat
  | 0 => 0
  | k + 1 => lens cs S k + if S k = true then (at_ cs k).length else 0
theorem outs_lens (cs : Cs) (S : JS) : ∀ k, outs cs S k ≤ lens cs S k
  | 0 => Nat.le_refl _
  | k + 1 => by
    have := outs_lens cs S k
    have h := List.countP_le_length (p := S) (l := at_ cs k)
    unfold outs lens
    split <;> omega
theorem outs_eq {cs : Cs} {S : JS} : ∀ {k : Nat}, outs cs S k = lens cs S k → ∀ v, v < k → S v = true → (at_ cs v).countP S = (at_ cs v).length
  | 0, _, v, hv, _ => absurd hv (Nat.not_lt_zero _)
  | k + 1, h, v, hv, sv => by
    have a := outs_lens cs S k
    have b := List.countP_le_length (p := S) (l := at_ cs k)
    unfold outs lens at h
    by_cases e : v = k
    · subst e
      rw [if_pos sv, if_pos sv] at h
      omega
    · refine outs_eq (k := k) ?_ v (by omega) sv
      split at h <;> omega
theorem card_succ (k : Nat) (S : JS) : card (k + 1) S = card k S + if S k = true then 1 else 0 := by
  unfold card
  rw [List.range_succ, List.countP_append, List.countP_cons, List.countP_nil]
  simp
theorem lens_low {cs : Cs} {S : JS} {one other : Nat} (two : ∀ v, (at_ cs v).length ≤ 2) (ne : one ≠ other) (s1 : S one = true) (s2 : S other = true) (e1 : at_ cs one = []) (e2 : (at_ cs other).length ≤ 1) :
    ∀ k, lens cs S k + (if one < k then 2 else 0) + (if other < k then 1 else 0) ≤ 2 * card k S
  | 0 => by simp [lens]
  | k + 1 => by
    have ih := lens_low two ne s1 s2 e1 e2 k
    have t := two k
    rw [card_succ]
    unfold lens
    by_cases a : k = one
    · subst a
      rw [if_pos s1, if_pos s1, if_pos (Nat.lt_succ_self k), e1]
      rw [if_neg (Nat.lt_irrefl k)] at ih
      by_cases q : other < k
      · rw [if_pos (by omega)]
        rw [if_pos q] at ih
        simp
        omega
      · rw [if_neg (by omega)]
        rw [if_neg q] at ih
        simp
        omega
    · by_cases b : k = other
      · subst b
        rw [if_pos s2, if_pos s2, if_pos (show k < k + 1 by omega)]
        rw [if_neg (Nat.lt_irrefl k)] at ih
        by_cases q : one < k
        · rw [if_pos (by omega)]
          rw [if_pos q] at ih
          omega
        · rw [if_neg (by omega)]
          rw [if_neg q] at ih
          omega
      · have p1 : (if one < k + 1 then 2 else 0) = (if one < k then 2 else 0) := by
          by_cases q : one < k
          · rw [if_pos q, if_pos (by omega)]
          · rw [if_neg q, if_neg (by omega)]
        have p2 : (if other < k + 1 then 1 else 0) = (if other < k then 1 else 0) := by
          by_cases q : other < k
          · rw [if_pos q, if_pos (by omega)]
          · rw [if_neg q, if_neg (by omega)]
        rw [p1, p2]
        split <;> omega
theorem closed_reached {n : Nat} {cs : Cs} {start : Nat} {ah : Ah} {S : JS} (sn : Seen n cs start ah []) (s0 : S start = true) (cl : ∀ v, v < n → S v = true → ∀ w ∈ at_ cs v, S w = true) : ∀ (m i f p : Nat), i ≤ m → ah[i]? = some (f, p) → S f = true
  | m, 0, f, p, _, h => by
    obtain ⟨r, hr⟩ := sn.head
    rw [hr] at h
    simp at h
    rw [← h.1]
    exact s0
  | 0, i + 1, _, _, hi, _ => by omega
  | m + 1, i + 1, f, p, hi, h => by
    obtain ⟨hf, i', q, hi', hq⟩ := sn.par (i + 1) f p h (by omega)
    have hp := closed_reached sn s0 cl m i' p q (by omega) hq
    exact cl p (sn.low p (List.mem_map.mpr ⟨(p, q), List.mem_of_getElem? hq, rfl⟩)) hp f hf
theorem btw_lay (cs : Cs) (one other : Nat) : (btw cs one other).2 = none ↔ (lay cs one other).2 = none := by
  cases h : (btw cs one other).2 with
  | none => rw [lay_none h]
  | some ks => rw [lay_some h]
/-- the joints told are the fewest without room -/
theorem btw_min {n : Nat} {cs : Cs} {bs : List Bar} {one other : Nat} {ks : List Nat} (ft : Fits n cs bs) (sl : Slim n bs) (h1 : one < n) (h2 : other < n) (ne : one ≠ other) (h : (btw cs one other).2 = some ks) :
    ks.Nodup ∧ (∀ k ∈ ks, k < n) ∧ one ∈ ks ∧ other ∈ ks ∧ Tight n bs (inL ks) ∧ ∀ S, Tight n bs S → S one = true → S other = true → ∀ k ∈ ks, S k = true := by
  obtain ⟨_, nd, low, m1, m2, tk⟩ := lay_no ft sl h1 h2 ne (show lay cs one other = ((btw cs one other).1, some ks) from lay_some h)
  refine ⟨nd, low, m1, m2, tk, fun S tS s1 s2 => ?_⟩
  obtain ⟨a, _, c, _⟩ := unload_spec (spared := one) h1 3 cs ft (by have := ft.two one; omega)
  have c := c (unload_all ft sl h1)
  obtain ⟨a2, b2, c2, d2⟩ := unload_spec (spared := one) h2 3 (unload one one 3 cs).1 a (by have := a.two other; omega)
  unfold btw at h
  dsimp only at h
  by_cases hy : (unload other one 3 (unload one one 3 cs).1).2 = true
  · rw [if_pos hy] at h
    cases h
  · rw [if_neg hy] at h
    have ek := Option.some.inj h
    have hf : (unload other one 3 (unload one one 3 cs).1).2 = false := by simpa using hy
    obtain ⟨g1, g2⟩ := d2 hf
    have e1 : at_ (unload other one 3 (unload one one 3 cs).1).1 one = [] := by
      have := b2 one ne rfl
      rw [c] at this
      exact List.eq_nil_of_length_eq_zero this
    generalize (unload other one 3 (unload one one 3 cs).1).1 = c3 at *
    subst ek
    obtain ⟨sn, sh⟩ := reached_seen a2.len a2.low h2
    have q := ins_reached a2 h2 g2
    have t := reach_two a2 h2 g1
    have s := sl _ t
    rw [if_pos ⟨h1, m1, ne⟩, e1] at q
    have z0 : ([] : List Nat).length = 0 := rfl
    have e2 : (at_ c3 other).length ≤ 1 := by
      have := a2.two other
      omega
    have ll := lens_low a2.two ne s1 s2 e1 e2 n
    rw [if_pos h1, if_pos h2] at ll
    have lo := outs_lens c3 S n
    obtain ⟨t1, t2⟩ := tS
    rw [a2.out] at t2
    have eq : outs c3 S n = lens c3 S n := by omega
    have cl : ∀ v, v < n → S v = true → ∀ w ∈ at_ c3 v, S w = true := fun v hv sv w hw => by
      have := outs_eq eq v hv sv
      exact List.countP_eq_length.mp this w hw
    intro k hk
    obtain ⟨i, p, hi⟩ : ∃ i p, (reached c3 other)[i]? = some (k, p) := by
      obtain ⟨⟨x, p⟩, hm, e⟩ := List.mem_map.mp hk
      obtain ⟨i, hi⟩ := List.getElem?_of_mem hm
      exact ⟨i, p, by rw [hi]; exact congrArg some (Prod.ext e rfl)⟩
    exact closed_reached sn s2 cl i i k p (Nat.le_refl _) hi
/-- told by what is carried: do the two hold each other -/
theorem btw_spn {n : Nat} {cs : Cs} {bs : List Bar} {one other : Nat} (ft : Fits n cs bs) (ok : Ok n bs) (sl : Slim n bs) (h1 : one < n) (h2 : other < n) (ne : one ≠ other) : (btw cs one other).2 = none ↔ ¬ Spn n bs one other := by
  rw [btw_lay, ← slim_snoc (b := (one, other)) sl h1 h2 ne]
  exact lay_slim (b := (one, other)) ft ok sl ⟨h1, h2, ne⟩
end Fr

/-! New trees by plain expressions; trees that become data; calls that are handed new trees. -/
namespace Pl
open PySem PySem.Spec PyProof.Rows L2
open Evl (Ex)
/-- a new tree -/
def EvM (K : PySem.W.Frag) (te : TE) (ρ : Rho) (m : M) : Prop := ∀ S H σ, Ex S H → Env K S σ ρ → ∀ Q : VK, (∀ p f S' H', Ext S H S' H' → Own K S' H' (.ref p) m f → f.Nodup → (∀ a ∈ f, H a = none ∧ S' a = none) → Q (.ref p) H') → te σ H Q
section
variable {K : PySem.W.Frag} {S0 H0 S H S' H' : Hp} {σ : L2.St} {ρ ρ' ρ1 ρv : Rho} {g g' g1 g2 gl gr : Gs} {F G : FM} {t u : TS} {te ti td tx tk tv ty : TE} {tA : TA} {c : TT} {d : D} {es ds : List D} {ms : List M} {m m1 m2 : M} {a : Addr} {π : List Nat} {Dd : Ends} {i j : Nat} {b : Bool} {r : Rs} {E : XK} {s : Shp}
theorem EvX.ofM (h : EvM K te ρ m) : EvX K te ρ g (.t m) g := fun S0 H0 S H σ st Q q =>
  h S H σ st.sub st.env Q fun p f S' H' x o nd no => q _ S' H' x.s ⟨p, rfl, st.add x o nd no⟩
theorem EvX.lookM (hv : View g ρ ρv) (h : EvM K te ρv m) (hf : m.flat = true) : EvX K te ρ g (.t m) g := fun S0 H0 S H σ st Q q => by
  obtain ⟨fp, rg, s0⟩ := id st
  obtain ⟨P, e1, e2, v, _⟩ := SG.look rg s0 hv
  refine h _ H σ e2 v _ fun p f S' H' x o nd no => ?_
  have xx : Ext S H (woH S H S') H' := ext_woH (e1.trans x.s) x.h x.sub
  exact q _ _ H' xx.s ⟨p, rfl, st.add xx (o.flat hf) nd fun a ha => ⟨(no a ha).1, woH_none (no a ha).2⟩⟩
open Classical in
/-- a tree that is told becomes data -/
theorem SG.tellT {p : Addr} (st : SG K S0 H0 ρ (g ++ [(p, m)]) S H σ) : ∃ S2, Ex S S2 ∧ SG K S0 H0 ρ g S2 H σ ∧ Rd K S2 (.ref p) m.see := by
  obtain ⟨fp, rg, s0⟩ := st
  have o := rg.own
  rw [gv_app, gm_app] at o
  obtain ⟨f1, f2, e, o1, o2⟩ := o.split gv_len
  have o2 : OwnL K S H [.ref p] [m] f2 := o2
  have n := SG.noS s0 rg
  have nd := rg.nd
  rw [e] at nd
  obtain ⟨nd1, nd2, nd3⟩ := List.nodup_append.mp nd
  have sub1 : ∀ a ∈ f1, a ∈ fp := fun a ha => e ▸ List.mem_append_left _ ha
  have sub2 : ∀ a ∈ f2, a ∈ fp := fun a ha => e ▸ List.mem_append_right _ ha
  have e1 : Ex S (withP (fun a => a ∈ f2) S H) := fun a o h => by
    unfold withP
    rw [if_neg fun z => by rw [n a (sub2 a z)] at h; cases h]
    exact h
  have e2 : Ex (withP (fun a => a ∈ f2) S H) H := fun a o h => by
    unfold withP at h
    split at h
    · exact h
    · exact s0.ext.sub a o h
  have in2 : ∀ a ∈ f2, withP (fun a => a ∈ f2) S H a = H a := fun a h => if_pos h
  refine ⟨_, e1, ⟨f1, ⟨o1.mono e1 fun a _ => rfl, nd1, fun a ha => rg.no a (sub1 a ha)⟩, s0.mv rg.no rg.own.lays e1 e2 (fun a _ _ => rfl) (fun a hn hs _ => ?_) fun a ha => ⟨.inl (sub1 a ha), ?_⟩⟩, ?_⟩
  · unfold withP
    rw [if_neg fun z => hn (sub2 a z)]
    exact hs
  · unfold withP
    rw [if_neg fun z => nd3 a ha a z rfl]
    exact n a (sub1 a ha)
  · cases o2 with
    | cons h r =>
      cases r
      exact h.see e1 fun b hb => in2 b (List.mem_append_left _ hb)
theorem EvX.tellT (h : EvX K te ρ g (.t m) g') : EvX K te ρ g (.d m.see) g' := fun S0 H0 S H σ st Q q => h S0 H0 S H σ st Q fun v S' H' e z => by
  obtain ⟨p, ev, z⟩ := z
  subst ev
  obtain ⟨S2, e2, st2, r2⟩ := z.tellT
  exact q _ S2 H' (e.trans e2) ⟨st2, r2⟩
/-- arguments, some of them new trees -/
def EvXA (K : PySem.W.Frag) (tA : TA) (ρ : Rho) (g : Gs) (P : List D → Gs → Prop) : Prop := ∀ S0 H0 S H σ, SG K S0 H0 ρ g S H σ → ∀ Q : List V → Hp → Prop, (∀ vs ds g' S' H', Ex S S' → P ds g' → SG K S0 H0 ρ g' S' H' σ → RdL K S' vs ds → Q vs H') → tA σ H Q
theorem xa_of (h : EvA K tA ρ ds) : EvXA K tA ρ g fun es x => es = ds ∧ x = g := fun S0 H0 S H σ st Q q => h S H σ st.sub st.env Q fun vs S' H' x r => q vs ds g S' H' x.s ⟨rfl, rfl⟩ (st.go x) r
theorem xa_d {P : List D → Gs → Prop} (h : EvD K te ρ d) (hr : EvXA K tA ρ g P) : EvXA K (tCons te tA) ρ g fun es x => ∃ l, es = d :: l ∧ P l x := fun S0 H0 S H σ st Q q =>
  h S H σ st.sub st.env _ fun v S1 H1 x1 r1 => hr S0 H0 S1 H1 σ (st.go x1) _ fun vs ds g' S' H' e p s2 r2 => q _ _ _ S' H' (x1.s.trans e) ⟨ds, rfl, p⟩ s2 (.cons (r1.mono e) r2)
theorem xa_t {P : Addr → List D → Gs → Prop} (h : EvX K te ρ g (.t m) g') (hr : ∀ p, EvXA K tA ρ (g' ++ [(p, m)]) (P p)) : EvXA K (tCons te tA) ρ g fun es x => ∃ p l, es = .adr p :: l ∧ P p l x := fun S0 H0 S H σ st Q q =>
  h S0 H0 S H σ st _ fun v S1 H1 e1 z => by
    obtain ⟨p, ev, s1⟩ := z
    subst ev
    exact hr p S0 H0 S1 H1 σ s1 _ fun vs ds g2 S' H' e pp s2 r2 => q _ _ _ S' H' (e1.trans e) ⟨p, ds, rfl, pp⟩ s2 (.cons (.adr p) r2)
theorem Res.forget {x e : Gs} {v : V} (hp : List.Perm x (g' ++ e)) (z : Res K S0 H0 ρ x S H σ v r) : Res K S0 H0 ρ g' S H σ v r := by
  cases r with
  | d d => exact ⟨(z.1.perm hp).forget, z.2⟩
  | o es => exact SG.forget (SG.perm hp z)
  | t m =>
    obtain ⟨p, ev, s⟩ := z
    have hp2 : List.Perm (x ++ [(p, m)]) ((g' ++ [(p, m)]) ++ e) := by
      refine (hp.append_right _).trans ?_
      rw [List.append_assoc, List.append_assoc]
      exact (List.perm_append_comm).append_left _
    exact ⟨p, ev, (s.perm hp2).forget⟩
/-- a call with such arguments; what it leaves of new trees is forgotten -/
theorem ex_callA {Rel : List D → Gs → Rs → Gs → Prop} {P : List D → Gs → Prop} (ha : EvXA K tA ρ g P) (hr : ∀ ds x, P ds x → ∃ g1 g2 gq e, List.Perm x (g1 ++ g2) ∧ Rel ds g1 r gq ∧ List.Perm (g2 ++ gq) (g' ++ e)) : EvX K (tCall (spG K Rel) [] E tA) ρ g r g' := fun S0 H0 S H σ st0 Q q =>
  ha S0 H0 S H σ st0 _ fun vs ds x S1 H1 e1 pp s1 r1 => by
    obtain ⟨g1, g2, gq, ex, hp, rel, hq⟩ := hr ds x pp
    obtain ⟨fp, rg, st⟩ := s1.perm hp
    have o := rg.own
    rw [gv_app, gm_app] at o
    obtain ⟨fs, f2, e, o1, o2⟩ := o.split gv_len
    subst e
    have n := SG.noS st rg
    have hc : cov (cov H1 (fun _ => none) fs) H1 fs = H1 := funext fun a => by
      by_cases h : a ∈ fs
      · rw [cov_in h]
      · rw [cov_out h, cov_out h]
    refine ⟨S1, cov H1 (fun _ => none) fs, ds, g1, r, gq, ⟨fs, ⟨o1, (List.nodup_append.mp rg.nd).1, fun a ha => ⟨cov_in ha, n a (List.mem_append_left _ ha)⟩⟩, ?_⟩, by rw [List.append_nil]; exact r1, rel, fun v S2 H2 _ z => ?_⟩
    · rw [hc]
      exact (⟨Ext.refl st.ext.sub, ⟨rfl, fun i d h => by simp at h⟩, fun i ds h => by simp at h, fun i j a b p h => by simp at h⟩ : Stt K S1 H1 [] S1 H1 [])
    · obtain ⟨e, y⟩ := SG.ret st o1 o2 rg.nd rg.no z
      exact q v S2 H2 (e1.trans e) (Res.forget hq y)
def rowF (e : D → List D) (d : D) : M := .n .lst ((e d).map M.d)
/-- a list of new lists -/
theorem EvM.lc {wi : TI} {tg : TG} {vs : List Nat} (hi : EvI K wi ρ ds) (ps : D → List (Nat × D)) (e : D → List D) (hg : ∀ d ∈ ds, EvG K tg d (ps d)) (hs : ∀ d ∈ ds, ∀ p ∈ ps d, p.1 ∈ vs)
    (he : ∀ d ∈ ds, EvF K te (setR (wipeR ρ vs) (ps d)) (e d)) (hl : ds.length ≤ 50000) : EvM K (tLc wi tg tYes te vs) ρ (.n .lst (ds.map (rowF e))) := fun S H σ ee v Q q =>
  hi S H σ ee v _ fun J S1 H1 x1 wk => fun Dl hD => by
    refine ⟨fun i m H' => m = ds.length - i ∧ i ≤ ds.length ∧ ∃ S' as, Ext S1 H1 S' H' ∧ S' Dl = none ∧ H' Dl = some (.lst (as.map V.ref)) ∧ as.length = i ∧ OwnL K S' H' (as.map V.ref) ((ds.take i).map (rowF e)) as ∧ (Dl :: as).Nodup ∧ ∀ a ∈ as, H1 a = none ∧ S' a = none,
      ⟨ds.length, by simp, Nat.zero_le _, S1, [], Ext.hid x1.sub hD, sub_none x1.sub hD, upd_same, rfl, .nil, by simp, fun _ z => nomatch z⟩, ?_⟩
    rintro i m H' ⟨rfl, hi, S', as, x, nS, hus, hal, ow, nd, rows⟩
    by_cases hlt : i < ds.length
    · refine .inr ⟨wk.go S' H' i x.s x.sub hlt, fun H2 => ∃ S2 as2, Ext S1 H1 S2 H2 ∧ S2 Dl = none ∧ H2 Dl = some (.lst (as2.map V.ref)) ∧ as2.length = i + 1 ∧ OwnL K S2 H2 (as2.map V.ref) ((ds.take (i + 1)).map (rowF e)) as2 ∧ (Dl :: as2).Nodup ∧ ∀ a ∈ as2, H1 a = none ∧ S2 a = none, fun H2 z => ⟨ds.length - (i + 1), by omega, rfl, hlt, z⟩, fun xv H'' y => ?_⟩
      have hd : ds[i]? = some ds[i] := List.getElem?_eq_getElem hlt
      have hm : ds[i] ∈ ds := List.getElem_mem hlt
      obtain ⟨S2, x2, r2⟩ := wk.yld S' H' i xv H'' ds[i] x.s x.sub hd y
      have tk : ds.take (i + 1) = ds.take i ++ [ds[i]] := (List.take_append_getElem hlt).symm
      refine hg _ hm S2 H'' _ xv x2.sub r2 _ fun ws rws => ⟨?_, ?_⟩
      · rw [wipe_setV fun j hj => by
          obtain ⟨p, hp, rfl⟩ := List.mem_map.mp hj
          exact hs _ hm p hp, wipe_wipe]
      · have ev : Env K S2 (setV (L2.wipe σ vs) ((ps ds[i]).map (·.1)) ws) (setR (wipeR ρ vs) (ps ds[i])) := (((v.mono ((x1.s.trans x.s).trans x2.s)).wipe vs)).setV rws
        refine he _ hm S2 H'' _ x2.sub ev _ fun p us S4 H4 x4 hp sp h4 r4 => ?_
        have xx := x2.trans x4
        have hD4 : H4 Dl = some (.lst (as.map V.ref)) := xx.h _ _ hus
        have np : p ≠ Dl := fun z => by rw [z, x2.h _ _ hus] at hp; cases hp
        have lay : ∀ a ∈ as, H' a ≠ none := fun a ha => ow.lays a ha
        have same4 : ∀ a, H' a ≠ none → H4 a = H' a := fun a ha => by
          cases z : H' a with
          | none => exact absurd z ha
          | some o => exact xx.h a o z
        have npa : ∀ a ∈ as, a ≠ p := fun a ha z => by
          have l := lay a ha
          cases w : H' a with
          | none => exact l w
          | some o =>
            have := x2.h a o w
            rw [z, hp] at this
            cases this
        have h1p : H1 p = none := Evl.fresh_back (x.h.trans x2.h) hp
        have s4D : S4 Dl = none := xx.dis _ nS (by rw [hus]; exact fun z => nomatch z)
        have nDa : ∀ a ∈ as, a ≠ Dl := fun a ha z => (List.nodup_cons.mp nd).1 (z ▸ ha)
        have ul : (as.map V.ref).length ≤ ds.length := by rw [List.length_map]; omega
        refine ⟨as.map V.ref, hD4, Evl.sz_lt (by omega), S4, as ++ [p], ?_, s4D, ?_, by rw [List.length_append, hal]; rfl, ?_, ?_, fun a ha => ?_⟩
        · have yy := x.trans xx
          refine ⟨yy.s, fun a o ha => ?_, fun a o ha => ?_, yy.dis⟩
          · rw [upd_ne (ne_of_none ha hD)]
            exact yy.h a o ha
          · rw [upd_ne (fun z => by rw [z, s4D] at ha; cases ha)]
            exact yy.sub a o ha
        · rw [upd_same, List.map_append]
          rfl
        · rw [tk, List.map_append, List.map_append]
          refine OwnL.append (ow.mono xx.s fun a ha => ?_) ?_
          · rw [upd_ne (nDa a ha)]
            exact same4 a (lay a ha)
          · have z : OwnL K S4 (upd H4 Dl (.lst (as.map V.ref ++ [V.ref p]))) [.ref p] [rowF e ds[i]] ((p :: []) ++ []) := .cons (.n (by rw [upd_ne np]; exact h4) (show Shp.ho .lst (.lst us) us from rfl) (OwnL.ofD r4)) .nil
            exact z
        · have nd' := List.nodup_cons.mp nd
          refine List.nodup_cons.mpr ⟨fun z => ?_, List.nodup_append.mpr ⟨nd'.2, by simp, fun a ha b hb e => npa a ha (e.trans (List.mem_singleton.mp hb))⟩⟩
          rcases List.mem_append.mp z with z | z
          · exact nd'.1 z
          · exact np (List.mem_singleton.mp z).symm
        · rcases List.mem_append.mp ha with ha | ha
          · exact ⟨(rows a ha).1, xx.dis a (rows a ha).2 (lay a ha)⟩
          · rw [List.mem_singleton.mp ha]
            exact ⟨h1p, sp⟩
    · have e0 : i = ds.length := by omega
      subst e0
      rw [List.take_length] at ow
      refine .inl ⟨wk.stop S' H' x.s x.sub, ?_⟩
      have xx := x1.trans x
      refine q Dl (Dl :: as) S' H' xx (.n hus (show Shp.ho .lst _ _ from rfl) ow) nd fun a ha => ?_
      rcases List.mem_cons.mp ha with e | ha
      · rw [e]
        exact ⟨Evl.fresh_back x1.h hD, nS⟩
      · exact ⟨Evl.fresh_back x1.h (rows a ha).1, (rows a ha).2⟩
end
end Pl

/-! sorted of a list of numbers; what each joint holds, and the parts, as lists. -/
namespace Pl
open PySem PySem.Spec PyProof.Rows L2
open Evl (Ex)
theorem ok_sortedI {X : Cx} {K : PySem.W.Frag} (h : X.K = K) : CallR X (.builtin "sorted") (rSorted K) := by subst h; exact cr_sorted
theorem rc_sortedI {K : PySem.W.Frag} {ns ms : List Int} (h64 : ns.length < 64) (hs : ms.Pairwise (· ≤ ·)) (hp : ms.Perm ns) : RCF K (rSorted K) [.lst (ns.map D.int)] (ms.map D.int) := fun S H vs e r Q q => by
  cases r with
  | cons h t =>
    cases t
    cases h with
    | lst ha rl =>
      have z := rl.ints
      subst z
      refine ⟨_, ns, rfl, Evl.sq_of (e _ _ ha), h64, fun ks p h1 h2 hp2 => ?_⟩
      have em : ks = ms := (h1.trans hp.symm).eq_of_pairwise (fun a b _ _ h1 h2 => by omega) h2 hs
      subst em
      exact q p _ S _ (Ext.hid e hp2) hp2 (sub_none e hp2) upd_same (RdL.ofInts ks)
/-- two rising lists of the same numbers -/
theorem rise_eq {l m : List Nat} (h1 : l.Pairwise (· < ·)) (h2 : m.Pairwise (· < ·)) (h : ∀ x, x ∈ l ↔ x ∈ m) : l = m := by
  have n1 : l.Nodup := h1.imp fun h => by omega
  have n2 : m.Nodup := h2.imp fun h => by omega
  exact ((List.perm_ext_iff_of_nodup n1 n2).mpr h).eq_of_pairwise (fun a b _ _ x y => by omega) (h1.imp fun h => Nat.le_of_lt h) (h2.imp fun h => Nat.le_of_lt h)
theorem sortN_eq {l m : List Nat} (nd : l.Nodup) (hm : m.Pairwise (· < ·)) (h : ∀ x, x ∈ l ↔ x ∈ m) : sortN l = m :=
  rise_eq (sortN_lt nd) hm fun x => by rw [(sortN_perm l).mem_iff, h]
open Classical in
/-- the joints that a joint holds, and itself -/
noncomputable def heldL (n : Nat) (K : List Fr.Bar) (x : Nat) : List Nat := (List.range n).filter fun y => decide (y = x ∨ Fr.Spn n K x y)
open Classical in
theorem heldL_mem {n : Nat} {K : List Fr.Bar} {x y : Nat} : y ∈ heldL n K x ↔ y < n ∧ (y = x ∨ Fr.Spn n K x y) := by
  unfold heldL
  rw [List.mem_filter, List.mem_range, decide_eq_true_eq]
theorem heldL_rise (n : Nat) (K : List Fr.Bar) (x : Nat) : (heldL n K x).Pairwise (· < ·) := List.pairwise_lt_range.filter _
theorem heldL_len (n : Nat) (K : List Fr.Bar) (x : Nat) : (heldL n K x).length ≤ n := by
  unfold heldL
  exact Nat.le_trans (List.length_filter_le _ _) (by rw [List.length_range]; exact Nat.le_refl _)
/-- the joints of a part -/
noncomputable def partL (n : Nat) (K : List Fr.Bar) (p : Fr.Bar) : List Nat := (List.range n).filter (Fr.part n K p.1 p.2)
noncomputable def partsL (n : Nat) (nb : List Fr.Bar) : List (List Nat) := (Fr.ldrs n (Fr.pickB n [] nb)).map (partL n (Fr.pickB n [] nb))
theorem partL_mem {n : Nat} {K : List Fr.Bar} {p : Fr.Bar} {y : Nat} : y ∈ partL n K p ↔ y < n ∧ Fr.part n K p.1 p.2 y = true := by
  unfold partL
  rw [List.mem_filter, List.mem_range]
theorem partL_rise (n : Nat) (K : List Fr.Bar) (p : Fr.Bar) : (partL n K p).Pairwise (· < ·) := List.pairwise_lt_range.filter _
/-- as the text makes it: those that both hold -/
def bothL (n : Nat) (A B : List Nat) : List Nat := A.filter fun y => decide (y ∈ B)
theorem both_part {n : Nat} {K : List Fr.Bar} {a b : Nat} (hb : b ∈ heldL n K a) (ne : a ≠ b) (ha : a < n) : bothL n (heldL n K a) (heldL n K b) = partL n K (a, b) := by
  obtain ⟨hbn, h⟩ := heldL_mem.mp hb
  have h : Fr.Spn n K a b := h.elim (fun e => (ne e.symm).elim) id
  refine rise_eq ((heldL_rise _ _ _).filter _) (partL_rise _ _ _) fun x => ?_
  unfold bothL
  rw [List.mem_filter, decide_eq_true_eq, heldL_mem, heldL_mem, partL_mem, Fr.part_iff]
  constructor
  · rintro ⟨⟨hx, h1⟩, _, h2⟩
    refine ⟨hx, ?_⟩
    rcases h1 with rfl | h1
    · exact .inl rfl
    · rcases h2 with rfl | h2
      · exact .inr (.inl rfl)
      · exact .inr (.inr ⟨h1, h2⟩)
  · rintro ⟨hx, rfl | rfl | ⟨h1, h2⟩⟩
    · exact ⟨⟨hx, .inl rfl⟩, hx, .inr h.symm⟩
    · exact ⟨⟨hx, .inr h⟩, hx, .inl rfl⟩
    · exact ⟨⟨hx, .inr h1⟩, hx, .inr h2⟩
/-- the two first ones are these: they lead -/
theorem lead_first {n : Nat} {K : List Fr.Bar} {a b : Nat} (ha : a < n) (hb : b ∈ heldL n K a) : (bothL n (heldL n K a) (heldL n K b)).take 2 = [a, b] ↔ Fr.Ld n K a b := by
  have rise : (bothL n (heldL n K a) (heldL n K b)).Pairwise (· < ·) := (heldL_rise _ _ _).filter _
  constructor
  · intro h
    generalize hl : bothL n (heldL n K a) (heldL n K b) = l at h rise
    match l, h, rise, hl with
    | x :: y :: r, h, rise, hl =>
      have h : [x, y] = [a, b] := h
      injection h with e1 h
      injection h with e2 _
      subst e1
      subst e2
      obtain ⟨r1, r2⟩ := List.pairwise_cons.mp rise
      have lt := r1 y List.mem_cons_self
      obtain ⟨hbn, hs⟩ := heldL_mem.mp hb
      have hs : Fr.Spn n K x y := hs.elim (fun e => by omega) id
      refine ⟨lt, hbn, hs, fun c hc pc => ?_⟩
      have hm : c ∈ partL n K (x, y) := partL_mem.mpr ⟨hc, pc⟩
      rw [← both_part hb (by omega) ha, hl] at hm
      rcases List.mem_cons.mp hm with rfl | hm
      · exact .inl rfl
      · rcases List.mem_cons.mp hm with rfl | hm
        · exact .inr (Nat.le_refl _)
        · exact .inr (Nat.le_of_lt ((List.pairwise_cons.mp r2).1 c hm))
  · rintro ⟨lt, hbn, hs, hl⟩
    have e := both_part hb (by omega) ha
    have ma : a ∈ bothL n (heldL n K a) (heldL n K b) := by rw [e]; exact partL_mem.mpr ⟨ha, Fr.part_left⟩
    have mb : b ∈ bothL n (heldL n K a) (heldL n K b) := by rw [e]; exact partL_mem.mpr ⟨hbn, Fr.part_right⟩
    have all : ∀ c ∈ bothL n (heldL n K a) (heldL n K b), c = a ∨ b ≤ c := fun c hc => by
      rw [e] at hc
      obtain ⟨h1, h2⟩ := partL_mem.mp hc
      exact hl c h1 h2
    generalize bothL n (heldL n K a) (heldL n K b) = l at rise ma mb all
    match l, rise, ma, mb, all with
    | [], _, ma, _, _ => cases ma
    | [x], _, ma, mb, _ =>
      have := List.mem_singleton.mp ma
      have := List.mem_singleton.mp mb
      omega
    | x :: y :: r, rise, ma, mb, all =>
      obtain ⟨r1, r2⟩ := List.pairwise_cons.mp rise
      obtain ⟨r3, _⟩ := List.pairwise_cons.mp r2
      have lxy := r1 y List.mem_cons_self
      have ex : x = a := by
        rcases all x List.mem_cons_self with e | e
        · exact e
        · rcases List.mem_cons.mp ma with e2 | hm
          · exact e2.symm
          · have := r1 a hm
            omega
      have ey : y = b := by
        rcases all y (List.mem_cons_of_mem _ List.mem_cons_self) with e | e
        · omega
        · rcases List.mem_cons.mp mb with e2 | hm
          · omega
          · rcases List.mem_cons.mp hm with e3 | hm
            · exact e3.symm
            · have := r3 b hm
              omega
      subst ex
      subst ey
      rfl
open Classical in
/-- as the text finds them -/
theorem parts_walk (n : Nat) (K : List Fr.Bar) (a : Nat) : ((heldL n K a).filter fun b => decide (Fr.Ld n K a b)) = (List.range n).filter fun b => decide (Fr.Ld n K a b) := by
  refine rise_eq ((heldL_rise _ _ _).filter _) (List.pairwise_lt_range.filter _) fun x => ?_
  rw [List.mem_filter, List.mem_filter, decide_eq_true_eq, heldL_mem, List.mem_range]
  constructor
  · rintro ⟨⟨h1, _⟩, h2⟩
    exact ⟨h1, h2⟩
  · rintro ⟨h1, h2⟩
    exact ⟨⟨h1, .inr h2.2.2.1⟩, h2⟩
end Pl

/-! The knots that bars tie as they come in an order. -/
namespace Fr
def barAt (nb : List Bar) (i : Nat) : Bar := nb.getD i (0, 0)
def knotL (nb : List Bar) (ks : List Nat) (i : Nat) (laid : List Nat) : List Nat := (List.range nb.length).filter fun a => (decide ((barAt nb a).1 ∈ ks) && decide ((barAt nb a).2 ∈ ks)) && (decide (a = i) || decide (a ∈ laid))
def tiedL (nb : List Bar) : Cs → List Nat → List Nat → List (Nat × List Nat)
  | _, [], _ => []
  | cs, i :: r, laid => match (lay cs (barAt nb i).1 (barAt nb i).2).2 with
    | none => tiedL nb (lay cs (barAt nb i).1 (barAt nb i).2).1 r (laid ++ [i])
    | some ks => (i, knotL nb ks i laid) :: tiedL nb (lay cs (barAt nb i).1 (barAt nb i).2).1 r laid
theorem tiedL_nil (nb : List Bar) (cs : Cs) (laid : List Nat) : tiedL nb cs [] laid = [] := rfl
theorem tiedL_none {nb : List Bar} {cs : Cs} {i : Nat} {r laid : List Nat} (h : (lay cs (barAt nb i).1 (barAt nb i).2).2 = none) : tiedL nb cs (i :: r) laid = tiedL nb (lay cs (barAt nb i).1 (barAt nb i).2).1 r (laid ++ [i]) := by
  conv => lhs; unfold tiedL
  rw [h]
theorem tiedL_some {nb : List Bar} {cs : Cs} {i : Nat} {r laid ks : List Nat} (h : (lay cs (barAt nb i).1 (barAt nb i).2).2 = some ks) : tiedL nb cs (i :: r) laid = (i, knotL nb ks i laid) :: tiedL nb (lay cs (barAt nb i).1 (barAt nb i).2).1 r laid := by
  conv => lhs; unfold tiedL
  rw [h]
theorem barAt_mem {nb : List Bar} {i : Nat} (h : i < nb.length) : barAt nb i ∈ nb := getD_mem h
theorem barAt_ok {n : Nat} {nb : List Bar} (ok : Ok n nb) {l : List Nat} (h : ∀ i ∈ l, i < nb.length) : Ok n (l.map (barAt nb)) := fun b hb => by
  obtain ⟨i, hi, rfl⟩ := List.mem_map.mp hb
  exact ok _ (barAt_mem (h i hi))
/-- what a knot is told by -/
def Told (n : Nat) (nb : List Bar) (lj : List Nat) (i : Nat) (l : List Nat) : Prop := ∃ T : JS, Tight n (lj.map (barAt nb)) T ∧ T (barAt nb i).1 = true ∧ T (barAt nb i).2 = true ∧
  (∀ S, Tight n (lj.map (barAt nb)) S → S (barAt nb i).1 = true → S (barAt nb i).2 = true → ∀ k, k < n → T k = true → S k = true) ∧ ∀ a, a ∈ l ↔ a < nb.length ∧ (T (barAt nb a).1 = true ∧ T (barAt nb a).2 = true) ∧ (a = i ∨ a ∈ lj)
theorem tied_all {n : Nat} {nb : List Bar} (ok : Ok n nb) : ∀ (os laid : List Nat) (cs : Cs), (∀ i ∈ os, i < nb.length) → (∀ i ∈ laid, i < nb.length) → (laid ++ os).Nodup → Fits n cs (laid.map (barAt nb)) → Slim n (laid.map (barAt nb)) →
    ∃ F, F.Sublist (laid ++ os) ∧ laid.Sublist F ∧ Slim n (F.map (barAt nb)) ∧ (∀ j ∈ os, j ∈ F ∨ ∃ p ∈ tiedL nb cs os laid, p.1 = j) ∧
      ∀ p ∈ tiedL nb cs os laid, p.1 ∈ os ∧ p.1 ∉ F ∧ ∃ lj, lj.Sublist F ∧ (∃ pre post, os = pre ++ p.1 :: post ∧ ∀ a ∈ lj, a ∈ laid ∨ a ∈ pre) ∧ Told n nb lj p.1 p.2
  | [], laid, cs, _, _, _, _, sl => ⟨laid, by rw [List.append_nil]; exact .refl _, .refl _, sl, (fun j h => (nomatch h)), (fun p h => (nomatch h))⟩
  | i :: r, laid, cs, ho, hl, nd, ft, sl => by
    have o := ok _ (barAt_mem (ho i List.mem_cons_self))
    have okl := barAt_ok ok hl
    have hor : ∀ j ∈ r, j < nb.length := fun j hj => ho j (List.mem_cons_of_mem _ hj)
    have hs := lay_slim (b := barAt nb i) ft okl sl o
    have hbl := btw_lay cs (barAt nb i).1 (barAt nb i).2
    unfold tiedL
    cases hy : (lay cs (barAt nb i).1 (barAt nb i).2).2 with
    | none =>
      obtain ⟨f1, f2⟩ := lay_yes ft okl sl o.1 o.2.1 o.2.2 (Prod.ext rfl hy : lay cs (barAt nb i).1 (barAt nb i).2 = ((lay cs (barAt nb i).1 (barAt nb i).2).1, none))
      have e : (laid ++ [i]).map (barAt nb) = laid.map (barAt nb) ++ [barAt nb i] := by rw [List.map_append]; rfl
      have el : (laid ++ [i]) ++ r = laid ++ i :: r := by simp
      obtain ⟨F, h1, h2, h3, h4, h5⟩ := tied_all ok r (laid ++ [i]) _ hor (fun j hj => by
        rcases List.mem_append.mp hj with hj | hj
        · exact hl j hj
        · rw [List.mem_singleton.mp hj]; exact ho i List.mem_cons_self) (by rw [el]; exact nd) (by rw [e]; exact f1) (by rw [e]; exact f2)
      rw [el] at h1
      refine ⟨F, h1, (List.sublist_append_left _ _).trans h2, h3, fun j hj => ?_, fun p hp => ?_⟩
      · rcases List.mem_cons.mp hj with rfl | hj
        · exact .inl (h2.subset (List.mem_append_right _ (List.mem_singleton.mpr rfl)))
        · exact h4 j hj
      · obtain ⟨g1, g2, lj, g3, ⟨pre, post, g4, g5⟩, g6⟩ := h5 p hp
        refine ⟨List.mem_cons_of_mem _ g1, g2, lj, g3, ⟨i :: pre, post, by rw [g4]; rfl, fun a ha => ?_⟩, g6⟩
        rcases g5 a ha with g | g
        · rcases List.mem_append.mp g with g | g
          · exact .inl g
          · rw [List.mem_singleton.mp g]; exact .inr List.mem_cons_self
        · exact .inr (List.mem_cons_of_mem _ g)
    | some ks =>
      have f1 := lay_fits_no ft o.1 o.2.1 hy
      have nd2 : (laid ++ r).Nodup := nd.sublist ((List.sublist_cons_self i r).append_left laid)
      obtain ⟨F, h1, h2, h3, h4, h5⟩ := tied_all ok r laid _ hor hl nd2 f1 sl
      have hb : (btw cs (barAt nb i).1 (barAt nb i).2).2 = some ks := by
        cases q : (btw cs (barAt nb i).1 (barAt nb i).2).2 with
        | none => rw [hbl.mp q] at hy; cases hy
        | some kk => rw [lay_some q] at hy; exact hy
      obtain ⟨knd, klow, m1, m2, tk, mn⟩ := btw_min ft sl o.1 o.2.1 o.2.2 hb
      have ni : i ∉ laid ++ r := fun z => by
        have q : (laid ++ i :: r).Perm (i :: (laid ++ r)) := List.perm_middle
        exact (List.nodup_cons.mp (q.nodup_iff.mp nd)).1 z
      refine ⟨F, h1.trans ((List.sublist_cons_self i r).append_left laid), h2, h3, fun j hj => ?_, fun p hp => ?_⟩
      · rcases List.mem_cons.mp hj with rfl | hj
        · exact .inr ⟨_, List.mem_cons_self, rfl⟩
        · rcases h4 j hj with h | ⟨p, hp, e⟩
          · exact .inl h
          · exact .inr ⟨p, List.mem_cons_of_mem _ hp, e⟩
      · rcases List.mem_cons.mp hp with rfl | hp
        · refine ⟨List.mem_cons_self, fun z => ni (h1.subset z), laid, h2, ⟨[], r, rfl, fun a ha => .inl ha⟩, inL ks, tk, decide_eq_true m1, decide_eq_true m2, fun S tS s1 s2 k _ hk => mn S tS s1 s2 k (of_decide_eq_true hk), fun a => ?_⟩
          show a ∈ knotL nb ks i laid ↔ _
          unfold knotL inL
          rw [List.mem_filter, List.mem_range]
          simp only [Bool.and_eq_true, Bool.or_eq_true, decide_eq_true_eq]
        · obtain ⟨g1, g2, lj, g3, ⟨pre, post, g4, g5⟩, g6⟩ := h5 p hp
          exact ⟨List.mem_cons_of_mem _ g1, g2, lj, g3, ⟨i :: pre, post, by rw [g4]; rfl, fun a ha => (g5 a ha).imp id (List.mem_cons_of_mem _)⟩, g6⟩
section
variable {n : Nat} {nb : List Bar}
theorem basis_all {K : List Bar} (sl : Slim n K) : pickB n [] K = K := (pickN_all K [] 0 (by simpa using sl)).2
/-- what lean ones of the bars hold, the bars hold -/
theorem spn_hld {K bs : List Bar} (okK : Ok n K) (sl : Slim n K) (okb : Ok n bs) (h : ∀ x ∈ K, x ∈ bs) {a b : Nat} (ha : a < n) (hb : b < n) (ne : a ≠ b) (q : Spn n K a b) : Hld n bs a b :=
  hld_le okK okb (fun x hx => hld_bar okb (h x hx)) ha hb ne (by unfold Hld; rw [basis_all sl]; exact q)
theorem erase_mem {i j : Nat} (hj : j < nb.length) (ne : j ≠ i) : barAt nb j ∈ nb.eraseIdx i :=
  List.mem_eraseIdx_iff_getElem.mpr ⟨j, hj, ne, by unfold barAt; simp [List.getD, hj]⟩
theorem barAt_get {i : Nat} (h : i < nb.length) : barAt nb i = nb[i] := by unfold barAt; simp [List.getD, h]
/-- the bars of an order: those that some knot has are those that others hold -/
theorem tied_iff (ok : Ok n nb) {os : List Nat} (hp : os.Perm (List.range nb.length)) {i : Nat} (hi : i < nb.length) :
    ((∃ p ∈ tiedL nb (List.replicate n []) os [], i ∈ p.2) ↔ Hld n (nb.eraseIdx i) (barAt nb i).1 (barAt nb i).2) ∧
    (∀ p ∈ tiedL nb (List.replicate n []) os [], p.1 < nb.length ∧ Hld n (nb.eraseIdx p.1) (barAt nb p.1).1 (barAt nb p.1).2 ∧ p.1 ∈ p.2 ∧ ∃ lj, (∀ a ∈ lj, a < nb.length) ∧ lj.Nodup ∧ Slim n (lj.map (barAt nb)) ∧ p.1 ∉ lj ∧ Told n nb lj p.1 p.2 ∧ ∃ pre post, os = pre ++ p.1 :: post ∧ ∀ a ∈ lj, a ∈ pre) := by
  have ho : ∀ j ∈ os, j < nb.length := fun j hj => List.mem_range.mp (hp.mem_iff.mp hj)
  have ndo : os.Nodup := hp.nodup_iff.mpr List.nodup_range
  obtain ⟨F, h1, h2, h3, h4, h5⟩ := tied_all ok os [] (List.replicate n []) ho (fun _ h => nomatch h) (by simpa using ndo) (Pl.fits_bare n) (Pl.slim_nil n)
  rw [List.nil_append] at h1
  have ndF : F.Nodup := ndo.sublist h1
  have hF : ∀ j ∈ F, j < nb.length := fun j hj => ho j (h1.subset hj)
  have key : ∀ p ∈ tiedL nb (List.replicate n []) os [], p.1 < nb.length ∧ Hld n (nb.eraseIdx p.1) (barAt nb p.1).1 (barAt nb p.1).2 ∧ p.1 ∈ p.2 ∧ ∃ lj, (∀ a ∈ lj, a < nb.length) ∧ lj.Nodup ∧ Slim n (lj.map (barAt nb)) ∧ p.1 ∉ lj ∧ Told n nb lj p.1 p.2 ∧ ∃ pre post, os = pre ++ p.1 :: post ∧ ∀ a ∈ lj, a ∈ pre := fun p hpm => by
    obtain ⟨g1, g2, lj, g3, ⟨pre, post, g4, g5⟩, g6⟩ := h5 p hpm
    have hlj : ∀ a ∈ lj, a < nb.length := fun a ha => hF a (g3.subset ha)
    have slj : Slim n (lj.map (barAt nb)) := h3.sub (g3.map _)
    have npj : p.1 ∉ lj := fun z => g2 (g3.subset z)
    obtain ⟨T, t1, t2, t3, t4, t5⟩ := id g6
    have o := ok _ (barAt_mem (ho _ g1))
    refine ⟨ho _ g1, spn_hld (barAt_ok ok hlj) slj (ok.sub (List.eraseIdx_sublist _ _)) (fun x hx => ?_) o.1 o.2.1 o.2.2 ⟨T, t1, t2, t3⟩, (t5 p.1).mpr ⟨ho _ g1, ⟨t2, t3⟩, .inl rfl⟩, lj, hlj, ndF.sublist g3, slj, npj, g6, pre, post, g4, fun a ha => (g5 a ha).elim (fun z => nomatch z) id⟩
    obtain ⟨a, ha, rfl⟩ := List.mem_map.mp hx
    exact erase_mem (hlj a ha) fun e => npj (e ▸ ha)
  refine ⟨⟨?_, fun hh => ?_⟩, key⟩
  · rintro ⟨p, hpm, hip⟩
    obtain ⟨k1, k2, _, lj, k3, knd, k4, k5, ⟨T, t1, t2, t3, t4, t5⟩, _⟩ := key p hpm
    obtain ⟨q1, ⟨q2, q3⟩, q4⟩ := (t5 i).mp hip
    rcases q4 with rfl | q4
    · exact k2
    · -- the bar at i changes with that at p.1
      have okl := barAt_ok ok k3
      have pe : (lj.map (barAt nb)).Perm (barAt nb i :: (lj.erase i).map (barAt nb)) := (List.perm_cons_erase q4).map _
      have ie : ∀ S, ins (lj.map (barAt nb)) S = ins ((lj.erase i).map (barAt nb)) S + (S (barAt nb i).1 && S (barAt nb i).2).toNat := fun S => by rw [ins_perm pe, ins_cons]
      have sle : Slim n ((lj.erase i).map (barAt nb)) := k4.sub ((List.erase_sublist).map _)
      have op := ok _ (barAt_mem k1)
      have oi := ok _ (barAt_mem q1)
      have sl2 : Slim n ((lj.erase i).map (barAt nb) ++ [barAt nb p.1]) := (slim_snoc sle op.1 op.2.1 op.2.2).mpr fun ⟨S, tS, s1, s2⟩ => by
        have tS2 : Tight n (lj.map (barAt nb)) S := tS.mono (by rw [ie]; exact Nat.le_add_right _ _) k4
        have z := ie S
        rw [t4 S tS2 s1 s2 _ oi.1 q2, t4 S tS2 s1 s2 _ oi.2.1 q3] at z
        have := tS.2
        have := tS2.2
        simp at z
        omega
      refine spn_hld (K := (lj.erase i).map (barAt nb) ++ [barAt nb p.1]) ((barAt_ok ok fun a ha => k3 a (List.mem_of_mem_erase ha)).app fun c hc => by rw [List.mem_singleton.mp hc]; exact op) sl2 (ok.sub (List.eraseIdx_sublist _ _)) (fun x hx => ?_) oi.1 oi.2.1 oi.2.2 ⟨T, ⟨t1.1, ?_⟩, q2, q3⟩
      · rcases List.mem_append.mp hx with hx | hx
        · obtain ⟨a, ha, rfl⟩ := List.mem_map.mp hx
          exact erase_mem (k3 a (List.mem_of_mem_erase ha)) ((List.Nodup.mem_erase_iff knd).mp ha).1
        · rw [List.mem_singleton.mp hx]
          exact erase_mem k1 fun e => k5 (e ▸ q4)
      · have z := ie T
        rw [q2, q3] at z
        have a := ins_append ((lj.erase i).map (barAt nb)) (barAt nb p.1) T
        rw [t2, t3, Bool.and_self, if_pos rfl] at a
        have := t1.2
        simp at z
        omega
  · by_cases hno : ∃ p ∈ tiedL nb (List.replicate n []) os [], i ∈ p.2
    · exact hno
    · exfalso
      have him : i ∈ os := hp.mem_iff.mpr (List.mem_range.mpr hi)
      have hiF : i ∈ F := by
        rcases h4 i him with h | ⟨p, hpm, e⟩
        · exact h
        · exact (hno ⟨p, hpm, by rw [← e]; exact (key p hpm).2.2.1⟩).elim
      have okF := barAt_ok ok hF
      have okE := barAt_ok ok fun a (ha : a ∈ F.erase i) => hF a (List.mem_of_mem_erase ha)
      have slE : Slim n ((F.erase i).map (barAt nb)) := h3.sub ((List.erase_sublist).map _)
      have oke : Ok n (nb.eraseIdx i) := ok.sub (List.eraseIdx_sublist _ _)
      have all : ∀ j, j < nb.length → j ≠ i → Spn n ((F.erase i).map (barAt nb)) (barAt nb j).1 (barAt nb j).2 := fun j hj ne => by
        rcases h4 j (hp.mem_iff.mpr (List.mem_range.mpr hj)) with h | ⟨p, hpm, e⟩
        · exact bar_spn okE slE (List.mem_map.mpr ⟨j, (List.mem_erase_of_ne ne).mpr h, rfl⟩)
        · subst e
          obtain ⟨_, _, lj, g3, _, T, t1, t2, t3, t4, t5⟩ := h5 p hpm
          have nin : ¬ i ∈ p.2 := fun z => hno ⟨p, hpm, z⟩
          refine ⟨T, t1.mono ?_ slE, t2, t3⟩
          by_cases q : i ∈ lj
          · have ni : ¬ (T (barAt nb i).1 = true ∧ T (barAt nb i).2 = true) := fun z => nin ((t5 i).mpr ⟨hi, z, .inr q⟩)
            have pe : (lj.map (barAt nb)).Perm (barAt nb i :: (lj.erase i).map (barAt nb)) := (List.perm_cons_erase q).map _
            rw [ins_perm pe, ins_cons]
            have e0 : (T (barAt nb i).1 && T (barAt nb i).2).toNat = 0 := by
              cases z1 : T (barAt nb i).1 <;> cases z2 : T (barAt nb i).2 <;> first | rfl | exact (ni ⟨z1, z2⟩).elim
            rw [e0]
            exact ins_sub ((List.Sublist.erase i g3).map _) T
          · have e1 : lj = lj.erase i := (List.erase_of_not_mem q).symm
            rw [e1]
            exact ins_sub ((List.Sublist.erase i g3).map _) T
      have r1 : rk n (nb.eraseIdx i) ≤ ((F.erase i).map (barAt nb)).length := span_le okE slE (basis_ok oke) (basis_slim n _) fun x hx => by
        have hx2 := (pickB_sub _ []).subset hx
        obtain ⟨j, hj, ne, e⟩ := List.mem_eraseIdx_iff_getElem.mp hx2
        rw [← e, ← barAt_get hj]
        exact all j hj ne
      have r2 : (F.map (barAt nb)).length ≤ rk n nb := rk_max ok okF h3 fun x hx => by
        obtain ⟨j, hj, rfl⟩ := List.mem_map.mp hx
        exact hld_bar ok (barAt_mem (hF j hj))
      have r3 := ((rk_less ok hi).1 (by rw [← barAt_get hi]; exact hh)).1
      rw [List.length_map, List.length_erase_of_mem hiF] at r1
      rw [List.length_map] at r2
      have : 0 < F.length := List.length_pos_of_mem hiF
      omega
/-- the last one of an order is tied just where the others hold it -/
theorem tied_last (ok : Ok n nb) {os : List Nat} {i : Nat} (hp : (os ++ [i]).Perm (List.range nb.length)) (hi : i < nb.length) :
    (∃ p ∈ tiedL nb (List.replicate n []) (os ++ [i]) [], p.1 = i) ↔ Hld n (nb.eraseIdx i) (barAt nb i).1 (barAt nb i).2 := by
  obtain ⟨h1, h2⟩ := tied_iff ok hp hi
  constructor
  · rintro ⟨p, hpm, rfl⟩
    exact (h2 p hpm).2.1
  · intro h
    obtain ⟨p, hpm, hip⟩ := h1.mpr h
    refine ⟨p, hpm, ?_⟩
    obtain ⟨_, _, _, lj, _, _, _, _, ⟨T, _, _, _, _, t5⟩, pre, post, e, hpre⟩ := h2 p hpm
    rcases ((t5 i).mp hip).2.2 with q | q
    · exact q.symm
    · exfalso
      have nd : (os ++ [i]).Nodup := hp.nodup_iff.mpr List.nodup_range
      have hpi := hpre i q
      rcases List.eq_nil_or_concat post with rfl | ⟨post', x, rfl⟩
      · have := List.append_inj' e rfl
        have e2 : i = p.1 := by simpa using this.2
        have : os = pre := this.1
        subst this
        exact (List.nodup_append.mp nd).2.2 i hpi i (List.mem_singleton.mpr rfl) rfl
      · have e' : os ++ [i] = (pre ++ p.1 :: post') ++ [x] := by rw [e]; simp
        have := List.append_inj' e' rfl
        have e1 := this.1
        have : i ∈ os := by rw [e1]; exact List.mem_append_left _ hpi
        exact (List.nodup_append.mp nd).2.2 i this i (List.mem_singleton.mpr rfl) rfl
end
end Fr

/-! Dicts of the region: their values, d.get(k) of a new one, a key's new value that is looked up. -/
namespace Pl
open PySem PySem.Spec PyProof.Rows L2
open Evl (Ex)
section
variable {K : PySem.W.Frag} {S0 H0 S H S' H' : Hp} {σ : L2.St} {ρ ρ' ρ1 ρv : Rho} {g g' g1 g2 gl gr : Gs} {F G : FM} {t u : TS} {te ti td tx tk tv ty : TE} {tA : TA} {c : TT} {d : D} {es ds : List D} {ms : List M} {m m1 m2 : M} {a : Addr} {π : List Nat} {Dd : Ends} {i j : Nat} {b : Bool} {r : Rs} {E : XK} {s : Shp}
theorem ei_vals {ks : List L2.Key} (h : EvD K td ρ (.fv ks ds)) : EvI K (iVals td) ρ ds := fun S H σ e v R q =>
  h S H σ e v _ fun w S1 H1 x1 r1 => by
    cases r1 with
    | fv ha hl rl =>
      rename_i p o xs
      have hz : (ks.zip xs).length = ds.length := by rw [List.length_zip, hl, Nat.min_self, rl.length]
      refine ⟨p, o, ks.zip xs, rfl, x1.sub _ _ ha, q _ S1 H1 x1 ⟨fun S' H' i e1 e2 hi => ⟨e2 _ _ (e1 _ _ ha), by rw [hz]; exact hi⟩, fun S' H' i x H'' d e1 e2 hd y => ?_, fun S' H' e1 e2 => ⟨e2 _ _ (e1 _ _ ha), by rw [hz]; exact Nat.le_refl _⟩⟩⟩
      obtain ⟨rfl, k, h1⟩ := y
      obtain ⟨u, hu, ru⟩ := rl.get hd
      have z := congrArg (Option.map Prod.snd) h1
      rw [← List.getElem?_map] at z
      have hs : (ks.zip xs).map Prod.snd = xs := List.map_snd_zip (by rw [hl]; exact Nat.le_refl _)
      rw [hs, hu] at z
      have z : some u = some x := z
      cases z
      exact ⟨S', Ext.refl e2, ru.mono e1⟩
/-- a fresh list from the values of a dict of the region -/
theorem EvX.vals {p : Addr} {ns : List Int} (hp : List.Perm g (g1 ++ [(p, .n (.dic (ik ns)) (ds.map M.d))])) (hi : ρ[i]? = some (.k (.adr p))) (hv : View g1 ρ ρv) (h : EvF K te (ρv.set i (.k (.fv (ik ns) ds))) es) (hf : ∀ d ∈ es, d.flat = true) : EvX K (tLockE te) ρ g (.o es) g := fun S0 H0 S H σ st Q q => by
  obtain ⟨S2, e1, e2, ev, sp⟩ := st.look1 (m := .d .non) hp hv
  obtain ⟨fp, rg, s0⟩ := id st
  obtain ⟨f, hfp, o⟩ := rg.own.mem (a := p) (m := .n (.dic (ik ns)) (ds.map M.d)) (hp.mem_iff.mpr (by simp))
  cases o with
  | n h1 h2 h3 =>
    rename_i ho vs fq
    obtain ⟨hl, eo⟩ := h2
    subst eo
    obtain ⟨v0, g1', g2'⟩ := st.env.val i _ hi
    cases g2'
    refine ⟨p, _, h1, trivial, fun od => ?_⟩
    have ex3 : Ex S2 (upd S2 p (.frz od (.dK ((ik ns).zip vs)))) := Ex.new sp
    have sub3 : Ex (upd S2 p (.frz od (.dK ((ik ns).zip vs)))) (upd H p (.frz od (.dK ((ik ns).zip vs)))) := fun a o e => by
      by_cases ha : a = p
      · subst ha; rw [upd_same] at e ⊢; exact e
      · rw [upd_ne ha] at e ⊢; exact e2 a o e
    have ev3 : Env K (upd S2 p (.frz od (.dK ((ik ns).zip vs)))) σ (ρv.set i (.k (.fv (ik ns) ds))) := by
      have z := (ev.mono ex3).set (i := i) (d := .fv (ik ns) ds) (v := .ref p) (.fv upd_same hl ((h3.toD.2.mono e1).mono ex3))
      rw [show σ.set i (some (.ref p)) = σ from List.ext_getElem? fun q => by
        by_cases hq : i = q
        · subst hq
          by_cases hl : i < σ.length
          · rw [List.getElem?_set_self hl, g1']
          · rw [List.getElem?_eq_none (by rw [List.length_set]; omega), List.getElem?_eq_none (by omega)]
        · rw [List.getElem?_set_ne hq]] at z
      exact z
    refine h _ _ σ sub3 ev3 _ fun q2 ws S4 H4 x hq2 sq h4 rl => ?_
    have e4 : H4 p = some (.frz od (.dK ((ik ns).zip vs))) := x.h p _ upd_same
    refine ⟨e4, ?_⟩
    have nq : q2 ≠ p := fun z => by rw [z, upd_same] at hq2; cases hq2
    have hq0 : H q2 = none := by rw [upd_ne nq] at hq2; exact hq2
    have h4' : (upd H4 p (.dK ((ik ns).zip vs))) q2 = some (.lst ws) := by rw [upd_ne nq]; exact h4
    have S5 : ∃ S5 : Hp, Ex S S5 ∧ Ex S5 (upd H4 p (.dK ((ik ns).zip vs))) ∧ S5 q2 = none := by
      refine ⟨fun a => if a = p then none else S4 a, fun a o e => ?_, fun a o e => ?_, ?_⟩
      · have ha : a ≠ p := fun z => by subst z; rw [e1 _ _ e] at sp; cases sp
        show (if a = p then none else S4 a) = some o
        rw [if_neg ha]
        exact x.s a o (ex3 a o (e1 a o e))
      · by_cases ha : a = p
        · have e : (if a = p then none else S4 a) = some o := e
          rw [if_pos ha] at e; cases e
        · have e : (if a = p then none else S4 a) = some o := e
          rw [if_neg ha] at e
          rw [upd_ne ha]
          exact x.sub a o e
      · show (if q2 = p then none else S4 q2) = none
        rw [if_neg nq]
        exact sq
    obtain ⟨S5, a1, a2, a3⟩ := S5
    have eH : Ex H (upd H4 p (.dK ((ik ns).zip vs))) := fun a o e => by
      by_cases ha : a = p
      · subst ha; rw [upd_same, ← h1]; exact e
      · rw [upd_ne ha]
        exact x.h a o (by rw [upd_ne ha]; exact e)
    have xx := ext_woH a1 eH a2
    obtain ⟨rg', s'⟩ := rg.go s0 xx
    exact q _ _ _ xx.s (SG.besideF rg s0 hq0 rg' s' (woH_none a3) h4' (rl.flat hf))
/-- d.get(k) of a new dict -/
theorem EvX.dget1 {ns : List Int} {k : Int} (h : EvX K td ρ g (.t (.n (.dic (ik ns)) (ds.map M.d))) g') (hk : EvD K ty ρ (.int k)) (hd : (∃ j, ns[j]? = some k ∧ (∀ q : Nat, q < j → ns[q]? ≠ some k) ∧ ds[j]? = some d) ∨ (k ∉ ns ∧ d = .non)) : EvX K (tDGet1 td ty) ρ g (.d d) g' := fun S0 H0 S H σ st Q q =>
  h S0 H0 S H σ st _ fun v S1 H1 e z => by
    obtain ⟨p, ev, st1⟩ := z
    subst ev
    obtain ⟨fp, rg, s1⟩ := id st1
    obtain ⟨f, hf, o⟩ := rg.own.mem (a := p) (m := .n (.dic (ik ns)) (ds.map M.d)) (by simp)
    cases o with
    | n h1 h2 h3 =>
      rename_i ho vs fq
      obtain ⟨hl, eo⟩ := h2
      subst eo
      obtain ⟨_, rl⟩ := h3.toD
      have hl2 : ns.length = vs.length := by rw [← hl]; exact (List.length_map _).symm
      refine ⟨p, rfl, .inl ⟨_, .inl h1⟩, hk S1 H1 σ st1.sub st1.env _ fun w S2 H2 x2 r2 => ?_⟩
      cases r2
      have st2 := (SG.forget st1).go x2
      rcases hd with ⟨j, k1, k2, k3⟩ | ⟨k1, rfl⟩
      · obtain ⟨y, hy, ry⟩ := rl.get k3
        refine ⟨some y, .inl ⟨_, .inl k, .inl (x2.h _ _ h1), rfl, ?_⟩, q y S2 H2 (e.trans x2.s) ⟨st2, ry.mono x2.s⟩⟩
        rw [valV_zip hl2 k1 k2, hy]
      · exact ⟨none, .inl ⟨_, .inl k, .inl (x2.h _ _ h1), rfl, (valV_out hl2 k1).symm⟩, q .non S2 H2 (e.trans x2.s) ⟨st2, .non⟩⟩
/-- d[k] = v of a new key, v looked up -/
theorem TM.dputX {ns : List Int} {k : Int} (hv : EvX K tv ρ g (.d d) g) (hp : EvP K td ρ g a m π) (hk : EvD K ty ρ (.int k)) (hg : g = gl ++ (a, m) :: gr) (hat : M.at π m = some (.n (.dic (ik ns)) (ds.map M.d))) (hn : k ∉ ns) (hl : ns.length < 100000)
    (kk : F.nx ρ (gl ++ (a, M.put (.n (.dic (ik (ns ++ [k]))) ((ds ++ [d]).map M.d)) π m) :: gr)) : TM K (sDPut td ty tv) ρ g F := fun S0 H0 S H σ Dd st ac =>
  hv S0 H0 S H σ st _ fun v S1 H1 ex1 z => by
    obtain ⟨st1, r1⟩ := z
    refine hp S0 H0 S1 H1 σ st1 _ fun u S2 H2 x2 l => ?_
    have st2 := st1.go x2
    refine hk S2 H2 σ st2.sub st2.env _ fun w S3 H3 x3 r3 => ?_
    cases r3
    have st3 := st2.go x3
    obtain ⟨p, o, vs, fq, e1, e2, _, e3, e4, e5, wr⟩ := st3.write hg (l.mono x3.h) hat
    obtain ⟨e6, e7⟩ := e4.toD
    obtain ⟨e8, e9⟩ := e3
    subst e1
    subst e9
    subst e6
    have hl2 : ns.length = vs.length := by rw [← e8]; exact (List.length_map _).symm
    refine ⟨p, _, rfl, .inl ⟨_, .inl k, e2, rfl, Evl.sz_lt (by rw [List.length_zip]; unfold ik; rw [List.length_map]; omega), rfl⟩, ?_⟩
    refine ac.nx _ _ S3 _ σ kk ((ex1.trans x2.s).trans x3.s) (wr _ (.dic (ik (ns ++ [k]))) (vs ++ [v]) _ [] ⟨?_, ?_⟩ (OwnL.ofD (e7.append (.cons (r1.mono (x2.s.trans x3.s)) .nil))) (List.Sublist.refl _))
    · unfold ik
      rw [List.length_map, List.length_append, List.length_append, hl2]
      rfl
    · rw [putK_new v (valV_out hl2 hn)]
      unfold ik
      rw [List.map_append, List.zip_append (by rw [List.length_map]; exact hl2)]
      rfl
theorem em_dnew : EvM K tDNewK ρ (.n (.dic []) []) := fun S H σ e v Q q => fun p hp =>
  q p [p] S _ (Ext.hid e hp) (.n (o := .dK []) (vs := []) (fp := []) upd_same ⟨rfl, rfl⟩ .nil) (by simp) fun a ha => by
    rw [List.mem_singleton.mp ha]
    exact ⟨hp, sub_none e hp⟩
end
theorem nD_kI (l : List Nat) : nD l = (kI l).map D.int := by unfold nD kI; rw [List.map_map]; rfl
theorem nD_len (l : List Nat) : (nD l).length = l.length := by unfold nD; rw [List.length_map]
def tiedM (l : List (Nat × List Nat)) : M := .n (.dic (ik (kI (l.map (·.1))))) ((l.map fun p => D.lst (nD p.2)).map M.d)
open Classical in
/-- the bars that are too many -/
noncomputable def manyL (n : Nat) (nb : List Fr.Bar) : List Nat := (List.range nb.length).filter fun i => decide (Fr.Hld n (nb.eraseIdx i) (Fr.barAt nb i).1 (Fr.barAt nb i).2)
open Classical in
theorem manyL_mem {n : Nat} {nb : List Fr.Bar} {i : Nat} : i ∈ manyL n nb ↔ i < nb.length ∧ Fr.Hld n (nb.eraseIdx i) (Fr.barAt nb i).1 (Fr.barAt nb i).2 := by
  unfold manyL
  rw [List.mem_filter, List.mem_range, decide_eq_true_eq]
theorem manyL_rise (n : Nat) (nb : List Fr.Bar) : (manyL n nb).Pairwise (· < ·) := List.pairwise_lt_range.filter _
theorem manyL_len (n : Nat) (nb : List Fr.Bar) : (manyL n nb).length ≤ nb.length := by
  unfold manyL
  exact Nat.le_trans (List.length_filter_le _ _) (by rw [List.length_range]; exact Nat.le_refl _)
def orderBut (m i : Nat) : List Nat := (List.range m).filter (fun a => !decide (a = i)) ++ [i]
theorem orderBut_perm {m i : Nat} (h : i < m) : (orderBut m i).Perm (List.range m) := by
  unfold orderBut
  have nd : ((List.range m).filter (fun a => !decide (a = i)) ++ [i]).Nodup := List.nodup_append.mpr ⟨List.nodup_range.filter _, by simp, fun a ha b hb e => by
    rw [List.mem_singleton.mp hb] at e
    subst e
    simpa using (List.mem_filter.mp ha).2⟩
  refine (List.perm_ext_iff_of_nodup nd List.nodup_range).mpr fun x => ?_
  rw [List.mem_append, List.mem_filter, List.mem_singleton]
  simp only [List.mem_range, Bool.not_eq_true', decide_eq_false_iff_not]
  constructor
  · rintro (⟨h1, _⟩ | rfl)
    · exact h1
    · exact h
  · intro hx
    by_cases q : x = i
    · exact .inr q
    · exact .inl ⟨hx, q⟩
/-- the knot told of a bar -/
def knotOf (n : Nat) (nb : List Fr.Bar) (i : Nat) : Option (Nat × List Nat) := (Fr.tiedL nb (List.replicate n []) (orderBut nb.length i) []).find? fun p => decide (p.1 = i)
def knotD (n : Nat) (nb : List Fr.Bar) (i : Nat) : D := match knotOf n nb i with
  | none => .non
  | some p => .lst (nD p.2)
end Pl

/-! The worth, the parts, and the bars that are too many: one bar less, one bar more. -/
namespace Fr
section
variable {n : Nat} {nb as bs : List Bar}
theorem rk_slim : rk n nb = nb.length ↔ Slim n nb := by
  constructor
  · intro h
    have e : pickB n [] nb = nb := (pickB_sub nb []).eq_of_length h
    rw [← e]
    exact basis_slim n nb
  · intro h
    unfold rk
    rw [basis_all h]
theorem rk_le (n : Nat) (nb : List Bar) : rk n nb ≤ nb.length := (pickB_sub nb []).length_le
/-- bars that are not lean: one is held by others -/
theorem not_slim_hld (ok : Ok n nb) (h : ¬ Slim n nb) : ∃ i, i < nb.length ∧ Hld n (nb.eraseIdx i) (barAt nb i).1 (barAt nb i).2 := by
  obtain ⟨m, h1, h2⟩ := least_ex (p := fun m => ¬ Slim n (nb.take m)) nb.length (by rwa [List.take_length])
  obtain ⟨i, rfl⟩ : ∃ i, m = i + 1 := by
    cases m with
    | zero => exact (h1 (by rw [List.take_zero]; exact Pl.slim_nil n)).elim
    | succ i => exact ⟨i, rfl⟩
  have sl : Slim n (nb.take i) := by
    by_cases q : Slim n (nb.take i)
    · exact q
    · exact (h2 i (Nat.lt_succ_self i) q).elim
  have hi : i < nb.length := by
    by_cases q : i < nb.length
    · exact q
    · exact (h1 (by rw [List.take_of_length_le (by omega)]; rw [List.take_of_length_le (by omega)] at sl; exact sl)).elim
  have e : nb.take (i + 1) = nb.take i ++ [barAt nb i] := by rw [barAt_get hi]; exact (List.take_append_getElem hi).symm
  rw [e] at h1
  have o := ok _ (barAt_mem hi)
  have sp : Spn n (nb.take i) (barAt nb i).1 (barAt nb i).2 := by
    by_cases q : Spn n (nb.take i) (barAt nb i).1 (barAt nb i).2
    · exact q
    · exact (h1 ((slim_snoc sl o.1 o.2.1 o.2.2).mpr q)).elim
  refine ⟨i, hi, spn_hld (ok.sub (List.take_sublist _ _)) sl (ok.sub (List.eraseIdx_sublist _ _)) (fun x hx => ?_) o.1 o.2.1 o.2.2 sp⟩
  obtain ⟨j, hj, ej⟩ := List.mem_iff_getElem.mp hx
  rw [List.length_take] at hj
  rw [List.getElem_take] at ej
  have := erase_mem (nb := nb) (i := i) (j := j) (by omega) (by omega)
  rw [barAt_get (by omega)] at this
  rw [← ej]
  exact this
theorem slim_not_hld (ok : Ok n nb) (h : Slim n nb) {i : Nat} (hi : i < nb.length) : ¬ Hld n (nb.eraseIdx i) (barAt nb i).1 (barAt nb i).2 := fun q => by
  have r := ((rk_less ok hi).1 (by rw [← barAt_get hi]; exact q)).1
  have r1 := rk_slim.mpr h
  have r2 := rk_le n (nb.eraseIdx i)
  rw [List.length_eraseIdx_of_lt hi] at r2
  omega
theorem part_congr {K L : List Bar} (h : ∀ a b, a < n → b < n → a ≠ b → (Spn n K a b ↔ Spn n L a b)) {a b c : Nat} (ha : a < n) (hb : b < n) (hc : c < n) : part n K a b c = part n L a b c := by
  have e : part n K a b c = true ↔ part n L a b c = true := by
    rw [part_iff, part_iff]
    by_cases q1 : c = a
    · exact ⟨fun _ => .inl q1, fun _ => .inl q1⟩
    by_cases q2 : c = b
    · exact ⟨fun _ => .inr (.inl q2), fun _ => .inr (.inl q2)⟩
    rw [h a c ha hc (Ne.symm q1), h b c hb hc (Ne.symm q2)]
  cases h1 : part n K a b c <;> cases h2 : part n L a b c <;> simp_all
theorem ld_congr {K L : List Bar} (h : ∀ a b, a < n → b < n → a ≠ b → (Spn n K a b ↔ Spn n L a b)) (a b : Nat) : Ld n K a b ↔ Ld n L a b := by
  constructor
  · rintro ⟨h1, h2, h3, h4⟩
    exact ⟨h1, h2, (h a b (by omega) h2 (by omega)).mp h3, fun c hc p => h4 c hc (by rw [part_congr h (by omega) h2 hc]; exact p)⟩
  · rintro ⟨h1, h2, h3, h4⟩
    exact ⟨h1, h2, (h a b (by omega) h2 (by omega)).mpr h3, fun c hc p => h4 c hc (by rw [← part_congr h (by omega) h2 hc]; exact p)⟩
theorem ldrs_congr {K L : List Bar} (h : ∀ a b, a < n → b < n → a ≠ b → (Spn n K a b ↔ Spn n L a b)) : ldrs n K = ldrs n L := by
  unfold ldrs
  congr 1
  funext a
  congr 1
  refine List.filter_congr fun b _ => ?_
  exact decide_eq_decide.mpr (ld_congr h a b)
end
end Fr
namespace Pl
open PySem PySem.Spec PyProof.Rows L2
section
variable {n : Nat} {nb as bs : List Fr.Bar}
theorem parts_congr (h : ∀ a b, a < n → b < n → a ≠ b → (Fr.Hld n as a b ↔ Fr.Hld n bs a b)) : partsL n as = partsL n bs := by
  unfold partsL
  rw [Fr.ldrs_congr h]
  refine List.map_congr_left fun p hp => ?_
  obtain ⟨h1, h2, _⟩ := Fr.ldrs_mem.mp hp
  unfold partL
  exact List.filter_congr fun c hc => Fr.part_congr h (by omega) h2 (List.mem_range.mp hc)
theorem many_nil (ok : Fr.Ok n nb) : manyL n nb = [] ↔ Fr.Slim n nb := by
  constructor
  · intro h
    by_cases q : Fr.Slim n nb
    · exact q
    · obtain ⟨i, hi, hh⟩ := Fr.not_slim_hld ok q
      have := manyL_mem.mpr ⟨hi, hh⟩
      rw [h] at this
      cases this
  · intro h
    cases e : manyL n nb with
    | nil => rfl
    | cons i r =>
      have : i ∈ manyL n nb := by rw [e]; exact List.mem_cons_self
      obtain ⟨hi, hh⟩ := manyL_mem.mp this
      exact (Fr.slim_not_hld ok h hi hh).elim
theorem knot_none (ok : Fr.Ok n nb) {i : Nat} (hi : i < nb.length) : knotD n nb i = .non ↔ ¬ Fr.Hld n (nb.eraseIdx i) (Fr.barAt nb i).1 (Fr.barAt nb i).2 := by
  have pm := orderBut_perm hi
  unfold orderBut at pm
  have h := Fr.tied_last ok pm hi
  unfold knotD knotOf orderBut
  constructor
  · intro e q
    obtain ⟨p, hp, ep⟩ := h.mpr q
    cases f : (Fr.tiedL nb (List.replicate n []) ((List.range nb.length).filter (fun a => !decide (a = i)) ++ [i]) []).find? fun p => decide (p.1 = i) with
    | none =>
      have := List.find?_eq_none.mp f p hp
      simp [ep] at this
    | some p => rw [f] at e; cases e
  · intro q
    cases f : (Fr.tiedL nb (List.replicate n []) ((List.range nb.length).filter (fun a => !decide (a = i)) ++ [i]) []).find? fun p => decide (p.1 = i) with
    | none => rfl
    | some p => exact (q (h.mp ⟨p, List.mem_of_find?_eq_some f, by have z := List.find?_some f; simpa using z⟩)).elim
/-- without a bar -/
theorem rk_without (ok : Fr.Ok n nb) {i : Nat} (hi : i < nb.length) : (Fr.rk n (nb.eraseIdx i) : Int) = (Fr.rk n nb : Int) - (if !decide (i ∈ manyL n nb) then 1 else 0) := by
  obtain ⟨h1, h2⟩ := Fr.rk_less ok hi
  rw [← Fr.barAt_get hi] at h1 h2
  by_cases q : i ∈ manyL n nb
  · have := (h1 (manyL_mem.mp q).2).1
    rw [decide_eq_true q]
    simp
    omega
  · have := h2 fun z => q (manyL_mem.mpr ⟨hi, z⟩)
    rw [decide_eq_false q]
    simp
    omega
theorem parts_without (ok : Fr.Ok n nb) {i : Nat} (hi : i < nb.length) (q : i ∈ manyL n nb) : partsL n (nb.eraseIdx i) = partsL n nb :=
  parts_congr ((Fr.rk_less ok hi).1 (by rw [← Fr.barAt_get hi]; exact (manyL_mem.mp q).2)).2
theorem erase_cut (nb : List Fr.Bar) (i : Nat) : nb.take i ++ nb.drop (i + 1) = nb.eraseIdx i := (List.eraseIdx_eq_take_drop_succ nb i).symm
theorem erase_last (nb : List Fr.Bar) (x : Fr.Bar) : (nb ++ [x]).eraseIdx nb.length = nb := by
  rw [List.eraseIdx_append_of_length_le (Nat.le_refl _), Nat.sub_self]
  simp
theorem barAt_last (nb : List Fr.Bar) (x : Fr.Bar) : Fr.barAt (nb ++ [x]) nb.length = x := by
  unfold Fr.barAt
  simp [List.getD]
end
theorem rc_int1 {K : PySem.W.Frag} {k : Bool} : RC K (fun xs H Q => (∃ i, xs = [V.int i] ∧ Q (.int i) H) ∨ ∃ k, xs = [V.bl k] ∧ Q (.int (if k then 1 else 0)) H) [.bl k] (.int (if k then 1 else 0)) := fun S H vs e r Q q => by
  cases r with
  | cons h t =>
    cases t
    cases h
    exact .inr ⟨k, rfl, q _ S H (Ext.refl e) (.int _)⟩
end Pl
namespace Pl
open PySem PySem.Spec PyProof.Rows L2
theorem size_3 (a b : Int) : Builtin.Range.rangeSize a b 3 = if a < b then (b - a - 1) / 3 + 1 else 0 := by
  unfold Builtin.Range.rangeSize
  rw [if_pos (by decide)]
theorem small_3 {a b : Int} (ha : 0 ≤ a) (ha' : a ≤ 1000) (hb : 0 ≤ b) (hb' : b ≤ 1000) : Builtin.Range.small a b 3 = true := by
  unfold Builtin.Range.small
  rw [size_3, if_pos (show (3 : Int) > 0 by decide)]
  have q1 : 0 ≤ (b - a - 1) / 3 + 1 ∨ ¬ a < b := by omega
  have q2 : (b - a - 1) / 3 + 1 ≤ 1001 := by omega
  generalize (b - a - 1) / 3 + 1 = n at q1 q2
  simp only [Builtin.Range.rangeFitsLong, Bool.and_eq_true, Bool.or_eq_true, decide_eq_true_eq, beq_iff_eq]
  split <;> omega
theorem rgc3 (a b : Nat) (ha : a ≤ 1000) (hb : b ≤ 1000) : ∃ n : Nat, RgC (a : Int) (b : Int) 3 n ∧ n ≤ 1000 ∧ ∀ i : Nat, i < n → a + i * 3 < b := by
  refine ⟨if a < b then (b - a - 1) / 3 + 1 else 0, ⟨by decide, by decide, small_3 (by omega) (by omega) (by omega) (by omega), ?_⟩, by split <;> omega, fun i hi => by split at hi <;> omega⟩
  rw [size_3]
  split <;> split <;> omega
theorem size_5 (a b : Int) : Builtin.Range.rangeSize a b 5 = if a < b then (b - a - 1) / 5 + 1 else 0 := by
  unfold Builtin.Range.rangeSize
  rw [if_pos (by decide)]
theorem small_5 {a b : Int} (ha : 0 ≤ a) (ha' : a ≤ 1000) (hb : 0 ≤ b) (hb' : b ≤ 1000) : Builtin.Range.small a b 5 = true := by
  unfold Builtin.Range.small
  rw [size_5, if_pos (show (5 : Int) > 0 by decide)]
  have q1 : 0 ≤ (b - a - 1) / 5 + 1 ∨ ¬ a < b := by omega
  have q2 : (b - a - 1) / 5 + 1 ≤ 1001 := by omega
  generalize (b - a - 1) / 5 + 1 = n at q1 q2
  simp only [Builtin.Range.rangeFitsLong, Bool.and_eq_true, Bool.or_eq_true, decide_eq_true_eq, beq_iff_eq]
  split <;> omega
theorem rgc5 (a b : Nat) (ha : a ≤ 1000) (hb : b ≤ 1000) : ∃ n : Nat, RgC (a : Int) (b : Int) 5 n ∧ n ≤ 1000 ∧ ∀ i : Nat, i < n → a + i * 5 < b := by
  refine ⟨if a < b then (b - a - 1) / 5 + 1 else 0, ⟨by decide, by decide, small_5 (by omega) (by omega) (by omega) (by omega), ?_⟩, by split <;> omega, fun i hi => by split at hi <;> omega⟩
  rw [size_5]
  split <;> split <;> omega
/-- lists of lists of numbers, compared -/
theorem rowsD_eq {as bs : List (List Nat)} : as.map rowD = bs.map rowD ↔ as = bs := by
  refine (List.map_inj_right fun x y h => ?_)
  have h : D.lst (nD x) = D.lst (nD y) := h
  injection h with h
  exact (List.map_inj_right fun a b e => by injection e with e; omega).mp h
theorem rows_okd (as : List (List Nat)) : (D.lst (as.map rowD)).okd 60 = true := by
  refine List.all_eq_true.mpr fun x hx => ?_
  obtain ⟨l, _, rfl⟩ := List.mem_map.mp hx
  exact List.all_eq_true.mpr fun y hy => by obtain ⟨i, _, rfl⟩ := List.mem_map.mp hy; rfl
theorem rows_sm (as : List (List Nat)) : (D.lst (as.map rowD)).sm 60 = true := by
  refine List.all_eq_true.mpr fun x hx => ?_
  obtain ⟨l, _, rfl⟩ := List.mem_map.mp hx
  exact List.all_eq_true.mpr fun y hy => by obtain ⟨i, _, rfl⟩ := List.mem_map.mp hy; rfl
theorem rv_eqRows {K : PySem.W.Frag} {as bs : List (List Nat)} : RV K (rEqD K) (.lst (as.map rowD)) (.lst (bs.map rowD)) (.bl (decide (as = bs))) :=
  rv_eqS (rows_okd as) (rows_okd bs) (rows_sm as) (rows_sm bs) (by rw [decide_eq_true_eq, D.lst.injEq, rowsD_eq])
theorem rv_neRows {K : PySem.W.Frag} {as bs : List (List Nat)} : RV K (rNeD K) (.lst (as.map rowD)) (.lst (bs.map rowD)) (.bl (!decide (as = bs))) :=
  rv_neS (rows_okd as) (rows_okd bs) (rows_sm as) (rows_sm bs) (by rw [decide_eq_true_eq, D.lst.injEq, rowsD_eq])
end Pl
namespace Pl
def pOne (u : Int) (n : Nat) : Nat := (u % (n : Int)).toNat
def pOther (u v : Int) (n : Nat) : Nat := (((pOne u n : Int) + 1 + v % ((n : Int) - 1)) % (n : Int)).toNat
theorem pPair (u v : Int) {n : Nat} (h : 2 ≤ n) : ((pOne u n : Nat) : Int) = u % (n : Int) ∧ ((pOther u v n : Nat) : Int) = ((pOne u n : Int) + 1 + v % ((n : Int) - 1)) % (n : Int) ∧ pOne u n < n ∧ pOther u v n < n ∧ pOne u n ≠ pOther u v n := by
  have a1 := Int.emod_nonneg u (show (n : Int) ≠ 0 by omega)
  have a2 := Int.emod_lt_of_pos u (show (0 : Int) < (n : Int) by omega)
  have e1 : ((pOne u n : Nat) : Int) = u % (n : Int) := by unfold pOne; omega
  have b1 := Int.emod_nonneg ((pOne u n : Int) + 1 + v % ((n : Int) - 1)) (show (n : Int) ≠ 0 by omega)
  have b2 := Int.emod_lt_of_pos ((pOne u n : Int) + 1 + v % ((n : Int) - 1)) (show (0 : Int) < (n : Int) by omega)
  have e2 : ((pOther u v n : Nat) : Int) = ((pOne u n : Int) + 1 + v % ((n : Int) - 1)) % (n : Int) := by unfold pOther; omega
  refine ⟨e1, e2, by omega, by omega, fun e => ?_⟩
  have c1 := Int.emod_nonneg v (show (n : Int) - 1 ≠ 0 by omega)
  have c2 := Int.emod_lt_of_pos v (show (0 : Int) < (n : Int) - 1 by omega)
  generalize v % ((n : Int) - 1) = t at *
  by_cases l : (pOne u n : Int) + 1 + t < n
  · rw [Int.emod_eq_of_lt (by omega) l] at e2
    omega
  · rw [← Int.sub_emod_right, Int.emod_eq_of_lt (by omega) (by omega)] at e2
    omega
theorem brs_take (nb : List Fr.Bar) (k : Nat) : (brs nb).take k = brs (nb.take k) := by unfold brs; rw [List.map_take, List.map_take]
theorem brs_drop (nb : List Fr.Bar) (k : Nat) : (brs nb).drop k = brs (nb.drop k) := by unfold brs; rw [List.map_drop, List.map_drop]
def crowdD (n : Nat) (nb : List Fr.Bar) : D := match crowdL (List.replicate n []) nb with
  | none => .non
  | some ks => .lst ((kI (sortN ks)).map D.int)
theorem crowdD_iff {n : Nat} {nb : List Fr.Bar} (ok : Fr.Ok n nb) : crowdD n nb = .non ↔ Fr.Slim n nb := by
  unfold crowdD
  rw [← (Fr.crowd_spec ok).1]
  cases crowdL (List.replicate n []) nb with
  | none => exact ⟨fun _ => rfl, fun _ => rfl⟩
  | some ks => exact ⟨fun h => (by cases h), fun h => (by cases h)⟩
end Pl

/-! sorted of a list of data that are alike. -/
namespace So
open PySem PySem.Spec PySem.Calls PyProof.Rows L2 PySem.W
abbrev leD (x y : V × PyData) : Bool := sortLe (listOrd itemOrd) false (fun b : V × PyData => keyToks b.2) x y
def rSortD (K : PySem.W.Frag) : List V → Hp → VK → Prop := fun vs H Q => ∃ (a : Addr) (xs : List V) (ds : List PyData), vs = [V.ref a] ∧ SqL K H a xs ∧ DpAll K H xs ds ∧ AllAlike ds ∧ Sortable ds ∧ (∀ d ∈ ds, d.depth ≤ 60) ∧
  ∀ p : Addr, H p = none → Q (.ref p) (upd H p (.lst (((xs.zip ds).mergeSort leD).map Prod.fst)))
section
variable {X : Cx}
theorem each_of {h : Heap} : ∀ {xs : List V} {us : List Value} {ds : List PyData} {as : List Addr}, Vals xs us → ReadsAll h us ds as → EachIs (fun v (b : V × PyData) => RelV b.1 v ∧ ∃ as, Reads h v b.2 as) us (xs.zip ds)
  | _, _, _, _, .nil, r => by cases r; exact .nil
  | _, _, _, _, .cons hx hr, r => by
    cases r with
    | cons r rs => exact .cons ⟨hx, _, r⟩ (each_of hr rs)
theorem vals_of {h : Heap} : ∀ {us : List Value} {bs : List (V × PyData)}, EachIs (fun v (b : V × PyData) => RelV b.1 v ∧ ∃ as, Reads h v b.2 as) us bs → Vals (bs.map Prod.fst) us
  | _, _, .nil => .nil
  | _, _, .cons h r => .cons h.1 (vals_of r)
theorem data_of {h : Heap} : ∀ {us : List Value} {ds : List PyData} {as : List Addr}, ReadsAll h us ds as → EachIs (fun v d => ∃ as, Reads h v d as) us ds
  | [], _, _, r => by cases r; exact .nil
  | _ :: us, _, _, r => by
    cases r with
    | cons r rs => exact .cons ⟨_, r⟩ (data_of rs)
theorem cr_sortD (hu : X.A.units + 64 < cLine) : CallR X (.builtin "sorted") (rSortD X.K) := by
  intro pins s σ H vs us Q I r h
  obtain ⟨a, xs, ds, rfl, hs, hd, hal, hk, hdep, q⟩ := h
  obtain ⟨its, rv, hl, hz⟩ := I.list hs
  rw [Vals.ref1 r]
  obtain ⟨as, rd⟩ := Dp.readsAll I ds _ its hd rv
  have hlen : its.length ≤ sizeLine := by rw [← rv.length]; exact hz
  have old : ∀ b o, s.heap.get? b = some o → (sortingHeap (copyHeap s.heap its) (s.heap.objs.size + 1) its).get? b = some o := fun b o e => sorting_copy_old e
  have e1 := data_of rd
  have e2 : EachIs (fun v d => ∃ as, Reads (sortingHeap (copyHeap s.heap its) (s.heap.objs.size + 1) its) v d as) its ds := e1.mono fun v d ⟨as, r⟩ => ⟨as, Reads.keeps old r⟩
  refine sorted_vals hl.isList (SortsAt.data (s := { s with heap := sortingHeap (copyHeap s.heap its) (s.heap.objs.size + 1) its }) e2 hal hk fun d hdm => ?_) hlen ?_
  · have := hdep d hdm
    show X.A.units + 1 + 1 + d.depth < cLine
    omega
  · have eb := each_of rv rd
    have ek : EachIs (fun v (b : V × PyData) => (dataKind (sortingHeap (copyHeap s.heap its) (s.heap.objs.size + 1) its) ds).keyOf v = some (keyToks b.2)) its (xs.zip ds) := by
      refine EachIs.of_zip eb.length fun p hp => ?_
      obtain ⟨_, as', rr⟩ := eb.zip p hp
      have hm : p.2 ∈ xs.zip ds := (List.of_mem_zip hp).2
      exact dataKind_some hal (List.of_mem_zip hm).2 (Reads.keeps old rr)
    have es := sortVals_each (κ := dataKind (sortingHeap (copyHeap s.heap its) (s.heap.objs.size + 1) its) ds) (rev := false) (fun b : V × PyData => keyToks b.2) eb ek
    have hv := vals_of es
    obtain ⟨ep, he'⟩ := sortedAll_at s.heap its (sortVals (dataKind (sortingHeap (copyHeap s.heap its) (s.heap.objs.size + 1) its) ds) false its its).toArray
    have hlv : (((xs.zip ds).mergeSort leD).map Prod.fst).length ≤ sizeLine := by
      have e3 := hv.length
      rw [sortVals_length false rfl] at e3
      exact Nat.le_trans (Nat.le_of_eq e3) hlen
    exact ⟨.ref _, upd H (s.heap.objs.size + 1) (.lst (((xs.zip ds).mergeSort leD).map Prod.fst)), I.laid (t' := s.toks) (fun _ _ => sortedAll_old) (Nat.le_succ _) ⟨hlv, _, ep, hv, he'⟩, rfl, q _ (I.hok.fresh (Nat.le_succ _))⟩
end
end So

/-! sorted of a list of lists of numbers. -/
namespace Pl
open PySem PySem.Spec PyProof.Rows L2 PySem.W
open Evl (Ex)
def rowP (l : List Nat) : PyData := (rowD l).py
def rowLt (a b : List Nat) : Bool := lexLt itemOrd (keyToks (rowP a)) (keyToks (rowP b))
theorem rowP_eq (l : List Nat) : rowP l = .list (l.map fun k : Nat => .int (k : Int)) := by
  show PyData.list (pyL (nD l)) = _
  rw [pyL_map]
  unfold nD
  rw [List.map_map]
  rfl
theorem row_nil (b : List Nat) (y : Nat) : rowLt [] (y :: b) = true := by
  unfold rowLt
  rw [rowP_eq, rowP_eq]
  show lexLt itemOrd [.inl 0] (.inl 1 :: (_ ++ _)) = true
  rw [lex_diff (O := itemOrd) (by decide)]
  rfl
theorem row_cons (x y : Nat) (l m : List Nat) : rowLt (x :: l) (y :: m) = if x = y then rowLt l m else decide (x < y) := by
  unfold rowLt
  rw [rowP_eq, rowP_eq, rowP_eq, rowP_eq]
  show lexLt itemOrd (.inl 1 :: (.inl (x : Int) :: keyToksAll (l.map fun k : Nat => PyData.int (k : Int)))) (.inl 1 :: (.inl (y : Int) :: keyToksAll (m.map fun k : Nat => PyData.int (k : Int)))) = if x = y then lexLt itemOrd (keyToksAll (l.map fun k : Nat => PyData.int (k : Int))) (keyToksAll (m.map fun k : Nat => PyData.int (k : Int))) else decide (x < y)
  rw [lex_self (O := itemOrd)]
  by_cases e : x = y
  · subst e
    rw [if_pos rfl, lex_self (O := itemOrd)]
  · rw [if_neg e, lex_diff (O := itemOrd) (fun z => e (by injection z with z; omega))]
    show decide ((x : Int) < (y : Int)) = _
    exact decide_eq_decide.mpr (by omega)
theorem toks_inj : ∀ {a b : List Nat}, keyToks (rowP a) = keyToks (rowP b) → a = b
  | [], [], _ => rfl
  | [], y :: b, h => by
    rw [rowP_eq, rowP_eq] at h
    have h : [Sum.inl (0 : Int)] = (Sum.inl 1 :: _ : List (Int ⊕ List Nat)) := h
    injection h with h _
    injection h with h
    exact absurd h (by decide)
  | x :: a, [], h => by
    rw [rowP_eq, rowP_eq] at h
    have h : (Sum.inl 1 :: _ : List (Int ⊕ List Nat)) = [Sum.inl (0 : Int)] := h
    injection h with h _
    injection h with h
    exact absurd h (by decide)
  | x :: a, y :: b, h => by
    rw [rowP_eq, rowP_eq] at h
    have h : (Sum.inl (1 : Int) :: (Sum.inl (x : Int) :: keyToksAll (a.map fun k : Nat => PyData.int (k : Int))) : List (Int ⊕ List Nat)) = Sum.inl 1 :: (Sum.inl (y : Int) :: keyToksAll (b.map fun k : Nat => PyData.int (k : Int))) := h
    injection h with _ h
    injection h with h1 h2
    injection h1 with h1
    have : a = b := toks_inj (by rw [rowP_eq, rowP_eq]; exact h2)
    rw [this, show x = y by omega]
theorem row_anti {a b : List Nat} (h1 : rowLt a b = false) (h2 : rowLt b a = false) : a = b := toks_inj (lex_total (O := itemOrd) _ _ h1 h2)
theorem row_asym {a b : List Nat} (h : rowLt a b = true) : rowLt b a = false := by
  cases e : rowLt b a with
  | false => rfl
  | true =>
    have z := (listOrd itemOrd).trans _ _ _ (show (listOrd itemOrd).blt (keyToks (rowP a)) (keyToks (rowP b)) = true from h) e
    rw [(listOrd itemOrd).irrefl] at z
    cases z
section
variable {K : PySem.W.Frag}
theorem ok_sortD {X : Cx} (h : X.K = K) (hu : X.A.units + 64 < cLine) : CallR X (.builtin "sorted") (So.rSortD K) := by subst h; exact So.cr_sortD hu
abbrev rowR (a b : V × List Nat) : Bool := sortLe (listOrd itemOrd) false (fun p : V × List Nat => keyToks (rowP p.2)) a b
theorem RdL.pairs {S : Hp} : ∀ {T : List (V × List Nat)}, (∀ p ∈ T, Rd K S p.1 (rowD p.2)) → RdL K S (T.map Prod.fst) ((T.map Prod.snd).map rowD)
  | [], _ => .nil
  | p :: T, h => .cons (h p List.mem_cons_self) (RdL.pairs fun q hq => h q (List.mem_cons_of_mem _ hq))
theorem RdL.zipR {S : Hp} : ∀ {xs : List V} {as : List (List Nat)}, RdL K S xs (as.map rowD) → ∀ p ∈ xs.zip as, Rd K S p.1 (rowD p.2)
  | [], _, _, p, hp => by cases hp
  | x :: xs, [], r, p, hp => by cases r
  | x :: xs, a :: as, r, p, hp => by
    have r : RdL K S (x :: xs) (rowD a :: as.map rowD) := r
    cases r with
    | cons h t =>
      rcases List.mem_cons.mp hp with rfl | hp
      · exact h
      · exact RdL.zipR t p hp
theorem rc_sortRows {as bs : List (List Nat)} (hp : bs.Perm as) (hs : bs.Pairwise fun a b => rowLt b a = false) : RCF K (So.rSortD K) [.lst (as.map rowD)] (bs.map rowD) := fun S H vs e r Q q => by
  cases r with
  | cons h t =>
    cases t
    cases h with
    | lst ha rl =>
      rename_i a xs
      have hlen : xs.length = as.length := by rw [rl.length, List.length_map]
      have okd : ∀ x ∈ as.map rowD, x.okd 59 = true := fun x hx => by
        obtain ⟨l, _, rfl⟩ := List.mem_map.mp hx
        exact List.all_eq_true.mpr fun y hy => by obtain ⟨i, _, rfl⟩ := List.mem_map.mp hy; rfl
      have dp := dpL (fun v d => Rd.dp 59 v d) _ _ okd (rl.mono e)
      have ed : pyL (as.map rowD) = as.map rowP := by rw [pyL_map, List.map_map]; rfl
      rw [ed] at dp
      have isl : ∀ d ∈ as.map rowP, ∃ l : List Nat, d = .list (l.map fun k : Nat => .int (k : Int)) := fun d hd => by
        obtain ⟨l, _, rfl⟩ := List.mem_map.mp hd
        exact ⟨l, rowP_eq l⟩
      refine ⟨a, xs, as.map rowP, rfl, Evl.sq_of (e _ _ ha), dp, fun d hd d' hd' => ?_, .inr fun d hd => ?_, fun d hd => ?_, fun p hpn => ?_⟩
      · obtain ⟨l, rfl⟩ := isl d hd
        obtain ⟨m, rfl⟩ := isl d' hd'
        show alikeAll _ _ = true
        clear hd hd'
        induction l generalizing m with
        | nil => rfl
        | cons x l ih =>
          cases m with
          | nil => rfl
          | cons y m => exact ih m
      · obtain ⟨l, rfl⟩ := isl d hd
        exact ⟨fun z => (by cases z), fun xs z => (by cases z)⟩
      · obtain ⟨l, hl, rfl⟩ := List.mem_map.mp hd
        exact (okd_shape 60 (rowD l) (by
          exact List.all_eq_true.mpr fun y hy => by obtain ⟨i, _, rfl⟩ := List.mem_map.mp hy; rfl)).2
      · -- the sorted pairs
        have em : ((xs.zip as).mergeSort rowR).map (fun p => (p.1, rowP p.2)) = (xs.zip (as.map rowP)).mergeSort So.leD := by
          rw [sort_maps (r := rowR) (s := So.leD) (fun p : V × List Nat => (p.1, rowP p.2)) (fun a _ b _ => rfl)]
          congr 1
          rw [List.zip_map_right]
          rfl
        have pm : ((xs.zip as).mergeSort rowR).Perm (xs.zip as) := List.mergeSort_perm _ _
        have e1 : ((xs.zip (as.map rowP)).mergeSort So.leD).map Prod.fst = ((xs.zip as).mergeSort rowR).map Prod.fst := by
          rw [← em, List.map_map]
          rfl
        have snd : ((xs.zip as).mergeSort rowR).map Prod.snd = bs := by
          have p2 : (((xs.zip as).mergeSort rowR).map Prod.snd).Perm as := by
            have := pm.map Prod.snd
            rwa [List.map_snd_zip (by omega)] at this
          have s2 := sort_pairwise (sortLe_total (listOrd itemOrd) false fun p : V × List Nat => keyToks (rowP p.2)) (xs.zip as)
          have s3 : (((xs.zip as).mergeSort rowR).map Prod.snd).Pairwise fun a b => rowLt b a = false := by
            rw [List.pairwise_map]
            refine s2.imp fun {a b} h => ?_
            have h : (!rowLt b.2 a.2) = true := h
            simpa using h
          exact (p2.trans hp.symm).eq_of_pairwise (fun a b _ _ h1 h2 => row_anti h2 h1) s3 hs
        rw [e1]
        have rr := RdL.pairs (K := K) (S := S) (T := (xs.zip as).mergeSort rowR) fun p hpm => RdL.zipR rl p (pm.mem_iff.mp hpm)
        rw [snd] at rr
        exact q p _ S _ (Ext.hid e hpn) hpn (sub_none e hpn) upd_same rr
end
end Pl

/-! Other names for joints: the worth, what is held, parts. -/
namespace Fr
def fb (f : Nat → Nat) (b : Bar) : Bar := (f b.1, f b.2)
/-- f and g turn the joints about, each the other's way back -/
structure Turn (n : Nat) (f g : Nat → Nat) : Prop where
  fl : ∀ x, x < n → f x < n
  gl : ∀ x, x < n → g x < n
  gf : ∀ x, x < n → g (f x) = x
  fg : ∀ x, x < n → f (g x) = x
section
variable {n : Nat} {f g : Nat → Nat} {nb K : List Bar}
theorem Turn.symm (t : Turn n f g) : Turn n g f := ⟨t.gl, t.fl, t.fg, t.gf⟩
theorem Turn.inj (t : Turn n f g) : ∀ x y, x < n → y < n → f x = f y → x = y := fun x y hx hy h => by
  have := congrArg g h
  rwa [t.gf x hx, t.gf y hy] at this
theorem ok_map (t : Turn n f g) (ok : Ok n nb) : Ok n (nb.map (fb f)) := fun c hc => by
  obtain ⟨b, hb, rfl⟩ := List.mem_map.mp hc
  obtain ⟨o1, o2, o3⟩ := ok b hb
  exact ⟨t.fl _ o1, t.fl _ o2, fun e => o3 (t.inj _ _ o1 o2 e)⟩
theorem ins_map (K : List Bar) (f : Nat → Nat) (S : JS) : ins (K.map (fb f)) S = ins K fun x => S (f x) := by
  unfold ins
  rw [List.countP_map]
  rfl
theorem slim_map (t : Turn n f g) (sl : Slim n K) : Slim n (K.map (fb f)) := name_slim (f := f) t.inj t.fl sl fun S => ins_map K f S
theorem spn_map (t : Turn n f g) (ok : Ok n K) {a b : Nat} (ha : a < n) (hb : b < n) (h : Spn n K a b) : Spn n (K.map (fb f)) (f a) (f b) := by
  obtain ⟨S, ⟨t1, t2⟩, s1, s2⟩ := h
  refine ⟨fun x => S (g x), ⟨?_, ?_⟩, by show S (g (f a)) = true; rw [t.gf a ha]; exact s1, by show S (g (f b)) = true; rw [t.gf b hb]; exact s2⟩
  · rw [card_name t.symm.inj t.gl]
    exact t1
  · rw [card_name t.symm.inj t.gl, ins_map, ins_same ok (T := S) fun x hx => by rw [t.gf x hx]]
    exact t2
theorem map_back (t : Turn n f g) (ok : Ok n nb) : (nb.map (fb f)).map (fb g) = nb := by
  rw [List.map_map]
  refine (List.map_congr_left fun b hb => ?_).trans (List.map_id _)
  obtain ⟨o1, o2, _⟩ := ok b hb
  exact Prod.ext (t.gf _ o1) (t.gf _ o2)
theorem hld_map1 (t : Turn n f g) (ok : Ok n nb) {a b : Nat} (ha : a < n) (hb : b < n) (ne : a ≠ b) (h : Hld n nb a b) : Hld n (nb.map (fb f)) (f a) (f b) := by
  have okb := basis_ok ok
  refine spn_hld (ok_map t okb) (slim_map t (basis_slim n nb)) (ok_map t ok) (fun x hx => ?_) (t.fl a ha) (t.fl b hb) (fun e => ne (t.inj a b ha hb e)) (spn_map t okb ha hb h)
  obtain ⟨y, hy, rfl⟩ := List.mem_map.mp hx
  exact List.mem_map.mpr ⟨y, (pickB_sub nb []).subset hy, rfl⟩
theorem hld_map (t : Turn n f g) (ok : Ok n nb) {a b : Nat} (ha : a < n) (hb : b < n) (ne : a ≠ b) : Hld n nb a b ↔ Hld n (nb.map (fb f)) (f a) (f b) := by
  refine ⟨hld_map1 t ok ha hb ne, fun h => ?_⟩
  have := hld_map1 t.symm (ok_map t ok) (t.fl a ha) (t.fl b hb) (fun e => ne (t.inj a b ha hb e)) h
  rwa [map_back t ok, t.gf a ha, t.gf b hb] at this
theorem rk_map1 (t : Turn n f g) (ok : Ok n nb) : rk n nb ≤ rk n (nb.map (fb f)) := by
  have okb := basis_ok ok
  have h := rk_max (ok_map t ok) (ok_map t okb) (slim_map t (basis_slim n nb)) fun x hx => hld_bar (ok_map t ok) (by
    obtain ⟨y, hy, rfl⟩ := List.mem_map.mp hx
    exact List.mem_map.mpr ⟨y, (pickB_sub nb []).subset hy, rfl⟩)
  rwa [List.length_map] at h
theorem rk_map (t : Turn n f g) (ok : Ok n nb) : rk n (nb.map (fb f)) = rk n nb := by
  have h := rk_map1 t.symm (ok_map t ok)
  rw [map_back t ok] at h
  exact Nat.le_antisymm h (rk_map1 t ok)
/-- the same bars by other names, in any order, turned or not -/
structure Alike (n : Nat) (f g : Nat → Nat) (nb ob : List Bar) : Prop where
  turn : Turn n f g
  ok : Ok n nb
  oko : Ok n ob
  s1 : Sub (nb.map (fb f)) ob
  s2 : Sub ob (nb.map (fb f))
variable {ob : List Bar}
theorem sub_map {as bs : List Bar} (h : Sub as bs) (f : Nat → Nat) : Sub (as.map (fb f)) (bs.map (fb f)) := fun x hx => by
  obtain ⟨y, hy, rfl⟩ := List.mem_map.mp hx
  rcases h y hy with q | q
  · exact .inl (List.mem_map.mpr ⟨y, q, rfl⟩)
  · exact .inr (List.mem_map.mpr ⟨_, q, rfl⟩)
theorem Alike.symm (a : Alike n f g nb ob) : Alike n g f ob nb := by
  have e := map_back a.turn a.ok
  refine ⟨a.turn.symm, a.oko, a.ok, ?_, ?_⟩
  · have := sub_map a.s2 g
    rwa [e] at this
  · have := sub_map a.s1 g
    rwa [e] at this
theorem Alike.rk (a : Alike n f g nb ob) : Fr.rk n ob = Fr.rk n nb := by
  rw [← rk_map a.turn a.ok]
  exact rk_same a.oko (ok_map a.turn a.ok) a.s2 a.s1
theorem Alike.hld (q : Alike n f g nb ob) {a b : Nat} (ha : a < n) (hb : b < n) (ne : a ≠ b) : Hld n nb a b ↔ Hld n ob (f a) (f b) := by
  have ne2 : f a ≠ f b := fun e => ne (q.turn.inj a b ha hb e)
  rw [hld_map q.turn q.ok ha hb ne]
  exact hld_same (ok_map q.turn q.ok) q.oko q.s1 q.s2 (q.turn.fl a ha) (q.turn.fl b hb) ne2
theorem Alike.prt (q : Alike n f g nb ob) {a b c : Nat} (ha : a < n) (hb : b < n) (hc : c < n) : part n (pickB n [] nb) a b c = part n (pickB n [] ob) (f a) (f b) (f c) := by
  have e : part n (pickB n [] nb) a b c = true ↔ part n (pickB n [] ob) (f a) (f b) (f c) = true := by
    rw [part_iff, part_iff]
    have i1 : c = a ↔ f c = f a := ⟨fun e => by rw [e], fun e => q.turn.inj c a hc ha e⟩
    have i2 : c = b ↔ f c = f b := ⟨fun e => by rw [e], fun e => q.turn.inj c b hc hb e⟩
    by_cases q1 : c = a
    · exact ⟨fun _ => .inl (i1.mp q1), fun _ => .inl q1⟩
    by_cases q2 : c = b
    · exact ⟨fun _ => .inr (.inl (i2.mp q2)), fun _ => .inr (.inl q2)⟩
    have h1 := q.hld ha hc (Ne.symm q1)
    have h2 := q.hld hb hc (Ne.symm q2)
    unfold Hld at h1 h2
    rw [h1, h2, ← i1, ← i2]
  cases h1 : Fr.part n (pickB n [] nb) a b c <;> cases h2 : Fr.part n (pickB n [] ob) (f a) (f b) (f c) <;> simp_all
end
end Fr
namespace Pl
open Fr (Alike)
section
variable {n : Nat} {f g : Nat → Nat} {nb ob : List Fr.Bar}
/-- a part as a list begins with its two least joints -/
theorem partL_head {n : Nat} {K : List Fr.Bar} {p : Fr.Bar} (h : Fr.Ld n K p.1 p.2) : ∃ r, partL n K p = p.1 :: p.2 :: r := by
  obtain ⟨l, hb, hs, hl⟩ := id h
  have hm : p.2 ∈ heldL n K p.1 := heldL_mem.mpr ⟨hb, .inr hs⟩
  have e := both_part hm (by omega) (show p.1 < n by omega)
  have t := (lead_first (show p.1 < n by omega) hm).mpr h
  rw [e] at t
  match hq : partL n K p, t with
  | x :: y :: r, t =>
    have t : [x, y] = [p.1, p.2] := t
    injection t with t1 t
    injection t with t2 _
    exact ⟨r, by rw [t1, t2]⟩
  | [x], t =>
    cases t
  | [], t =>
    cases t
theorem parts_lt (n : Nat) (nb : List Fr.Bar) : (partsL n nb).Pairwise fun a b => rowLt a b = true := by
  unfold partsL
  rw [List.pairwise_map]
  refine List.Pairwise.imp_of_mem (fun {p q} hp hq h => ?_) (Fr.ldrs_lex (n := n) (K := Fr.pickB n [] nb))
  obtain ⟨r, hr⟩ := partL_head (Fr.ldrs_mem.mp hp)
  obtain ⟨t, ht⟩ := partL_head (Fr.ldrs_mem.mp hq)
  rw [hr, ht, row_cons]
  rcases h with h | ⟨h1, h2⟩
  · rw [if_neg (by omega)]
    exact decide_eq_true h
  · rw [if_pos h1, row_cons, if_neg (by omega)]
    exact decide_eq_true h2
theorem parts_le (n : Nat) (nb : List Fr.Bar) : (partsL n nb).Pairwise fun a b => rowLt b a = false := (parts_lt n nb).imp fun h => row_asym h
theorem rowLt_irrefl (a : List Nat) : rowLt a a = false := (PyProof.Rows.listOrd PyProof.Rows.itemOrd).irrefl _
theorem parts_nodup (n : Nat) (nb : List Fr.Bar) : (partsL n nb).Nodup := (parts_lt n nb).imp fun {a b} h e => by
  subst e
  rw [rowLt_irrefl] at h
  cases h
/-- a part by other names -/
def nameL (f : Nat → Nat) (l : List Nat) : List Nat := sortN (l.map f)
theorem part_sub (q : Alike n f g nb ob) {l : List Nat} (h : l ∈ partsL n nb) : nameL f l ∈ partsL n ob := by
  obtain ⟨p, hp, rfl⟩ := List.mem_map.mp h
  obtain ⟨h1, h2, h3, h4⟩ := Fr.ldrs_mem.mp hp
  have ha : p.1 < n := by omega
  have ne : p.1 ≠ p.2 := by omega
  have ne2 : f p.1 ≠ f p.2 := fun e => ne (q.turn.inj _ _ ha h2 e)
  have hh : Fr.Hld n ob (f p.1) (f p.2) := (q.hld ha h2 ne).mp h3
  have okk := Fr.basis_ok q.oko
  have sl := Fr.basis_slim n ob
  obtain ⟨a, b, hl, m1, m2⟩ := Fr.lead_ex okk sl (q.turn.fl _ ha) (q.turn.fl _ h2) ne2 hh
  obtain ⟨l1, l2, l3, _⟩ := id hl
  obtain ⟨_, same⟩ := Fr.part_same okk sl (show a < n by omega) l2 (by omega) l3 (q.turn.fl _ ha) (q.turn.fl _ h2) ne2 m1 m2
  refine List.mem_map.mpr ⟨(a, b), Fr.ldrs_mem.mpr hl, (sortN_eq ?_ (partL_rise _ _ _) fun y => ?_).symm⟩
  · have nd : (partL n (Fr.pickB n [] nb) p).Nodup := (partL_rise _ _ _).imp fun h => by omega
    unfold List.Nodup
    rw [List.pairwise_map]
    exact List.Pairwise.imp_of_mem (fun hx hy ne e => ne (q.turn.inj _ _ (partL_mem.mp hx).1 (partL_mem.mp hy).1 e)) nd
  · rw [List.mem_map, partL_mem]
    constructor
    · rintro ⟨c, hc, rfl⟩
      obtain ⟨c1, c2⟩ := partL_mem.mp hc
      refine ⟨q.turn.fl c c1, ?_⟩
      rw [same _ (q.turn.fl c c1), ← q.prt ha h2 c1]
      exact c2
    · rintro ⟨hy, hpy⟩
      rw [same y hy] at hpy
      refine ⟨g y, partL_mem.mpr ⟨q.turn.gl y hy, ?_⟩, q.turn.fg y hy⟩
      rw [q.prt ha h2 (q.turn.gl y hy), q.turn.fg y hy]
      exact hpy
theorem name_back (q : Alike n f g nb ob) {l : List Nat} (h : l ∈ partsL n nb) : nameL g (nameL f l) = l := by
  obtain ⟨p, hp, rfl⟩ := List.mem_map.mp h
  have low : ∀ c ∈ partL n (Fr.pickB n [] nb) p, c < n := fun c hc => (partL_mem.mp hc).1
  have nd : (partL n (Fr.pickB n [] nb) p).Nodup := (partL_rise _ _ _).imp fun h => by omega
  have nd1 : ((partL n (Fr.pickB n [] nb) p).map f).Nodup := by
    unfold List.Nodup
    rw [List.pairwise_map]
    exact List.Pairwise.imp_of_mem (fun hx hy ne e => ne (q.turn.inj _ _ (low _ hx) (low _ hy) e)) nd
  have mem1 : ∀ y, y ∈ nameL f (partL n (Fr.pickB n [] nb) p) ↔ ∃ c ∈ partL n (Fr.pickB n [] nb) p, f c = y := fun y => by
    unfold nameL
    rw [(sortN_perm _).mem_iff, List.mem_map]
  have nd2 : (nameL f (partL n (Fr.pickB n [] nb) p)).Nodup := (sortN_perm _).nodup_iff.mpr nd1
  refine sortN_eq ?_ (partL_rise _ _ _) fun x => ?_
  · unfold List.Nodup
    rw [List.pairwise_map]
    refine List.Pairwise.imp_of_mem (fun {u v} hu hv ne e => ne ?_) nd2
    obtain ⟨c, hc, rfl⟩ := (mem1 u).mp hu
    obtain ⟨d, hd, rfl⟩ := (mem1 v).mp hv
    rw [q.turn.gf c (low c hc), q.turn.gf d (low d hd)] at e
    rw [e]
  · rw [List.mem_map]
    constructor
    · rintro ⟨y, hy, rfl⟩
      obtain ⟨c, hc, rfl⟩ := (mem1 y).mp hy
      rw [q.turn.gf c (low c hc)]
      exact hc
    · intro hx
      exact ⟨f x, (mem1 _).mpr ⟨x, hx, rfl⟩, q.turn.gf x (low x hx)⟩
/-- the parts by other names, sorted, are the other's -/
theorem parts_perm (q : Alike n f g nb ob) : (partsL n ob).Perm ((partsL n nb).map (nameL f)) := by
  refine (List.perm_ext_iff_of_nodup (parts_nodup n ob) ?_).mpr fun l => ?_
  · unfold List.Nodup
    rw [List.pairwise_map]
    refine List.Pairwise.imp_of_mem (fun {u v} hu hv ne e => ne ?_) (parts_nodup n nb)
    rw [← name_back q hu, ← name_back q hv, e]
  · rw [List.mem_map]
    constructor
    · intro h
      exact ⟨nameL g l, part_sub q.symm h, name_back q.symm h⟩
    · rintro ⟨m, hm, rfl⟩
      exact part_sub q hm
end
end Pl

/-! The same bars in another order, some turned, by other names: the bars that are too many. -/
namespace Fr
theorem turn_of {n : Nat} {f : Nat → Nat} (inj : ∀ x y, x < n → y < n → f x = f y → x = y) (low : ∀ x, x < n → f x < n) : ∃ g, Turn n f g := by
  have p := Pl.range_perm inj low
  have ex : ∀ y, y < n → ∃ x, x < n ∧ f x = y := fun y hy => by
    have := p.mem_iff.mpr (List.mem_range.mpr hy)
    obtain ⟨x, hx, e⟩ := List.mem_map.mp this
    exact ⟨x, List.mem_range.mp hx, e⟩
  refine ⟨fun y => if h : ∃ x, x < n ∧ f x = y then Classical.choose h else 0, low, fun y hy => ?_, fun x hx => ?_, fun y hy => ?_⟩
  · show (if h : ∃ x, x < n ∧ f x = y then Classical.choose h else 0) < n
    rw [dif_pos (ex y hy)]
    exact (Classical.choose_spec (ex y hy)).1
  · show (if h : ∃ z, z < n ∧ f z = f x then Classical.choose h else 0) = x
    have h : ∃ z, z < n ∧ f z = f x := ⟨x, hx, rfl⟩
    rw [dif_pos h]
    obtain ⟨h1, h2⟩ := Classical.choose_spec h
    exact inj _ _ h1 hx h2
  · show f (if h : ∃ x, x < n ∧ f x = y then Classical.choose h else 0) = y
    rw [dif_pos (ex y hy)]
    exact (Classical.choose_spec (ex y hy)).2
end Fr
namespace Pl
open Fr (Alike)
/-- the bars at some places, by other names, some turned -/
def otherB (f : Nat → Nat) (t : Nat → Bool) (nb : List Fr.Bar) (i : Nat) : Fr.Bar := turnB (t i) (Fr.fb f (Fr.barAt nb i))
theorem erase_maps {α β : Type} (h : α → β) : ∀ (l : List α) (k : Nat), (l.map h).eraseIdx k = (l.eraseIdx k).map h
  | [], _ => rfl
  | _ :: _, 0 => rfl
  | x :: l, k + 1 => congrArg (h x :: ·) (erase_maps h l k)
def otherL (f : Nat → Nat) (t : Nat → Bool) (nb : List Fr.Bar) (P : List Nat) : List Fr.Bar := P.map (otherB f t nb)
theorem turn_or (q : Bool) (b : Fr.Bar) : turnB q b = b ∨ turnB q b = (b.2, b.1) := by
  unfold turnB
  cases q with
  | true => exact .inr rfl
  | false => exact .inl rfl
section
variable {n : Nat} {f g : Nat → Nat} {t : Nat → Bool} {nb : List Fr.Bar} {P : List Nat}
theorem other_ok (tr : Fr.Turn n f g) (ok : Fr.Ok n nb) (h : ∀ i ∈ P, i < nb.length) : Fr.Ok n (otherL f t nb P) := fun c hc => by
  obtain ⟨i, hi, rfl⟩ := List.mem_map.mp hc
  obtain ⟨o1, o2, o3⟩ := ok _ (Fr.barAt_mem (h i hi))
  have l1 := tr.fl _ o1
  have l2 := tr.fl _ o2
  have ne : f (Fr.barAt nb i).1 ≠ f (Fr.barAt nb i).2 := fun e => o3 (tr.inj _ _ o1 o2 e)
  unfold otherB
  rcases turn_or (t i) (Fr.fb f (Fr.barAt nb i)) with e | e
  · rw [e]; exact ⟨l1, l2, ne⟩
  · rw [e]; exact ⟨l2, l1, Ne.symm ne⟩
/-- from a list of bars whose places are P's -/
theorem alike_of {mb : List Fr.Bar} (tr : Fr.Turn n f g) (ok : Fr.Ok n nb) (okm : Fr.Ok n mb) (h : ∀ i ∈ P, i < nb.length) (h1 : ∀ b ∈ mb, ∃ i ∈ P, Fr.barAt nb i = b) (h2 : ∀ i ∈ P, Fr.barAt nb i ∈ mb) : Alike n f g mb (otherL f t nb P) := by
  refine ⟨tr, okm, other_ok tr ok h, fun x hx => ?_, fun x hx => ?_⟩
  · obtain ⟨b, hb, rfl⟩ := List.mem_map.mp hx
    obtain ⟨i, hi, rfl⟩ := h1 b hb
    have m : otherB f t nb i ∈ otherL f t nb P := List.mem_map.mpr ⟨i, hi, rfl⟩
    unfold otherB at m
    rcases turn_or (t i) (Fr.fb f (Fr.barAt nb i)) with e | e
    · rw [e] at m; exact .inl m
    · rw [e] at m; exact .inr m
  · obtain ⟨i, hi, rfl⟩ := List.mem_map.mp hx
    have m : Fr.fb f (Fr.barAt nb i) ∈ mb.map (Fr.fb f) := List.mem_map.mpr ⟨_, h2 i hi, rfl⟩
    unfold otherB
    rcases turn_or (t i) (Fr.fb f (Fr.barAt nb i)) with e | e
    · rw [e]; exact .inl m
    · rw [e]; exact .inr m
theorem other_alike (tr : Fr.Turn n f g) (ok : Fr.Ok n nb) (pm : P.Perm (List.range nb.length)) : Alike n f g nb (otherL f t nb P) := by
  have h : ∀ i ∈ P, i < nb.length := fun i hi => List.mem_range.mp (pm.mem_iff.mp hi)
  refine alike_of tr ok ok h (fun b hb => ?_) fun i hi => Fr.barAt_mem (h i hi)
  obtain ⟨i, hi, e⟩ := List.mem_iff_getElem.mp hb
  exact ⟨i, pm.mem_iff.mpr (List.mem_range.mpr hi), by rw [Fr.barAt_get hi]; exact e⟩
theorem other_less (tr : Fr.Turn n f g) (ok : Fr.Ok n nb) (pm : P.Perm (List.range nb.length)) {k : Nat} (hk : k < P.length) : Alike n f g (nb.eraseIdx P[k]) ((otherL f t nb P).eraseIdx k) := by
  have h : ∀ i ∈ P, i < nb.length := fun i hi => List.mem_range.mp (pm.mem_iff.mp hi)
  have nd : P.Nodup := pm.nodup_iff.mpr List.nodup_range
  have e : (otherL f t nb P).eraseIdx k = otherL f t nb (P.eraseIdx k) := by
    unfold otherL
    rw [erase_maps]
  have sub : ∀ i ∈ P.eraseIdx k, i ∈ P ∧ i ≠ P[k] := fun i hi => by
    obtain ⟨j, hj, ne, ej⟩ := List.mem_eraseIdx_iff_getElem.mp hi
    refine ⟨by rw [← ej]; exact List.getElem_mem hj, fun z => ?_⟩
    rw [← ej] at z
    have q := List.pairwise_iff_getElem.mp nd
    rcases Nat.lt_trichotomy j k with l | l | l
    · exact q j k hj hk l z
    · exact ne l
    · exact q k j hk hj l z.symm
  rw [e]
  refine alike_of tr ok (ok.sub (List.eraseIdx_sublist _ _)) (fun i hi => h i (sub i hi).1) (fun b hb => ?_) fun i hi => Fr.erase_mem (h i (sub i hi).1) (sub i hi).2
  obtain ⟨i, hi, ne, ei⟩ := List.mem_eraseIdx_iff_getElem.mp hb
  have him : i ∈ P := pm.mem_iff.mpr (List.mem_range.mpr hi)
  obtain ⟨j, hj, ej⟩ := List.mem_iff_getElem.mp him
  refine ⟨i, List.mem_eraseIdx_iff_getElem.mpr ⟨j, hj, fun z => ne ?_, ej⟩, by rw [Fr.barAt_get hi]; exact ei⟩
  subst z
  exact ej.symm
theorem other_many (tr : Fr.Turn n f g) (ok : Fr.Ok n nb) (pm : P.Perm (List.range nb.length)) {k : Nat} (hk : k < P.length) : k ∈ manyL n (otherL f t nb P) ↔ P[k] ∈ manyL n nb := by
  have h : ∀ i ∈ P, i < nb.length := fun i hi => List.mem_range.mp (pm.mem_iff.mp hi)
  have hi := h _ (List.getElem_mem hk)
  have ho := other_ok (t := t) tr ok h
  have lo : (otherL f t nb P).length = P.length := by unfold otherL; rw [List.length_map]
  rw [manyL_mem, manyL_mem, lo]
  have o := ok _ (Fr.barAt_mem hi)
  have hd := (other_less (t := t) tr ok pm hk).hld o.1 o.2.1 o.2.2
  have eb : Fr.barAt (otherL f t nb P) k = otherB f t nb P[k] := by
    unfold Fr.barAt otherL
    simp [List.getD, hk]
  rw [eb, hd]
  unfold otherB
  rcases turn_or (t P[k]) (Fr.fb f (Fr.barAt nb P[k])) with e | e
  · rw [e]
    exact ⟨fun z => ⟨hi, z.2⟩, fun z => ⟨hk, z.2⟩⟩
  · rw [e]
    exact ⟨fun z => ⟨hi, Fr.hld_symm z.2⟩, fun z => ⟨hk, Fr.hld_symm z.2⟩⟩
theorem idx_get (P : List Nat) {i : Nat} (h : i ∈ P) : ∃ hk : P.idxOf i < P.length, P[P.idxOf i] = i := ⟨List.idxOf_lt_length_of_mem h, List.getElem_idxOf _⟩
theorem many_perm (tr : Fr.Turn n f g) (ok : Fr.Ok n nb) (pm : P.Perm (List.range nb.length)) : (manyL n (otherL f t nb P)).Perm ((manyL n nb).map fun i => P.idxOf i) := by
  have nd1 : (manyL n (otherL f t nb P)).Nodup := (manyL_rise _ _).imp fun h => by omega
  have nd0 : (manyL n nb).Nodup := (manyL_rise _ _).imp fun h => by omega
  have inP : ∀ i ∈ manyL n nb, i ∈ P := fun i hi => pm.mem_iff.mpr (List.mem_range.mpr (manyL_mem.mp hi).1)
  have lo : (otherL f t nb P).length = P.length := by unfold otherL; rw [List.length_map]
  refine (List.perm_ext_iff_of_nodup nd1 ?_).mpr fun k => ?_
  · unfold List.Nodup
    rw [List.pairwise_map]
    refine List.Pairwise.imp_of_mem (fun {u v} hu hv ne e => ne ?_) nd0
    obtain ⟨_, e1⟩ := idx_get P (inP u hu)
    obtain ⟨_, e2⟩ := idx_get P (inP v hv)
    rw [← e1, ← e2]
    simp only [e]
  · rw [List.mem_map]
    constructor
    · intro h
      have hk : k < P.length := by
        have := (manyL_mem.mp h).1
        rwa [lo] at this
      have hm := (other_many tr ok pm hk).mp h
      refine ⟨P[k], hm, ?_⟩
      have nd : P.Nodup := pm.nodup_iff.mpr List.nodup_range
      obtain ⟨hl, e⟩ := idx_get P (inP _ hm)
      have q := List.pairwise_iff_getElem.mp nd
      rcases Nat.lt_trichotomy (P.idxOf P[k]) k with l | l | l
      · exact absurd e (q _ _ hl hk l)
      · exact l
      · exact absurd e.symm (q _ _ hk hl l)
    · rintro ⟨i, hi, rfl⟩
      obtain ⟨hl, e⟩ := idx_get P (inP i hi)
      exact (other_many tr ok pm hl).mpr (by rw [e]; exact hi)
theorem other_slim (tr : Fr.Turn n f g) (ok : Fr.Ok n nb) (pm : P.Perm (List.range nb.length)) : Fr.Slim n (otherL f t nb P) ↔ Fr.Slim n nb := by
  have e := (other_alike (t := t) tr ok pm).rk
  have lo : (otherL f t nb P).length = nb.length := by
    unfold otherL
    rw [List.length_map, pm.length_eq, List.length_range]
  rw [← Fr.rk_slim, ← Fr.rk_slim, e, lo]
end
end Pl
namespace Pl
open PySem PySem.Spec PyProof.Rows L2
open Evl (Ex)
theorem ok_index {X : Cx} {K : PySem.W.Frag} (h : X.K = K) : MtR X "list.index" (rIndex K) := by subst h; exact mt_index
theorem ev_index {K : PySem.W.Frag} {ρ : Rho} {te tx : TE} {ns : List Int} {k : Int} {j : Nat} (hd : EvD K te ρ (.lst (ns.map D.int))) (hx : EvD K tx ρ (.int k)) (hj : ns[j]? = some k) (hn : ∀ m : Nat, m < j → ns[m]? ≠ some k) : EvD K (tBM K "list" (rIndex K) te (tCons tx tNil)) ρ (.int (j : Int)) := fun S H σ e v Q q =>
  hd S H σ e v _ fun w S1 H1 x1 r1 => by
    cases r1 with
    | lst ha rl =>
      have z := rl.ints
      subst z
      refine ⟨.inl ⟨rfl, _, Evl.sq_of (x1.sub _ _ ha)⟩, hx S1 H1 σ x1.sub (v.mono x1.s) _ fun u S2 H2 x2 r2 => ?_⟩
      cases r2
      refine ⟨_, ns.map V.int, .int k, j, .int k, rfl, rfl, Evl.sq_of (x2.h _ _ (x1.sub _ _ ha)), rfl, List.all_eq_true.mpr fun y hy => by obtain ⟨i, _, rfl⟩ := List.mem_map.mp hy; rfl, by rw [List.getElem?_map, hj]; rfl, by simp [eqV], fun m z' hm hz => ?_, q _ S2 H2 (x1.trans x2) (.int _)⟩
      rw [List.getElem?_map] at hz
      cases e3 : ns[m]? with
      | none => rw [e3] at hz; cases hz
      | some y =>
        rw [e3] at hz
        cases hz
        have ne : y ≠ k := fun z => hn m hm (by rw [e3, z])
        simp [eqV, ne]
end Pl
namespace Pl
open PySem PySem.Spec PyProof.Rows L2
theorem ok_bm {X : Cx} {K : PySem.W.Frag} {o e : Expr} {es : List Expr} {to : TE} {t : TA} {name : Str} {apos cpos : Pos} {T id : String} {r : V → List V → Hp → VK → Prop} (hK : X.K = K) (pa : PlainAttrs T) (slot : Slot T name id) (hty : typeOf (.builtin id) = pure (.type "method_descriptor")) (hm : MtR X id r) (ho : PE X o to) (ha : PA X (e :: es) t)
    (hbase : attributeBase o name X.env (eval o X.env) = eval o X.env := by rfl)
    (hfew : ((backTo cpos (starEach (e :: es) X.env)).all (fun x => !x.1) && (backToKw cpos (keywordEach [] X.env)).all (fun x => x.1.isSome)
      && decide ((e :: es).length + ([] : List Keyword).length + (if ([] : List Keyword).isEmpty then 0 else 1) < 30)) = true := by rfl)
    (hline : (apos.endLine == cpos.line) = true := by rfl) (hs : starEach (e :: es) X.env = (false, eval e X.env) :: starEach es X.env := by rfl) (hplain : (backTo cpos (starEach es X.env)).any (·.1) = false := by rfl) :
    PE X (.Call (.Attribute o name apos) (e :: es) [] cpos) (tBM K T r to t) := by subst hK; exact pe_bm pa slot hty hm ho ha hbase hfew hline hs hplain
end Pl

/-! What a knot looks like: twice its joints less two, and fewer of these joints are not crowded by it. -/
namespace Fr
section
variable {n : Nat} {nb : List Bar} {lj l : List Nat} {i : Nat}
theorem told_perm {T : JS} (ndl : l.Nodup) (ndj : lj.Nodup) (ni : i ∉ lj) (hj : ∀ a ∈ lj, a < nb.length) (hi : i < nb.length) (t2 : T (barAt nb i).1 = true) (t3 : T (barAt nb i).2 = true)
    (t5 : ∀ a, a ∈ l ↔ a < nb.length ∧ (T (barAt nb a).1 = true ∧ T (barAt nb a).2 = true) ∧ (a = i ∨ a ∈ lj)) : l.Perm (i :: lj.filter fun a => T (barAt nb a).1 && T (barAt nb a).2) := by
  have nd2 : (i :: lj.filter fun a => T (barAt nb a).1 && T (barAt nb a).2).Nodup := List.nodup_cons.mpr ⟨fun z => ni (List.mem_filter.mp z).1, ndj.filter _⟩
  refine (List.perm_ext_iff_of_nodup ndl nd2).mpr fun a => ?_
  rw [t5, List.mem_cons, List.mem_filter, Bool.and_eq_true]
  constructor
  · rintro ⟨h1, h2, rfl | h3⟩
    · exact .inl rfl
    · exact .inr ⟨h3, h2⟩
  · rintro (rfl | ⟨h1, h2⟩)
    · exact ⟨hi, ⟨t2, t3⟩, .inl rfl⟩
    · exact ⟨hj a h1, h2, .inr h1⟩
theorem knot_shape (ok : Ok n nb) (hj : ∀ a ∈ lj, a < nb.length) (ndj : lj.Nodup) (sl : Slim n (lj.map (barAt nb))) (ni : i ∉ lj) (hi : i < nb.length) (ndl : l.Nodup) (h : Told n nb lj i l) :
    ∃ T : JS, l.length + 2 = 2 * card n T ∧ 2 ≤ card n T ∧ (∀ x, x < n → (T x = true ↔ ∃ a ∈ l, (barAt nb a).1 = x ∨ (barAt nb a).2 = x)) ∧
      ∀ W : JS, 2 ≤ card n W → (∀ x, x < n → W x = true → T x = true) → (∃ x, x < n ∧ T x = true ∧ W x = false) → ins (l.map (barAt nb)) W + 3 ≤ 2 * card n W := by
  obtain ⟨T, tT, t2, t3, t4, t5⟩ := h
  have pm := told_perm ndl ndj ni hj hi t2 t3 t5
  have o := ok _ (barAt_mem hi)
  have okl := barAt_ok ok hj
  have cnt : ∀ W : JS, ins ((lj.filter fun a => T (barAt nb a).1 && T (barAt nb a).2).map (barAt nb)) W ≤ ins (lj.map (barAt nb)) W := fun W => ins_sub ((List.filter_sublist).map _) W
  have len : (lj.filter fun a => T (barAt nb a).1 && T (barAt nb a).2).length = ins (lj.map (barAt nb)) T := by
    unfold ins
    rw [List.countP_map, ← List.countP_eq_length_filter]
    rfl
  obtain ⟨c1, c2⟩ := id tT
  refine ⟨T, ?_, c1, fun x hx => ⟨fun tx => ?_, fun hz => ?_⟩, fun W hW sub ⟨x, hx, tx, wx⟩ => ?_⟩
  · rw [pm.length_eq, List.length_cons, len]
    omega
  · -- each joint is an end
    by_cases q : ∃ a ∈ l, (barAt nb a).1 = x ∨ (barAt nb a).2 = x
    · exact q
    · exfalso
      have no : ∀ a ∈ l, (barAt nb a).1 ≠ x ∧ (barAt nb a).2 ≠ x := fun a ha => ⟨fun z => q ⟨a, ha, .inl z⟩, fun z => q ⟨a, ha, .inr z⟩⟩
      have il : i ∈ l := (t5 i).mpr ⟨hi, ⟨t2, t3⟩, .inl rfl⟩
      have cw := card_wo hx tx
      have two : 2 ≤ card n (wo T x) := two_le_card o.1 o.2.1 o.2.2 (by have := (no i il).1; simp [wo, t2, this]) (by have := (no i il).2; simp [wo, t3, this])
      have e : ins (lj.map (barAt nb)) (wo T x) = ins (lj.map (barAt nb)) T := by
        unfold ins
        rw [List.countP_map, List.countP_map]
        refine countP_same fun a ha => ?_
        show (wo T x (barAt nb a).1 && wo T x (barAt nb a).2) = (T (barAt nb a).1 && T (barAt nb a).2)
        cases z : (T (barAt nb a).1 && T (barAt nb a).2) with
        | true =>
          rw [Bool.and_eq_true] at z
          have hm : a ∈ l := (t5 a).mpr ⟨hj a ha, z, .inr ha⟩
          have n1 := (no a hm).1
          have n2 := (no a hm).2
          simp [wo, z.1, z.2, n1, n2]
        | false =>
          unfold wo
          rw [Bool.and_eq_false_iff] at z
          rcases z with z | z <;> simp [z]
      have := sl _ two
      omega
  · obtain ⟨a, ha, q⟩ := hz
    obtain ⟨_, ⟨h1, h2⟩, _⟩ := (t5 a).mp ha
    rcases q with rfl | rfl
    · exact h1
    · exact h2
  · rw [ins_perm (pm.map (barAt nb)), List.map_cons, ins_cons]
    have a1 := cnt W
    have a2 := sl W hW
    by_cases both : W (barAt nb i).1 = true ∧ W (barAt nb i).2 = true
    · have : ¬ Tight n (lj.map (barAt nb)) W := fun tW => by
        have := t4 W tW both.1 both.2 x hx tx
        rw [wx] at this
        cases this
      have lt : ins (lj.map (barAt nb)) W + 3 ≠ 2 * card n W := fun e => this ⟨hW, e⟩
      rw [both.1, both.2]
      show _ + 1 + 3 ≤ _
      omega
    · have e0 : (W (barAt nb i).1 && W (barAt nb i).2).toNat = 0 := by
        cases z1 : W (barAt nb i).1 <;> cases z2 : W (barAt nb i).2 <;> first | rfl | exact (both ⟨z1, z2⟩).elim
      rw [e0]
      omega
end
end Fr

/-! isinstance of an exception that is known as a thing of the heap that stays as it is. -/
namespace Ex0
open PySem PySem.Spec PyProof.Rows L2
def rIsEr (K : PySem.W.Frag) : List V → Hp → VK → Prop := fun xs H Q => ∃ (a D : Addr) (o : Obj) (u : HO) (c : V) (cv : Value) (b : Bool), xs = [.ref a, c] ∧ H a = some (.frz o u) ∧ o.cls = .ref D ∧ o.dict = none ∧ (∃ vs, o.data = .fields vs) ∧ ExcC K D ∧
  (∀ w, RelV c w → w = cv) ∧ PySem.W.kitOne K (.ref D) cv = some b ∧ Q (.bl b) H
theorem call_isEr {X : Cx} : CallR X (.builtin "isinstance") (rIsEr X.K) := by
  intro pins s σ H xs us Q I r h
  obtain ⟨a, D, oe, uo, c, cv, b, rfl, hH, hc, hd, ⟨vs, hv⟩, C, hcv, e, q⟩ := h
  cases r with
  | cons rx rr =>
    cases rr with
    | cons rt rr =>
      cases rr
      cases rx
      have ec := hcv _ rt
      subst ec
      have hget : s.heap.get? a = some oe := (I.hok a _ hH).1
      have J : PySem.W.InstAt s.heap a oe D none := by
        obtain ⟨oc, od, oda, osl⟩ := oe
        dsimp only at hc hd hv
        subst hc hd hv
        exact ⟨hget, rfl, rfl, trivial⟩
      exact PySem.W.kia_one (PySem.W.handS_kitx_exc C.hg C.hk C.hs C.hd C.ha C.hn C.ht C.hm) I.kIn J e (fun z => nomatch z) fun tk => ⟨.bl b, H, I.kept (t' := tk) fun _ _ z => z, rfl, q⟩
end Ex0

/-! A call that is handed the exception that the suite holds: the callee knows it as a thing of the heap that stays as it is. -/
namespace Ex0
open PySem PySem.Spec PyProof.Rows L2
def xt : HO := .ext fun _ => True
def era (a : Addr) (H : Hp) : Hp := fun b => if b = a then none else H b
theorem era_same {a : Addr} {H : Hp} : era a H a = none := if_pos rfl
theorem era_ne {a b : Addr} {H : Hp} (h : b ≠ a) : era a H b = H b := if_neg h
section
variable {X : Cx} {pins : List (Addr × Obj)} {σ : L2.St} {H : Hp} {s : Shared} {a : Addr} {oe : Obj} {vs : Array Value}
theorem hold_in (I : Inv X pins σ H s) (ha : s.heap.get? a = some oe) (hd : oe.data = .fields vs) (na : H a = none) (nK : X.K.lookup a = none) (nL : a ≠ X.env.locals) (nF : a ∉ X.fs) :
    Env0 X.prog X.w X.K X.mg (PySem.W.hideAll X.base [a]) X.A X.stack s (upd H a (.frz oe xt)) := by
  have nns : ∀ (L : Addr) (m : Str → Option Value), X.base.Ns L m → L ≠ a := fun L m h z => by
    obtain ⟨o, es, ep, e, d, _⟩ := h
    have q := (I.bs L o e).1
    rw [z, ha] at q
    have q := Option.some.inj q
    subst q
    rw [hd] at d
    cases d
  have keep : ∀ L, L ≠ a → ∀ o, X.base.get? L = some o → (PySem.W.hideAll X.base [a]).get? L = some o := fun L h o e => PySem.W.hideAll_get _ e fun z => h (List.mem_singleton.mp z)
  have nS : ∀ b ∈ frs X.stack, b ≠ a := fun b hb z => by
    rcases List.mem_cons.mp (I.stkSub b hb) with e | e
    · exact nL (z.symm.trans e)
    · exact nF (z ▸ e)
  have up : ∀ b o, H b = some o → upd H a (.frz oe xt) b = some o := fun b o e => by
    rw [upd_ne fun z => by rw [z, na] at e; cases e]
    exact e
  obtain ⟨mk, mG, ⟨mb, mB, hB⟩, mN⟩ := I.ok.mod
  refine ⟨I.ok.frames, ⟨fun b o e => keep b (fun z => by rw [z, nK] at e; cases e) o (mk b o e), mG.at (keep _ (nns _ _ mG)), ⟨mb, mB.at (keep _ (nns _ _ mB)), hB⟩, ?_⟩, fun b o e => ?_, ?_, ?_, fun b hb => ?_, fun b o e => ?_, I.bare⟩
  · obtain ⟨mc, h1, h2⟩ := mN
    exact ⟨mc, h1.at (keep _ (nns _ _ h1)), h2⟩
  · have e1 := PySem.W.of_hideAll _ e
    have ne : b ≠ a := fun z => by
      rw [PySem.W.hideAll_none [a] (List.mem_singleton.mpr z)] at e
      cases e
    rw [upd_ne ne]
    exact I.bs b o e1
  · rw [PySem.W.hideAll_size]
    exact Nat.le_trans I.ok.bsz I.sz
  · refine funFrames_none I.stack fun L hL => ?_
    cases q : (PySem.W.hideAll X.base [a]).get? L with
    | none => rfl
    | some o =>
      have z := (I.stack.mem hL).1
      rw [PySem.W.of_hideAll _ q] at z
      cases z
  · rw [upd_ne (nS b hb)]
    exact I.stkFree b hb
  · by_cases hb : b = a
    · subst hb
      rw [upd_same] at e
      cases e
      exact ⟨ha, trivial, ⟨_, ha⟩, fun _ _ _ _ => trivial⟩
    · rw [upd_ne hb] at e
      exact (I.hok b o e).stay (fun _ _ _ q => q) (fun c q => up c _ q) fun c xs q => up c _ q
theorem hold_out (I : Inv X pins σ H s) {s' : Shared} {Q Q' : VK} {u : Value} (ha : s.heap.get? a = some oe) (na : H a = none) (nL : a ≠ X.env.locals) (nF : a ∉ X.fs) (h : CE X.stack X.prog X.w (upd H a (.frz oe xt)) s Q u s')
    (hQ : ∀ v H', H' a = some (.frz oe xt) → Q v H' → Q' v (era a H')) : EP X pins σ Q' u s' := by
  obtain ⟨v, H', os, bare, un, hok, r, q⟩ := h
  have z : H' a = some (.frz oe xt) := un.frzs a oe xt upd_same
  have za : s'.heap.get? a = some oe := (hok a _ z).1
  have ne : ∀ {b o}, H b = some o → b ≠ a := fun {b o} e w => by rw [w, na] at e; cases e
  have nS : ∀ b ∈ frs X.stack, b ≠ a := fun b hb z => by
    rcases List.mem_cons.mp (I.stkSub b hb) with e | e
    · exact nL (z.symm.trans e)
    · exact nF (z ▸ e)
  have un2 : Un (frs X.stack) [] H (era a H') s.heap s'.heap := by
    refine ⟨fun b o e n hb hx => ?_, fun b o e n hb hx => ?_, fun b o e n hx => ?_, un.there, fun b xs e => ?_, fun b o u e => ?_, fun b ps e => ?_⟩
    · by_cases w : b = a
      · subst w
        rw [ha] at e
        rw [za, e]
      · exact un.keep b o e (by rw [upd_ne w]; exact n) hb hx
    · exact un.slot b o e (by rw [upd_ne (nS b hb)]; exact n) hb hx
    · by_cases w : b = a
      · subst w
        exact era_same
      · rw [era_ne w]
        exact un.free b o e (by rw [upd_ne w]; exact n) hx
    · rw [era_ne (ne e)]
      exact un.tups b xs (by rw [upd_ne (ne e)]; exact e)
    · rw [era_ne (ne e)]
      exact un.frzs b o u (by rw [upd_ne (ne e)]; exact e)
    · rw [era_ne (ne e)]
      exact un.tbls b ps (by rw [upd_ne (ne e)]; exact e)
  have hok2 : HOk X.prog X.w (era a H') s'.heap := fun b o e => by
    have w : b ≠ a := fun w => by rw [w, era_same] at e; cases e
    rw [era_ne w] at e
    have ne2 : ∀ {c o}, H' c = some o → (∀ u, o ≠ .frz oe u) → c ≠ a := fun {c o} e h w => by
      rw [w, z] at e
      cases e
      exact h _ rfl
    exact (hok b o e).stay (fun _ _ _ q => q) (fun c q => by rw [era_ne (ne2 q fun _ h => by cases h)]; exact q) fun c xs q => by rw [era_ne (ne2 q fun _ h => by cases h)]; exact q
  exact I.after ⟨v, era a H', os, bare, un2, hok2, r, hQ v H' z q⟩
end
end Ex0

/-! Lists walked, tuples taken apart, comprehensions while an exception is handled. -/
namespace Ex0
open PySem PySem.Spec PyProof.Rows L2
open HotX (HotAt)
section
variable {prog : Program} {w : World} {A : Around} {E : Value → Shared → Prop} {s : Shared} {x1 : Addr}
theorem hot_stays {h h' : Heap} (hot : HotAt A x1 h) (k : ∀ o, h.get? x1 = some o → h'.get? x1 = some o) : HotAt A x1 h' := by
  obtain ⟨hh, o, vs, h1, d, c⟩ := hot
  exact ⟨hh, o, vs, k o h1, d, c⟩
/-- the end of a walk: StopIteration is made, gets its context -/
theorem stop_hot {α : Type} {it : Addr} {h0 : Heap} {Q : α → Shared → Prop} (hot : HotAt A x1 s.heap) (k : ∀ b o, b ≠ it → h0.get? b = some o → s.heap.get? b = some o)
    (hE : ∀ e h', Shared.TypeIs { s with heap := h' } (.ref e) "StopIteration" → Heap.ExtBut it h0 h' → E (.ref e) { s with heap := h' }) :
    wpAny (model prog w) A (newExc (.type "StopIteration") [] >>= fun e => (raiseNew e : Sem α)) Q E s := by
  obtain ⟨hh, o1, vs1, h1, d1, c1⟩ := hot
  refine wpAny_bind ?_
  simp only [newExc, newTuple]
  refine wpAny_bind (wpAny_newObj_type ?_ (by size_fits))
  refine wpAny_bind (m := firstArgMember _ _) (wpAny_of_eq (a := Value.none) (by first | rfl | (simp only [firstArgMember]; rfl)) ?_)
  refine wpAny_newObj_type ?_ (by size_fits)
  refine HotX.raiseNew_hot ⟨hh, o1, vs1, Heap.get?_push_of_some _ (Heap.get?_push_of_some _ h1), d1, c1⟩ (Nat.ne_of_lt (Heap.lt_size (Heap.get?_push_of_some _ h1))) (Heap.get?_push_size _ rfl) rfl (by first | (simp; done) | (simp; omega)) ?_
  refine hE _ _ ⟨_, Heap.get?_update_self _ (Heap.get?_push_size _ rfl) rfl, rfl⟩ fun b o hb e => ?_
  rw [Heap.get?_update_other _ _ (Nat.ne_of_gt (Heap.lt_size (Heap.get?_push_of_some _ (k b o hb e))))]
  exact Heap.get?_push_of_some _ (Heap.get?_push_of_some _ (k b o hb e))
theorem list_end_hot {it l : Addr} {i : Nat} {items : Array Value} {Q : Option Value → Shared → Prop} (hot : HotAt A x1 s.heap) (ne : x1 ≠ it) (hit : s.heap.IsListIter it l i) (hl : s.heap.IsList l items) (hx : items[i]? = none)
    (hQ : ∀ h', Heap.ExtBut it s.heap h' → Q none { s with heap := h' }) : wpAny (model prog w) A (pyNext (.ref it)) Q E s := by
  obtain ⟨oi, hoi, hci, hdi⟩ := id hit
  obtain ⟨ol, hol, _, nl, hdl⟩ := hl
  unfold pyNext
  refine wpAny_bind (wpAny_attempt (wpAny_callSpecial?_slot (name := Str.ofString "__next__") hit.typeIs slot_listiter_next (wpAny_call_entry slot_listiter_next hit.typeIs entry_listiter_next ?_ (args_listiter_next _))))
  show wpAny _ _ (field (.ref it) 0 >>= _) _ _ s
  refine wpAny_bind (wpAny_field hoi hdi (x := .ref l) rfl ?_)
  show wpAny _ _ (if (Value.ref l == Value.none) = true then _ else _) _ _ s
  rw [if_neg (show ¬ ((Value.ref l == Value.none) = true) from Bool.false_ne_true)]
  show wpAny _ _ (field (.ref it) 1 >>= _) _ _ s
  refine wpAny_bind (wpAny_field hoi hdi (x := .int i 0) rfl ?_)
  show wpAny _ _ (seqItems? (.ref l) >>= _) _ _ s
  refine wpAny_bind (wpAny_seqItems hol hdl ?_)
  simp only [Int.toNat_natCast, hx]
  refine wpAny_bind (wpAny_rule (wpAny_bind (wpAny_setField hoi hdi (by simp) ?_)))
  have kk : ∀ b o, b ≠ it → s.heap.get? b = some o → (s.heap.update it (Obj.mapFields (·.setIfInBounds 0 Value.none))).get? b = some o := fun b o hb e => (Heap.get?_update_other _ _ (Ne.symm hb)).trans e
  refine stop_hot (A := A.in1) (h0 := s.heap) (it := it) (hot_stays (A := A.in1) (h := s.heap) hot fun o e => kk _ o ne e) kk fun e h' ty ex => ?_
  exact wpAny_bind (wpAny_isInstance (T := "StopIteration") (b := true) ty isSubtype_stop (wpAny_pure (hQ h' ex)))
theorem tup_end_hot {it t : Addr} {i : Nat} {items : Array Value} {Q : Option Value → Shared → Prop} (hot : HotAt A x1 s.heap) (ne : x1 ≠ it) (hit : IsTupIter s.heap it t i) (ht : IsTup s.heap t items) (hx : items[i]? = none)
    (hQ : ∀ h', Heap.ExtBut it s.heap h' → Q none { s with heap := h' }) : wpAny (model prog w) A (pyNext (.ref it)) Q E s := by
  obtain ⟨oi, hoi, hci, hdi⟩ := id hit
  obtain ⟨ol, hol, _, nl, hdl⟩ := ht
  unfold pyNext
  refine wpAny_bind (wpAny_attempt (wpAny_callSpecial?_slot (name := Str.ofString "__next__") hit.typeIs slot_tupleiter_next (wpAny_call_entry slot_tupleiter_next hit.typeIs entry_tupleiter_next ?_ (args_tupleiter_next _))))
  show wpAny _ _ (field (.ref it) 0 >>= _) _ _ s
  refine wpAny_bind (wpAny_field hoi hdi (x := .ref t) rfl ?_)
  show wpAny _ _ (if (Value.ref t == Value.none) = true then _ else _) _ _ s
  rw [if_neg (show ¬ ((Value.ref t == Value.none) = true) from Bool.false_ne_true)]
  show wpAny _ _ (field (.ref it) 1 >>= _) _ _ s
  refine wpAny_bind (wpAny_field hoi hdi (x := .int i 0) rfl ?_)
  show wpAny _ _ (seqItems? (.ref t) >>= _) _ _ s
  refine wpAny_bind (wpAny_seqItems hol hdl ?_)
  simp only [Int.toNat_natCast, hx]
  refine wpAny_bind (wpAny_rule (wpAny_bind (wpAny_setField hoi hdi (by simp) ?_)))
  have kk : ∀ b o, b ≠ it → s.heap.get? b = some o → (s.heap.update it (Obj.mapFields (·.setIfInBounds 0 Value.none))).get? b = some o := fun b o hb e => (Heap.get?_update_other _ _ (Ne.symm hb)).trans e
  refine stop_hot (A := A.in1) (h0 := s.heap) (it := it) (hot_stays (A := A.in1) (h := s.heap) hot fun o e => kk _ o ne e) kk fun e h' ty ex => ?_
  exact wpAny_bind (wpAny_isInstance (T := "StopIteration") (b := true) ty isSubtype_stop (wpAny_pure (hQ h' ex)))
theorem apart_hot {t : Addr} {items : Array Value} {Q : List Value → Shared → Prop} (hot : HotAt A x1 s.heap) (ht : IsTup s.heap t items)
    (hQ : ∀ h', Heap.ExtBut s.heap.objs.size s.heap h' → Q items.toList { s with heap := h' }) : wpAny (model prog w) A (unpackItems (.ref t) items.size none) Q E s := by
  have ht1 : t ≠ s.heap.objs.size := by
    obtain ⟨o, ho, _⟩ := ht
    exact Nat.ne_of_lt (Heap.lt_size ho)
  have hx1 : x1 ≠ s.heap.objs.size := by
    obtain ⟨_, o, _, ho, _⟩ := hot
    exact Nat.ne_of_lt (Heap.lt_size ho)
  unfold unpackItems
  refine wpAny_bind ?_
  unfold notIterableAtAll
  refine wpAny_bind (wpAny_specialOf ht.typeIs slot_tuple_iter.lookup (wpAny_pure ?_))
  simp only [Bool.false_eq_true, if_false]
  refine wpAny_bind (wpAny_holding (iter_tuple ht (wpAny_bind (wpAny_holding (draw_tuple ht1 items.size 0 _ _ ⟨_, Heap.get?_push_size _ rfl, rfl, rfl⟩ (ht.push _) (by omega) fun h1 hi1 sb1 => ?_)))))
  rw [show List.take items.size (List.drop 0 items.toList) = items.toList from by rw [List.drop_zero]; exact List.take_of_length_le (by simp), if_neg (by simp)]
  refine wpAny_bind (wpAny_holding (tup_end_hot (hot_stays hot fun o e => sb1.extBut _ o hx1 (Heap.get?_push_of_some _ e)) hx1 hi1 ((ht.push _).extBut sb1.extBut ht1) (by simp) fun h2 eb2 => ?_))
  simp only [Option.isSome_none, Bool.false_eq_true, if_false]
  exact wpAny_pure (hQ h2 fun b o hb e => eb2 b o hb (sb1.extBut b o hb (Heap.get?_push_of_some _ e)))
theorem pull_hot {env : Env} {elts : List Expr} {kk : Nat} {pos : Pos} {t : Addr} {items : Array Value} {Q : Unit → Shared → Prop} (hot : HotAt A x1 s.heap) (ht : IsTup s.heap t items) (hn : (assignEach elts env).length = items.size)
    (hst : (assignEach elts env).findIdx? (·.1) = none) (h : ∀ h', Heap.ExtBut s.heap.objs.size s.heap h' → wpAny (model prog w) A (assignInOrder ((assignEach elts env).map (·.2)) items.toList) Q E { s with heap := h' }) :
    wpAny (model prog w) A (assign (.Tuple elts kk pos) env (.ref t)) Q E s := by
  rw [assign_Tuple]
  refine wpAny_bind (wpAny_standAt ?_)
  unfold unpack
  rw [hn, hst]
  exact wpAny_bind (wpAny_holding (apart_hot hot ht h))
end
/-! ### a context that bears the handled exception as a thing that stays -/
def Hott (X : Cx) : Prop := ∃ (a : Addr) (oe : Obj) (fs : Array Value), X.A.handled = some (.ref a) ∧ X.H_0 a = some (.frz oe xt) ∧ oe.data = .fields fs ∧ fs[2]? = some .none
section
variable {X : Cx} {pins : List (Addr × Obj)} {σ : L2.St} {H : Hp} {s : Shared}
theorem Hott.at (c : Hott X) (I : Inv X pins σ H s) : ∃ x1, HotAt X.A x1 s.heap ∧ H x1 ≠ none := by
  obtain ⟨a, oe, fs, hh, h0, hd, hc⟩ := c
  have q := I.base.frzs a oe xt h0
  exact ⟨a, ⟨hh, oe, fs, (I.hok a _ q).1, hd, hc⟩, by rw [q]; exact fun z => by cases z⟩
theorem pg_tupX {es : List Expr} {k : Nat} {t : TGs} {n : Nat} {pos : Pos} (hc : Hott X) (h : PGs X es t) (hn : (assignEach es X.env).length = n := by rfl) (hst : (assignEach es X.env).findIdx? (·.1) = none := by rfl) : PG X (.Tuple es k pos) (gTup X.K n t) := by
  refine ⟨fun pins s σ H v u Q I r hw => ?_⟩
  obtain ⟨b, xs, rfl, hq, hl, hw⟩ := hw
  cases r
  obtain ⟨its, rv, ht, _⟩ := I.tuple hq
  obtain ⟨x1, hot, _⟩ := hc.at I
  refine pull_hot hot ht (by simp [hn, ← hl, rv.length]) hst fun h' hx => ?_
  exact h.run pins _ σ H xs _ Q (I.kept (t' := s.toks) fun b o e => hx b o (Nat.ne_of_lt (Heap.lt_size e)) e) (by simpa using rv) hw
end
end Ex0

/-! A list comprehension over a list while an exception is handled. -/
namespace Ex0
open PySem PySem.Spec PyProof.Rows L2
open HotX (HotAt)
section
variable {X : Cx}
theorem lc_hot {pins : List (Addr × Obj)} {s : Shared} {σ : L2.St} {H : Hp} {Q : VK} {elt tg l : Expr} {ifs : List Expr} {scope : Scope} {own : List (Str × Nat)} {pos pos' : Pos} {tl : TE} {g : TG} {tt : TT} {te : TE} {use : Option (Value → Sem Unit)} {Qf : Value → Shared → Prop}
    (hc : Hott X) (hN : X.N.Nodup) (I : Inv X pins σ H s) (hl : PE X l tl) (ok : BlkOk X.N X.env.scope scope own)
    (hg : ∀ s H C cl fp, Hott (X.blk s H scope (compEnvC scope cl C X.env) fp) → PG (X.blk s H scope (compEnvC scope cl C X.env) fp) tg g) (ht : ∀ s H C cl fp, PTs (X.blk s H scope (compEnvC scope cl C X.env) fp) ifs tt)
    (he : ∀ s H C cl fp, PE (X.blk s H scope (compEnvC scope cl C X.env) fp) elt te) (hs : ∀ x, foldedSetIterable l X.env x = pure x) (h : tLc (iList X.K tl) g tt te (own.map (·.2)) σ H Q)
    (hRR : ∀ D C s' m H', Inv X pins σ H' s' → Q (.ref D) H' → s'.heap.Ns C m → FpOk X pins H' C → compPost (model X.prog X.w) X.A X.xe use Qf (.ref D) C (.ok .next) s') :
    wpAny (model X.prog X.w) X.A (comprehension (.ListComp elt [⟨tg, l, ifs, 0⟩] scope pos) scope X.env pos' (newList []) false (eval l X.env) use) Qf X.xe s := by
  have frees : ∀ y ∈ scope.names, y.2 = .free → ∃ c, X.env.cells.lookup y.1 = some c := fun y hy e => (ok.free y hy e).elim (fun k => I.ok.has _ (.inl k)) fun k => I.ok.has _ (.inr k)
  refine wpAny_comprehension_free (use := use) rfl hs (closure_ok frees) ok.kind (fun y hy e => by rw [ok.uniq y hy, e]) (thn (hl.run pins s σ H _ I h) fun xv s1 hx => ?_)
  obtain ⟨x, H1, I1, r1, a, rfl, ⟨xs0, hq0⟩, q⟩ := hx
  cases r1
  obtain ⟨its0, _, p0, _⟩ := I1.list hq0
  refine wpAny_pyIter_list p0.isList ?_
  have f1 : FpOk X pins H1 s1.heap.objs.size := I1.fpOk (Nat.le_refl _) (I1.hok.fresh (Nat.le_refl _))
  have I2 : Inv X pins σ H1 { s1 with heap := s1.heap.push { cls := .type "list_iterator", data := .fields #[.ref a, .int 0 0] } } := I1.kept (t' := s1.toks) fun b o e => Heap.get?_push_of_some _ e
  have it2 : Heap.IsListIter (s1.heap.push { cls := .type "list_iterator", data := .fields #[.ref a, .int 0 0] }) s1.heap.objs.size a 0 := ⟨_, Heap.get?_push_size _ rfl, rfl, rfl⟩
  generalize s1.heap.objs.size = it at f1 it2 ⊢
  change wpAny _ _ _ _ _ ({ s1 with heap := s1.heap.push { cls := .type "list_iterator", data := .fields #[.ref a, .int 0 0] } } : Shared)
  generalize hs2 : ({ s1 with heap := s1.heap.push { cls := .type "list_iterator", data := .fields #[.ref a, .int 0 0] } } : Shared) = s2 at I2 ⊢
  have it2 : s2.heap.IsListIter it a 0 := by rw [← hs2]; exact it2
  refine wpAny_newObj_type (newEnv_comp ?_) (by show 0 ≤ sizeLine; decide)
  have nD : H1 s2.heap.objs.size = none := I2.hok.fresh (Nat.le_refl _)
  obtain ⟨W, ⟨m0, w0⟩, turn⟩ := q _ nD
  have lt2 : it < s2.heap.objs.size := by
    obtain ⟨o, e, _⟩ := it2
    exact Heap.lt_size e
  have I3 : Inv X pins σ (upd H1 s2.heap.objs.size (.lst [])) { s2 with heap := s2.heap.push { cls := .type "list", data := .seq ([] : List Value).toArray } } :=
    I2.laid (t' := s2.toks) (fun b o e => Heap.get?_push_of_some _ e) (Nat.le_refl _) ⟨Nat.zero_le _, [], 0, .nil, Heap.get?_push_size _ rfl⟩
  have f3 : FpOk X pins (upd H1 s2.heap.objs.size (.lst [])) it := ⟨by rw [upd_ne (Nat.ne_of_lt lt2)]; exact f1.1, f1.2⟩
  have it3 : Heap.IsListIter (s2.heap.push { cls := .type "list", data := .seq ([] : List Value).toArray }) it a 0 := it2.at fun o e => Heap.get?_push_of_some _ e
  have lt3 : it < (s2.heap.push { cls := .type "list", data := .seq ([] : List Value).toArray }).objs.size := by
    rw [Heap.size_push]
    exact Nat.lt_succ_of_lt lt2
  generalize s2.heap.objs.size = D at *
  generalize upd H1 D (.lst []) = H3 at *
  generalize hs3 : ({ s2 with heap := s2.heap.push { cls := .type "list", data := .seq ([] : List Value).toArray } } : Shared) = s3 at I3 ⊢
  have e3 : s3.heap = s2.heap.push { cls := .type "list", data := .seq ([] : List Value).toArray } := by rw [← hs3]
  rw [← e3] at it3 lt3
  have I4 := block_start (fp := [it]) I3 ok hN fun b hb => by rw [List.mem_singleton.mp hb]; exact ⟨f3, lt3⟩
  have pg := hg s3 H3 s3.heap.objs.size (cellsFrom (s3.heap.objs.size + 1) scope.names (cloFrom X.env.cells scope.names [])) [it]
  have pt := ht s3 H3 s3.heap.objs.size (cellsFrom (s3.heap.objs.size + 1) scope.names (cloFrom X.env.cells scope.names [])) [it]
  have pe := he s3 H3 s3.heap.objs.size (cellsFrom (s3.heap.objs.size + 1) scope.names (cloFrom X.env.cells scope.names [])) [it]
  have goal : codeAny (model X.prog X.w) X.A (.compStart (.ListComp elt [⟨tg, l, ifs, 0⟩] scope pos) 0 (.ref it) (.ref D) (compEnvC scope (cellsFrom (s3.heap.objs.size + 1) scope.names (cloFrom X.env.cells scope.names [])) s3.heap.objs.size X.env))
      (compPost (model X.prog X.w) X.A X.xe use Qf (.ref D) s3.heap.objs.size) { s3 with heap := pushCells (s3.heap.push { cls := .type "dict", data := .dict #[] }) scope.names } := by
    generalize hv : compEnvC scope (cellsFrom (s3.heap.objs.size + 1) scope.names (cloFrom X.env.cells scope.names [])) s3.heap.objs.size X.env = cv at I4 pg pt pe ⊢
    have lv : cv.locals = s3.heap.objs.size := by rw [← hv]; rfl
    have it4 : (pushCells (s3.heap.push { cls := .type "dict", data := .dict #[] }) scope.names).IsListIter it a 0 := it3.at fun o e => pushCells_keeps _ _ _ _ (Heap.get?_push_of_some _ e)
    have hot : Hott (X.blk s3 H3 scope cv [it]) := by
      obtain ⟨b, oe, fs, hh, h0, hd, hx⟩ := hc
      exact ⟨b, oe, fs, hh, I3.base.frzs b oe xt h0, hd, hx⟩
    have pg := pg hot
    generalize hs4 : ({ s3 with heap := pushCells (s3.heap.push { cls := .type "dict", data := .dict #[] }) scope.names } : Shared) = s4 at I4 ⊢
    have it4 : s4.heap.IsListIter it a 0 := by rw [← hs4]; exact it4
    have stat : ∀ {σ' : L2.St} {H' : Hp} {s' : Shared}, Inv (X.blk s3 H3 scope cv [it]) [] σ' H' s' → H' it = none → FpOk (X.blk s3 H3 scope cv [it]) [] H' it := fun {σ' H' s'} J n =>
      ⟨n, (J.ok.exf it (List.mem_singleton.mpr rfl)).1, J.ok.exfs it (List.mem_singleton.mpr rfl), .inl (List.mem_singleton.mpr rfl), fun x c e => (J.ok.exf it (List.mem_singleton.mpr rfl)).2 x c e, fun p hp => by cases hp⟩
    refine codeAny_compStart_list ?_ (wpAny_pyIter_listiter it4 ?_)
    all_goals
      refine compLoop_any (fun n s' => ∃ i H', Inv (X.blk s3 H3 scope cv [it]) [] (wipe σ (own.map (·.2))) H' s' ∧ s'.heap.IsListIter it a i ∧ H' it = none ∧ W i n H') ?_ m0 ⟨0, H3, I4, it4, f3.1, w0⟩
      rintro n s5 ⟨i, H5, I5, it5, n5, w5⟩
      obtain ⟨f0, g1, g2, g3, g4, g5⟩ := stat I5 n5
      rcases turn i n H5 w5 with ⟨⟨xs, hq, hx⟩, qq⟩ | ⟨⟨xs, x, hq, hx⟩, Nx, hNx, step⟩
      · obtain ⟨its, rv, p, _⟩ := I5.list hq
        obtain ⟨x1, ho, nx⟩ := hot.at I5
        have len := rv.length
        refine list_end_hot ho (fun z => nx (z ▸ n5)) it5 p.isList (by simp; omega) fun h' eb => ?_
        have I6 : Inv (X.blk s3 H3 scope cv [it]) [] (wipe σ (own.map (·.2))) H5 { s5 with heap := h' } := I5.turned (t' := s5.toks) (fun b o hb e => eb b o hb e) f0 g1 g3 g4 g5
        have I7 : Inv X pins σ H5 { s5 with heap := h' } := I3.call' (ch := [it]) I6.os I6.base I6.hok I6.bare fun b hb => by
          rw [List.mem_singleton.mp hb]
          exact ⟨f3.2.2.2.1, f3.2.1, f3.2.2.2.2.1, f3.2.2.2.2.2⟩
        have nC : H5 s3.heap.objs.size = none := by
          have z : H5 cv.locals = none := I6.free
          rwa [lv] at z
        obtain ⟨m, hn, _⟩ := I6.loc
        have hn : h'.Ns cv.locals m := hn
        rw [lv] at hn
        exact hRR D _ _ m H5 I7 qq hn (I3.fpOk (Nat.le_refl _) nC)
      · obtain ⟨its, rv, p, _⟩ := I5.list hq
        obtain ⟨u, hu, ru⟩ := rv.get hx
        refine wpAny_pyNext_list_item it5 p.isList (x := u) (by simpa using hu) fun h' it6 sb => ?_
        have I6 : Inv (X.blk s3 H3 scope cv [it]) [] (wipe σ (own.map (·.2))) H5 { s5 with heap := h' } := I5.turned (t' := s5.toks) (fun b o hb e => (sb.2 b hb).trans e) f0 g1 g3 g4 g5
        have y7 : (Itl X.K a).yld i H5 x H5 := ⟨rfl, fun ys hy => by rw [I5.list_inj hy hq]; exact hx⟩
        obtain ⟨oi, eo, co, dd⟩ := id it6
        refine go_of (s := { s5 with heap := h' }) eo co dd (by decide) ?_
        have I8 := I6.pinned (fp := [it]) (fun b hb => by rw [List.mem_singleton.mp hb]; exact stat I6 n5) fun b hb => by
          rw [List.mem_singleton.mp hb]
          exact ⟨oi, eo, fun v z => by rw [dd] at z; cases z⟩
        refine thnF (pg.run _ _ _ H5 x u _ I8 ru (step x H5 y7)) fun _ s8 ⟨σ8, H8, I9, w8, q8⟩ => ?_
        refine thnF (pt.run _ s8 σ8 H8 _ I9 q8) fun b s9 ⟨H9, I10, q9⟩ => ?_
        have fin : ∀ {s' : Shared} {H' : Hp}, Inv (X.blk s3 H3 scope cv [it]) ([] ++ pinsAt [it] h') σ8 H' s' → Nx H' → ∃ m, m < n ∧ ∃ i H', Inv (X.blk s3 H3 scope cv [it]) [] (wipe σ (own.map (·.2))) H' s' ∧ s'.heap.IsListIter it a i ∧ H' it = none ∧ W i m H' := fun {s' H'} J nx => by
          obtain ⟨m', hm, w'⟩ := hNx H' nx
          have z := J.pin (it, oi) (List.mem_append_right _ (List.mem_append_right _ (mem_pinsAt (List.mem_singleton.mpr rfl) eo)))
          refine ⟨m', hm, i + 1, H', (J.unpinned (pins := [])).weak (by rw [← w8, wipe_length]) (fun j v e => ?_), it6.at fun o e => ?_, z.2.1, w'⟩
          · rw [← w8] at e
            exact (wipe_some e).1
          · have e : h'.get? it = some o := e
            rw [eo] at e
            cases e
            exact z.1
        cases b with
        | false =>
          simp only [Bool.false_eq_true, if_false] at q9 ⊢
          exact fin I10 q9
        | true =>
          simp only [if_true] at q9 ⊢
          refine thnF (pe.run _ s9 σ8 H9 _ I10 q9) fun z s10 ⟨yv, H10, I11, r10, acc, hD, hz, nx⟩ => ?_
          exact app_ok (X := X.blk s3 H3 scope cv [it]) I11 hD hz r10 fun s11 I12 => fin I12 nx
  subst hs3
  exact goal
/-- name = [..] on one line, the name a local -/
theorem ps_lcHot {i : Nat} {y : Str} {py : Pos} {elt tg l : Expr} {ifs : List Expr} {scope : Scope} {own : List (Str × Nat)} {pos spos : Pos} {tl : TE} {g : TG} {tt : TT} {te : TE} (hc : Hott X) (hN : X.N.Nodup) (hy : X.N[i]? = some y) (hyl : X.env.scope.names.lookup y = some .local)
    (hsw : swapsWith (.ListComp elt [⟨tg, l, ifs, 0⟩] scope pos) (some (.Name y py)) spos.line X.env = pure true) (hl : PE X l tl) (ok : BlkOk X.N X.env.scope scope own)
    (hg : ∀ s H C cl fp, Hott (X.blk s H scope (compEnvC scope cl C X.env) fp) → PG (X.blk s H scope (compEnvC scope cl C X.env) fp) tg g) (ht : ∀ s H C cl fp, PTs (X.blk s H scope (compEnvC scope cl C X.env) fp) ifs tt)
    (he : ∀ s H C cl fp, PE (X.blk s H scope (compEnvC scope cl C X.env) fp) elt te) (hs : ∀ x, foldedSetIterable l X.env x = pure x := by intro _; rfl) :
    PS X (.Assign [.Name y py] (.ListComp elt [⟨tg, l, ifs, 0⟩] scope pos) spos) (tAsg (tLc (iList X.K tl) g tt te (own.map (·.2))) (gName i)) := by
  refine ⟨fun pins s σ H D I h => ?_⟩
  rw [exec_Assign_Name_used _ _ _ _ hsw]
  refine wpAny_bind (wpAny_standAt (wpAny_bind ?_))
  change wpAny _ X.A (do let _ ← comprehension (.ListComp elt [⟨tg, l, ifs, 0⟩] scope pos) scope X.env (firstIterPos [⟨tg, l, ifs, 0⟩] pos) (newList []) false (eval l X.env) (some (assign (.Name y py) X.env))) _ _ s
  refine wpAny_bind (thn (lc_hot (Q := fun x H1 => gName i x σ H1 D.nx) (Qf := fun _ s' => SP X pins D .next s') hc hN I hl ok hg ht he hs h fun L C s' m H' J q hn f => ?_) fun _ s' hq => wpAny_pure (wpAny_pure hq))
  change wpAny _ _ (assign (.Name y py) X.env (.ref L)) _ _ _
  refine wpAny_assign_Name (store_ok2 (v := V.ref L) J hN hy (.inl hyl) rfl (fun s2 J2 ⟨b, sb, hb⟩ => ?_) (.inr hyl))
  obtain ⟨f0, f1, f2, f3, f4, f5⟩ := f
  have nb : C ≠ b := hb.elim (fun z => by rw [z]; exact f1) fun z e => f4 y b z e.symm
  exact ⟨m, hn.sameBut sb nb, fun h3 sb3 => ⟨_, H', J2.turned (t' := s2.toks) (fun b o hb e => (sb3.2 b hb).trans e) f0 f1 f3 f4 f5, q⟩⟩
end
end Ex0

/-! A def that is handed the exception in the suite that holds it. -/
namespace Ex0
open PySem PySem.Spec PyProof.Rows L2
open HotX (HotAt)
structure FnE (P : Program) (w : World) (K : PySem.W.Frag) (mg : Str → Option Value) (base : Heap) (k : Nat) (f : Addr) (fd : FuncData) (ps : List Str) (sp : Sp) : Prop where
  len : ∀ vs H Q E, sp vs H Q E → vs.length = ps.length
  run : ∀ (A : Around) (outer : List Env) (s : Shared) (H : Hp) (us : List Value) (vs : List V) (Q : VK) (a : Addr) (oe : Obj) (fs : Array Value), L2H.RoomH k A → A.handled = some (.ref a) → H a = some (.frz oe xt) → oe.data = .fields fs → fs[2]? = some .none →
    Env0 P w K mg base A outer s H → BindsTo s fd ⟨us, []⟩ (ps.zip us) → Vals vs us → sp vs H Q E0 → codeAny (model P w) A (.call (.ref f) ⟨us, []⟩) (CR CX0 outer P w H s Q E0) s
abbrev cxE (P : Program) (w : World) (K : PySem.W.Frag) (mg : Str → Option Value) (base : Heap) (N : List Str) (qual : Str) (scope : Scope) (f : Addr) (cd : Value) (A : Around) (outer : List Env) (s : Shared) (H : Hp) (p : Addr × Obj) : Cx :=
  L2H.cxH CX0 P w K mg base N qual scope f cd A outer s H E0 p
/-- THE RULE for such a def -/
theorem fnE_of {P : Program} {w : World} {K : PySem.W.Frag} {mg : Str → Option Value} {base : Heap} {x qual : Str} {params : Arguments} {body : List Stmt} {scope : Scope} {dvs : List V} {kws : List (Str × V)} {f : Addr} {fd : FuncData} {N ps : List Str} {k : Nat} {sp : Sp}
    (F : FunD K x qual params body scope dvs kws f fd) (S : FnScope N ps scope) (len : ∀ vs H Q E, sp vs H Q E → vs.length = ps.length)
    (hbody : ∀ (cdv : Value) (A : Around) (outer : List Env) (s : Shared) (H : Hp) (vs : List V) (Q : VK) (p : Addr × Obj), L2H.RoomH k (A.deeper (envOfC qual scope s.heap.objs.size f cdv)) → Hott (cxE P w K mg base N qual scope f cdv A outer s H p) → sp vs H Q E0 →
      ∃ t, PSs (cxE P w K mg base N qual scope f cdv A outer s H p) body t ∧ t { nx := fun _ H' => Q .non H', rt := Q } (L2.start N vs) H) : FnE P w K mg base (k + 1) f fd ps sp := by
  obtain ⟨oc, od, dV, kV, doc, pm, an, cdv, ct, osl, rfl, lk, hcd, _, _⟩ := F.ex
  refine ⟨len, fun A outer s H us vs Q a oe fs hr hh h0 hd hx e0 hb r hsp => ?_⟩
  have hl := len _ _ _ _ hsp
  have KX : K.In s.heap := e0.mod.kin.keeps fun b o e => (e0.bs b o e).1
  have lim : s.heap.NoLimit := e0.mod.nolimit.keeps fun b o e => (e0.bs b o e).1
  obtain ⟨o, es, ep, eo, dO, _⟩ := e0.mod.glob
  have pin : L2H.PinOk outer H s (mainGlobals, o) := by
    refine ⟨(e0.bs _ o eo).1, (e0.bs _ o eo).2, fun hm => ?_, fun v z => ?_⟩
    · have q := (e0.funs.mem hm).1
      rw [eo] at q
      cases q
    · have z : o.data = .cell v := z
      rw [dO] at z
      cases z
  have kinds : ∀ y ∈ ps.zip us, scope.names.lookup y.1 = some .local ∨ (scope.names.lookup y.1 = some .cell ∧ ((cellsFrom (s.heap.objs.size + 1) scope.names []).lookup y.1).isSome = true) := fun ⟨n, v⟩ hy =>
    (S.par n (List.of_mem_zip hy).1).elim .inl fun q => .inr ⟨q, PySem.W.cellsFrom_some _ _ _ (.inl q)⟩
  refine codeAny_call_function hr.depth (KX _ _ lk) rfl S.co S.gen rfl (PySem.W.codeRec_of KX hcd) (hb _ _ _ _ (wpAny_newFunctionEnv_cells S.kind kinds fun env he s1 y => ?_))
  subst he
  refine ⟨lim.keeps y.toInCall.keep, codeAny_func ?_⟩
  obtain ⟨t, ht, hq⟩ := hbody cdv A outer s H vs Q (mainGlobals, o) (hr.deeper _) ⟨a, oe, fs, hh, h0, hd, hx⟩ hsp
  have I : Inv (cxE P w K mg base N qual scope f cdv A outer s H (mainGlobals, o)) [] (L2.start N vs) H s1 := L2H.inv_startH S pin e0 hl r y
  refine wpAny_mono (ht.run [] s1 (L2.start N vs) H _ I hq) (fun fl s' q => ?_) fun _ _ q => q
  cases fl with
  | ret u =>
    obtain ⟨v, σ', H', J, rv, q⟩ := q
    exact ⟨v, H', J.os, J.bare, J.base, J.hok, rv, q⟩
  | next =>
    obtain ⟨σ', H', J, q⟩ := q
    exact ⟨V.non, H', J.os, J.bare, J.base, J.hok, rfl, q⟩
  | brk =>
    obtain ⟨_, _, _, q⟩ := q
    exact q.elim
  | cont =>
    obtain ⟨_, _, _, q⟩ := q
    exact q.elim
def CalE (P : Program) (w : World) (K : PySem.W.Frag) (mg : Str → Option Value) (base : Heap) (k : Nat) (x : Str) (ps : List Str) (sp : Sp) : Prop :=
  ∃ f fd, FnE P w K mg base k f fd ps sp ∧ mg x = some (.ref f) ∧ PySem.W.keepIn K (.ref f) = true ∧ Binds K fd ps []
/-- f(error), error the exception that the suite holds: of the class at C, with no dict -/
def tAsk (sp : Sp) (a C : Addr) (cls : Value) (d : Option Addr) (t : TA) : TE := fun σ H Q => t σ H fun vs H1 => H1 a = none →
  cls = .ref C ∧ d = none ∧ ∀ oe : Obj, oe.cls = .ref C → oe.dict = none → (∃ fs, oe.data = .fields fs) → sp vs (upd H1 a (.frz oe xt)) (fun v H' => H' a = some (.frz oe xt) → Q v (era a H')) E0
theorem pe_ask {X : Cx} {a C : Addr} {oe : Obj} {cls : Value} {d : Option Addr} {pn : List (Addr × Obj)} {k j : Nat} {x : Str} {ps : List Str} {sp : Sp} {e : Expr} {p pos : Pos} {t : TA} (CK : ∀ base, CalE X.prog X.w X.K X.mg base k x ps sp)
    (hz : L2N.Zn cls d oe) (hf : ∃ vs, oe.data = .fields vs) (nK : ∀ b o, X.K.lookup b = some o → o.cls ≠ .ref C) (hr : Room j X.A) (hj : k ≤ j) (ha : PA (X.suite a ((a, oe) :: pn)) (e :: []) t)
    (hg : Gl X x := by rfl) (hdb : (x == ("__debug__" : Str)) = false := by decide) (he : starEach (e :: []) X.env = (false, eval e X.env) :: starEach [] X.env := by rfl) (hpl : (backTo pos (starEach [] X.env)).any (·.1) = false := by rfl) :
    PE (X.suite a ((a, oe) :: pn)) (.Call (.Name x p) (e :: []) [] pos) (tAsk sp a C cls d t) := by
  obtain ⟨f, fd, F, hm, hk, hb⟩ := CK (PySem.W.hideAll X.base [a])
  refine ⟨fun pins s σ H Q I h => wpAny_Call_Name_kw (ld_glob I hg hm ?_ hdb)⟩
  refine PySem.W.callWith_K (h₀ := X.base) I.ok.mod.kin hk (thn (ha.run pos pins s σ H _ I h) fun us s1 ⟨vs, H1, I1, r, q⟩ => ⟨I1.kIn, ?_⟩) he hpl
  obtain ⟨hget, na, nL, nF, _⟩ := I1.pin (a, oe) (List.mem_append.mpr (.inl List.mem_cons_self))
  obtain ⟨e1, e2, q⟩ := q na
  obtain ⟨z1, z2, z3⟩ := hz
  have q := q oe (z1.trans e1) (z2.trans e2) hf
  obtain ⟨fs, hd⟩ := hf
  have hlen : us.length = ps.length := by rw [← r.length]; exact F.len _ _ _ _ q
  have nKa : X.K.lookup a = none := by
    cases w : X.K.lookup a with
    | none => rfl
    | some o =>
      have w2 := I1.kIn a o w
      rw [hget] at w2
      have w2 := Option.some.inj w2
      subst w2
      exact absurd (z1.trans e1) (nK a _ w)
  have b := hb s1 us I1.kIn (by rw [List.append_nil]; exact hlen)
  rw [List.append_nil] at b
  have hr := hr.mono hj
  have room : L2H.RoomH k (X.suite a ((a, oe) :: pn)).A := ⟨hr.dp, hr.un⟩
  refine wpAny_call (codeAny_mono (F.run _ _ s1 _ us vs _ a oe fs room rfl upd_same hd (z3 fs hd) (hold_in I1 hget hd na nKa nL nF) b r q) fun r s' hq => ?_)
  cases r with
  | error e => exact hq.elim
  | ok fl =>
    cases fl with
    | ret u => exact hold_out I1 hget na nL nF hq fun v H' h1 h2 => h2 h1
    | next => exact False.elim hq
    | brk => exact False.elim hq
    | cont => exact False.elim hq
end Ex0

/-! Refusals as data: a def that raises, the suite that asks which class it was. -/
namespace Pl
open PySem PySem.Spec PyProof.Rows L2
open Evl (Ex)
section
variable {K : PySem.W.Frag} {X : Cx}
theorem ok_isEr (h : X.K = K) : CallR X (.builtin "isinstance") (Ex0.rIsEr K) := by subst h; exact Ex0.call_isEr
theorem rc_isEr {C B : Addr} {b : Bool} (c : ExcC K C) (h : PySem.W.kitOne K (.ref C) (.ref B) = some b) : RC K (Ex0.rIsEr K) [.er C, .adr B] (.bl b) := fun S H vs e r Q q => by
  cases r with
  | cons h1 t1 =>
    cases t1 with
    | cons h2 t2 =>
      cases t2
      cases h2
      cases h1 with
      | er hs hc hd hv => exact ⟨_, _, _, _, _, .ref B, b, rfl, e _ _ hs, hc, hd, hv, c, fun w z => z, h, q _ S H (Ext.refl e) (.bl b)⟩
theorem rc_isErT {C : Addr} {n : String} {b : Bool} (c : ExcC K C) (h : PySem.W.kitOne K (.ref C) (.type n) = some b) : RC K (Ex0.rIsEr K) [.er C, .ty n] (.bl b) := fun S H vs e r Q q => by
  cases r with
  | cons h1 t1 =>
    cases t1 with
    | cons h2 t2 =>
      cases t2
      cases h2
      cases h1 with
      | er hs hc hd hv => exact ⟨_, _, _, _, _, .type n, b, rfl, e _ _ hs, hc, hd, hv, c, fun w z => z, h, q _ S H (Ext.refl e) (.bl b)⟩
theorem ok_tupX {es : List Expr} {k n : Nat} {t : TGs} {pos : Pos} (hK : X.K = K) (hc : Ex0.Hott X) (h : PGs X es t) (hn : (assignEach es X.env).length = n := by rfl) (hst : (assignEach es X.env).findIdx? (·.1) = none := by rfl) : PG X (.Tuple es k pos) (gTup K n t) := by
  subst hK
  exact Ex0.pg_tupX hc h hn hst
theorem ok_lcHot {i : Nat} {y : Str} {py : Pos} {elt tg l : Expr} {ifs : List Expr} {scope : Scope} {own : List (Str × Nat)} {pos spos : Pos} {tl : TE} {g : TG} {tt : TT} {te : TE} (hK : X.K = K) (hc : Ex0.Hott X) (hN : X.N.Nodup) (hy : X.N[i]? = some y) (hyl : X.env.scope.names.lookup y = some .local)
    (hsw : swapsWith (.ListComp elt [⟨tg, l, ifs, 0⟩] scope pos) (some (.Name y py)) spos.line X.env = pure true) (hl : PE X l tl) (ok : BlkOk X.N X.env.scope scope own)
    (hg : ∀ s H C cl fp, Ex0.Hott (X.blk s H scope (compEnvC scope cl C X.env) fp) → PG (X.blk s H scope (compEnvC scope cl C X.env) fp) tg g) (ht : ∀ s H C cl fp, PTs (X.blk s H scope (compEnvC scope cl C X.env) fp) ifs tt)
    (he : ∀ s H C cl fp, PE (X.blk s H scope (compEnvC scope cl C X.env) fp) elt te) (hs : ∀ x, foldedSetIterable l X.env x = pure x := by intro _; rfl) :
    PS X (.Assign [.Name y py] (.ListComp elt [⟨tg, l, ifs, 0⟩] scope pos) spos) (tAsg (tLc (iList K tl) g tt te (own.map (·.2))) (gName i)) := by
  subst hK
  exact Ex0.ps_lcHot hc hN hy hyl hsw hl ok hg ht he hs
end
/-! ### what the classes say -/
def excB (K : PySem.W.Frag) (C : Addr) : Bool :=
  decide (PySem.W.findIn K (.ref C) "__getattribute__" = some (some (.builtin "BaseException.__getattribute__"))) && (decide (PySem.W.findIn K (.ref C) "__getattr__" = some none) && (decide (PySem.W.subIn K (.ref C) (.type "BaseException") = some true) && (PySem.W.hasDictIn K C &&
  (decide (PySem.W.findIn K (.ref C) "__class__" = some (some (.builtin "object.__class__"))) && (decide (PySem.W.specialIn K (.builtin "object.__class__") "__get__" = some (some (.builtin "getset_descriptor.__get__"))) && (decide (PySem.W.takesIn K (.builtin "object.__class__") = some true) && decide (PySem.W.mroIn K C (.type "object") = some true)))))))
theorem excB_ok {K : PySem.W.Frag} {C : Addr} (h : excB K C = true) : ExcC K C := by
  unfold excB at h
  simp only [Bool.and_eq_true, decide_eq_true_eq] at h
  obtain ⟨h1, h2, h3, h4, h5, h6, h7, h8⟩ := h
  exact ⟨h1, h2, h3, h4, h5, h6, h7, h8⟩
/-- of a class: what isinstance says of its instances, by names; and nothing written is one of them -/
def kindB (x : Str) (ys : List (Str × Bool)) (K : PySem.W.Frag) : Bool :=
  excB K (He.ga K x) && ((ys.all fun y => decide (PySem.W.kitOne K (.ref (He.ga K x)) (.ref (He.ga K y.1)) = some y.2)) && (decide (PySem.W.kitOne K (.ref (He.ga K x)) (.type "ValueError") = some true) && K.all fun p => decide (p.2.cls ≠ .ref (He.ga K x))))
structure Kind (x : Str) (ys : List (Str × Bool)) (K : PySem.W.Frag) : Prop where
  exc : ExcC K (He.ga K x)
  is : ∀ y ∈ ys, PySem.W.kitOne K (.ref (He.ga K x)) (.ref (He.ga K y.1)) = some y.2
  ve : PySem.W.kitOne K (.ref (He.ga K x)) (.type "ValueError") = some true
  no : ∀ b o, K.lookup b = some o → o.cls ≠ .ref (He.ga K x)
theorem kindB_ok {x : Str} {ys : List (Str × Bool)} {K : PySem.W.Frag} (h : kindB x ys K = true) : Kind x ys K := by
  unfold kindB at h
  simp only [Bool.and_eq_true, decide_eq_true_eq, List.all_eq_true] at h
  obtain ⟨h1, h2, h3, h4⟩ := h
  exact ⟨excB_ok h1, h2, h3, fun b o e => h4 (b, o) (He.lookup_mem e)⟩
/-- the classes, and the law's words for them -/
def classes7 : List (Str × Str) := [("BadCount", "count"), ("BadBar", "bar"), ("NoBar", "none"), ("Full", "full"), ("NotLean", "crowd"), ("Loose", "loose"), ("BadStep", "step")]
def kinds7 (x : Str) : List (Str × Bool) := classes7.map fun p => (p.1, p.1 == x)
theorem Kind.at {x y z : Str} {K : PySem.W.Frag} (k : Kind x (kinds7 x) K) (h : (y, z) ∈ classes7) : PySem.W.kitOne K (.ref (He.ga K x)) (.ref (He.ga K y)) = some (y == x) := k.is (y, y == x) (List.mem_map.mpr ⟨(y, z), h, rfl⟩)
/-! ### a def that raises -/
section
variable (K : PySem.W.Frag)
def spX (C : Addr) (Rel : List D → Prop) : Sp := fun vs H _ E => ∃ S ds, Ex S H ∧ RdL K S vs ds ∧ Rel ds ∧ ∀ S' H', Ext S H S' H' → E (.ref C) none H'
def Up (E : XK) (C : Addr) (t : TS) (ρ : Rho) : Prop := ∀ S0 H0 S H σ Dd, Stt K S0 H0 ρ S H σ → (∀ S' H', Ext S0 H0 S' H' → E (.ref C) none H') → t Dd σ H
end
section
variable {K : PySem.W.Frag} {E : XK} {C : Addr} {t u : TS} {ρ ρ1 : Rho} {c : TT}
theorem Up.raise : Up K E C (fun _ _ H => E (.ref C) none H) ρ := fun S0 H0 S H σ Dd s q => q S H s.ext
theorem Up.seq (h : T K t ρ { nx := fun r => r = ρ1 }) (k : Up K E C u ρ1) : Up K E C (tSeq t u) ρ := fun S0 H0 S H σ Dd s q =>
  h S0 H0 S H σ _ s ⟨fun r S' H' σ' e _ s' => by subst e; exact k S0 H0 S' H' σ' Dd s' q, fun _ _ _ _ z => z.elim, fun _ _ _ _ z => z.elim, fun _ _ _ _ z => z.elim, fun _ _ _ _ _ z => z.elim⟩
theorem Up.first (h : Up K E C t ρ) : Up K E C (tSeq t u) ρ := fun S0 H0 S H σ Dd s q => h S0 H0 S H σ _ s q
theorem Up.if (h : EvT K c ρ true) (k : Up K E C t ρ) : Up K E C (tIfS c t u) ρ := fun S0 H0 S H σ Dd s q => h S H σ s.ext.sub s.env _ fun S' H' x => by
  show t Dd σ H'
  exact k S0 H0 S' H' σ Dd (s.go x) q
theorem Up.fin {N : List Str} {Rel : List D → Prop} {vs : List V} {H : Hp} {Q : VK} (h : spX K C Rel vs H Q E) (k : ∀ ds, Rel ds → Up K E C t (startR N.length ds)) : t { nx := fun _ H' => Q .non H', rt := Q } (L2.start N vs) H := by
  obtain ⟨S, ds, e, r, rel, q⟩ := h
  exact k ds rel S H S H _ _ (stt_start e r) q
end
/-! ### the suite -/
theorem strs_of {K : PySem.W.Frag} {S : Hp} : ∀ {ws : List Str} {vs : List V}, RdL K S vs (ws.map D.str) → vs = ws.map V.str
  | [], _, .nil => rfl
  | _ :: _, _, .cons h r => by cases h; rw [strs_of r]; rfl
theorem rd_strs {K : PySem.W.Frag} {S : Hp} : ∀ (ws : List Str), RdL K S (ws.map V.str) (ws.map D.str)
  | [] => .nil
  | x :: ws => .cons (.str x) (rd_strs ws)
section
variable {K : PySem.W.Frag} {Rel : List D → List D → Prop} {a C : Addr} {cls : Value} {d : Option Addr} {i : Nat} {ws : List Str} {S H : Hp} {σ : L2.St} {Q : VK}
/-- the suite's question -/
theorem ask_of (hc : cls = .ref C) (hd : d = none) (rel : Rel [.er C] (ws.map D.str)) (e : Ex S H) (hs : σ[i]? = some (some (.ref a))) (na : H a = none)
    (q : ∀ p H', Ext S H S H' → H' p = some (.lst (ws.map V.str)) → Q (.ref p) H') : Ex0.tAsk (spF K Rel) a C cls d (tCons (tVar i) tNil) σ H Q := by
  refine ⟨.ref a, hs, fun _ => ⟨hc, hd, fun oe c1 c2 c3 => ?_⟩⟩
  have sa : S a = none := sub_none e na
  have e1 : Ex (upd S a (.frz oe Ex0.xt)) (upd H a (.frz oe Ex0.xt)) := fun b o z => by
    by_cases hb : b = a
    · subst hb
      rw [upd_same] at z ⊢
      exact z
    · rw [upd_ne hb] at z ⊢
      exact e b o z
  refine ⟨upd S a (.frz oe Ex0.xt), [.er C], ws.map D.str, e1, .cons (.er upd_same c1 c2 c3) .nil, rel, fun p vs S' H' x hp sp h' r fz => ?_⟩
  have np : p ≠ a := fun z => by
    subst z
    rw [upd_same] at hp
    cases hp
  have ne : ∀ {b o}, H b = some o → b ≠ a := fun {b o} z w => by rw [w, na] at z; cases z
  have hh : Ex H (Ex0.era a H') := fun b o z => by
    rw [Ex0.era_ne (ne z)]
    exact x.h b o (by rw [upd_ne (ne z)]; exact z)
  refine q p _ ⟨Ex.refl S, hh, e.trans hh, fun _ z _ => z⟩ ?_
  rw [Ex0.era_ne np, h', strs_of r]
end
end Pl
namespace Pl
open PySem PySem.Spec PyProof.Rows L2
open Evl (Ex)
theorem roomH_units {k : Nat} {A : Around} (r : L2H.RoomH k A) : A.units + 64 < cLine := by
  have := r.un
  omega
theorem takes0N {X : Cx} : L2N.Takes X (fun _ _ _ _ => False) := fun _ _ x => by
  obtain ⟨_, _, _, _, _, _, _, _, _, _, _, _, _, _, _, _, z⟩ := x
  exact z.elim
section
variable {K : PySem.W.Frag}
theorem spX_len {C : Addr} {Rel : List D → Prop} {n : Nat} (h : ∀ ds, Rel ds → ds.length = n) : ∀ vs H Q E, spX K C Rel vs H Q E → vs.length = n := fun vs H Q E z => by
  obtain ⟨S, ds, e, r, rel, _⟩ := z
  rw [r.length]
  exact h ds rel
theorem okd_strs {ws : List Str} (h : ∀ x ∈ ws, PyData.strOk x = true) : (D.lst (ws.map D.str)).okd 60 = true := List.all_eq_true.mpr fun d hd => by
  obtain ⟨x, hx, rfl⟩ := List.mem_map.mp hd
  exact h x hx
theorem sm_strs (ws : List Str) : (D.lst (ws.map D.str)).sm 60 = true := List.all_eq_true.mpr fun d hd => by
  obtain ⟨x, hx, rfl⟩ := List.mem_map.mp hd
  rfl
theorem eqv_strs (ws : List Str) : PyData.eqv (D.lst (ws.map D.str)).py (D.lst (ws.map D.str)).py = true := (eqv_iff 60 _ _ (sm_strs ws) (sm_strs ws)).mpr rfl
/-- the suite: return kind(error) == [the word] -/
theorem ask_one {Rel : List D → List D → Prop} {a C : Addr} {cls : Value} {d : Option Addr} {i : Nat} {x : Str} {S0 H0 S H : Hp} {σ : L2.St} {Q : VK} (hc : cls = .ref C) (hd : d = none) (rel : Rel [.er C] [.str x]) (hx : PyData.strOk x = true)
    (e : Ext S0 H0 S H) (hs : σ[i]? = some (some (.ref a))) (na : H a = none) (q : ∀ H', Ext S0 H0 S H' → Q (.bl true) H') :
    tOp (rEqD K) (Ex0.tAsk (spF K Rel) a C cls d (tCons (tVar i) tNil)) (tLst (tCons (tC (.str x)) tNil)) σ H Q := by
  refine ask_of (ws := [x]) hc hd rel e.sub hs na fun p H3 x3 h3 => ?_
  refine ⟨by show 1 ≤ sizeLine; rw [sizeLine_eq]; omega, fun p2 hp2 => ?_⟩
  have np : p ≠ p2 := fun z => by rw [z, hp2] at h3; cases h3
  have s1 : Ext S0 H0 S H3 := e.trans x3
  have s2 : Ext S0 H0 S (upd H3 p2 (.lst [.str x])) := s1.trans (Ext.hid s1.sub hp2)
  refine rv_eq (K := K) (x := .lst ([x].map D.str)) (y := .lst ([x].map D.str)) (okd_strs fun y hy => by rw [List.mem_singleton.mp hy]; exact hx) (okd_strs fun y hy => by rw [List.mem_singleton.mp hy]; exact hx) (upd H3 p2 (.lst [.str x])) (upd H3 p2 (.lst [.str x])) (.ref p) (.ref p2) (Ex.refl _)
    (.lst (by rw [upd_ne np]; exact h3) (rd_strs [x])) (.lst upd_same (rd_strs [x])) Q fun w S' H' x4 r4 => ?_
  rw [eqv_strs] at r4
  cases r4
  exact q H' (s2.trans ⟨Ex.refl S, x4.h, s2.sub.trans x4.h, fun _ z _ => z⟩)
end
end Pl
namespace Pl
open PySem PySem.Spec PyProof.Rows L2
/-- no whole number -/
def Dull (d : D) : Prop := d.kind = "NoneType" ∨ d.kind = "bool" ∨ d.kind = "str" ∨ d.kind = "list" ∨ d.kind = "tuple"
theorem dull_isi {K : PySem.W.Frag} {d : D} (h : Dull d) : ∃ a b, RC K (rIsi K) [d, .ty "int"] (.bl a) ∧ RC K (rIsi K) [d, .ty "bool"] (.bl b) ∧ (a && !b) = false := by
  rcases h with h | h | h | h | h
  · exact ⟨false, false, rc_isi (by rw [h]; decide +kernel) (by rw [h]; decide), rc_isi (by rw [h]; decide +kernel) (by rw [h]; decide), rfl⟩
  · exact ⟨true, true, rc_isi (by rw [h]; decide +kernel) (by rw [h]; decide), rc_isi (by rw [h]; decide +kernel) (by rw [h]; decide), rfl⟩
  · exact ⟨false, false, rc_isi (by rw [h]; decide +kernel) (by rw [h]; decide), rc_isi (by rw [h]; decide +kernel) (by rw [h]; decide), rfl⟩
  · exact ⟨false, false, rc_isi (by rw [h]; decide +kernel) (by rw [h]; decide), rc_isi (by rw [h]; decide +kernel) (by rw [h]; decide), rfl⟩
  · exact ⟨false, false, rc_isi (by rw [h]; decide +kernel) (by rw [h]; decide), rc_isi (by rw [h]; decide +kernel) (by rw [h]; decide), rfl⟩
/-- whether a datum is a joint of so many -/
inductive JD (c : Int) : D → Bool → Prop
  | int (j : Int) : JD c (.int j) (decide (0 ≤ j) && decide (j < c))
  | no {d : D} (h : Dull d) : JD c d false
end Pl

/-! Trees whose branches are roots of their own for a while: taken apart, put together; walked, looked up. -/
namespace Pl
open PySem PySem.Spec PyProof.Rows L2
open Evl (Ex)
section
variable {K : PySem.W.Frag} {S0 H0 S H S' H' : Hp} {σ : L2.St} {ρ ρ' ρ1 ρv : Rho} {g g' g1 g2 gl gr : Gs} {F G : FM} {t u : TS} {te ti td tx tk tv ty : TE} {tA : TA} {c : TT} {d : D} {es ds : List D} {ms : List M} {m m1 m2 mv : M} {a : Addr} {π : List Nat} {Dd : Ends} {i j : Nat} {b : Bool} {r : Rs} {E : XK} {s : Shp}
/-- branches that are told by their addresses -/
def adrM (as : List Addr) : List M := as.map fun a => M.d (.adr a)
def M.isN : M → Bool
  | .d _ => false
  | .n _ _ => true
theorem adrM_own : ∀ (as : List Addr), OwnL K S H (as.map V.ref) (adrM as) []
  | [] => .nil
  | a :: as => by
    have z := OwnL.cons (Own.d (K := K) (S := S) (H := H) (Rd.adr a)) (adrM_own as)
    exact z
theorem adrM_inv : ∀ {as : List Addr} {vs : List V} {f : List Addr}, OwnL K S H vs (adrM as) f → f = [] ∧ vs = as.map V.ref
  | [], _, _, .nil => ⟨rfl, rfl⟩
  | a :: as, _, _, .cons h r => by
    cases h with
    | d h =>
      cases h
      obtain ⟨e1, e2⟩ := adrM_inv (as := as) r
      subst e1
      subst e2
      exact ⟨rfl, rfl⟩
theorem own_refs : ∀ {ms : List M} {vs : List V} {f : List Addr}, (∀ m ∈ ms, m.isN = true) → OwnL K S H vs ms f → ∃ as : List Addr, vs = as.map V.ref ∧ as.length = ms.length
  | [], _, _, _, .nil => ⟨[], rfl, rfl⟩
  | m :: ms, _, _, hm, .cons h r => by
    obtain ⟨as, e1, e2⟩ := own_refs (ms := ms) (fun x hx => hm x (List.mem_cons_of_mem _ hx)) r
    have h0 := hm m List.mem_cons_self
    cases h with
    | d _ => cases h0
    | n h1 h2 h3 => exact ⟨_ :: as, by rw [e1]; rfl, by rw [List.length_cons, List.length_cons, e2]⟩
theorem gv_zip : ∀ {as : List Addr} {ms : List M}, as.length = ms.length → gv (as.zip ms) = as.map V.ref
  | [], [], _ => rfl
  | a :: as, m :: ms, h => by
    have z := gv_zip (as := as) (ms := ms) (Nat.succ.inj h)
    show V.ref a :: gv (as.zip ms) = V.ref a :: as.map V.ref
    rw [z]
theorem gm_zip : ∀ {as : List Addr} {ms : List M}, as.length = ms.length → gm (as.zip ms) = ms
  | [], [], _ => rfl
  | a :: as, m :: ms, h => by
    have z := gm_zip (as := as) (ms := ms) (Nat.succ.inj h)
    show m :: gm (as.zip ms) = m :: ms
    rw [z]
theorem SG.join {p : Addr} {as : List Addr} (hl : as.length = ms.length) (st : SG K S0 H0 ρ (g1 ++ (p, .n s (adrM as)) :: as.zip ms) S H σ) : SG K S0 H0 ρ (g1 ++ [(p, .n s ms)]) S H σ := by
  obtain ⟨fp, rg, s0⟩ := st
  have o := rg.own
  rw [gv_app, gm_app] at o
  obtain ⟨f1, f2, e, o1, o2⟩ := o.split gv_len
  have o2 : OwnL K S H (.ref p :: gv (as.zip ms)) (.n s (adrM as) :: gm (as.zip ms)) f2 := o2
  cases o2 with
  | cons h r =>
    rename_i fa fb
    rw [gv_zip hl, gm_zip hl] at r
    cases h with
    | n h1 h2 h3 =>
      obtain ⟨e1, e2⟩ := adrM_inv h3
      subst e1
      subst e2
      refine ⟨fp, ⟨?_, rg.nd, rg.no⟩, s0⟩
      rw [gv_app, gm_app, e]
      refine o1.append ?_
      have z : OwnL K S H [.ref p] [.n s ms] ((p :: fb) ++ []) := .cons (.n h1 h2 r) .nil
      rw [List.append_nil] at z
      exact z
theorem SG.split {p : Addr} (hm : ∀ m ∈ ms, m.isN = true) (st : SG K S0 H0 ρ (g1 ++ [(p, .n s ms)]) S H σ) : ∃ as : List Addr, as.length = ms.length ∧ SG K S0 H0 ρ (g1 ++ (p, .n s (adrM as)) :: as.zip ms) S H σ := by
  obtain ⟨fp, rg, s0⟩ := st
  have o := rg.own
  rw [gv_app, gm_app] at o
  obtain ⟨f1, f2, e, o1, o2⟩ := o.split gv_len
  have o2 : OwnL K S H [.ref p] [.n s ms] f2 := o2
  cases o2 with
  | cons h r =>
    cases r
    cases h with
    | n h1 h2 h3 =>
      rename_i ho vs fq
      obtain ⟨as, ev, hl⟩ := own_refs hm h3
      subst ev
      refine ⟨as, hl, fp, ⟨?_, rg.nd, rg.no⟩, s0⟩
      rw [gv_app, gm_app, e]
      refine o1.append ?_
      have z : OwnL K S H (.ref p :: gv (as.zip ms)) (.n s (adrM as) :: gm (as.zip ms)) ((p :: []) ++ fq) := .cons (.n h1 h2 (adrM_own as)) (by rw [gv_zip hl, gm_zip hl]; exact h3)
      rw [List.append_nil]
      exact z
theorem TM.join {p : Addr} {as : List Addr} (hp : List.Perm g (g1 ++ (p, .n s (adrM as)) :: as.zip ms)) (hl : as.length = ms.length) (k : TM K t ρ (g1 ++ [(p, .n s ms)]) F) : TM K t ρ g F := fun S0 H0 S H σ Dd st ac => k S0 H0 S H σ Dd (SG.join hl (st.perm hp)) ac
theorem TM.split {p : Addr} (hp : List.Perm g (g1 ++ [(p, .n s ms)])) (hm : ∀ m ∈ ms, m.isN = true) (k : ∀ as : List Addr, as.length = ms.length → TM K t ρ (g1 ++ (p, .n s (adrM as)) :: as.zip ms) F) : TM K t ρ g F := fun S0 H0 S H σ Dd st ac => by
  obtain ⟨as, hl, z⟩ := SG.split hm (st.perm hp)
  exact k as hl S0 H0 S H σ Dd z ac
/-- [] as a new tree -/
theorem em_lnew : EvM K (tLst tNil) ρ (.n .lst []) := fun S H σ e v Q q => ⟨Evl.sz_of (Nat.zero_le _), fun p hp =>
  q p [p] S _ (Ext.hid e hp) (.n (o := .lst []) (vs := []) (fp := []) upd_same rfl .nil) (by simp) fun a ha => by
    rw [List.mem_singleton.mp ha]
    exact ⟨hp, sub_none e hp⟩⟩
/-- d[k] = v of a new key, v a new tree -/
theorem TM.dputT {ns : List Int} {k : Int} (hv : EvX K tv ρ g (.t mv) g2) (hp : ∀ p0, EvP K td ρ (g2 ++ [(p0, mv)]) a m π) (hk : EvD K ty ρ (.int k)) (hg : g2 = gl ++ (a, m) :: gr) (hat : M.at π m = some (.n (.dic (ik ns)) ms)) (hn : k ∉ ns) (hl : ns.length < 100000)
    (kk : ∀ p0, F.nx ρ (gl ++ (a, M.put (.n (.dic (ik (ns ++ [k]))) (ms ++ [.d (.adr p0)])) π m) :: (gr ++ [(p0, mv)]))) : TM K (sDPut td ty tv) ρ g F := fun S0 H0 S H σ Dd st ac =>
  hv S0 H0 S H σ st _ fun v S1 H1 ex1 z => by
    obtain ⟨p0, ev, st1⟩ := z
    subst ev
    refine hp p0 S0 H0 S1 H1 σ st1 _ fun u S2 H2 x2 l => ?_
    have st2 := st1.go x2
    refine hk S2 H2 σ st2.sub st2.env _ fun w S3 H3 x3 r3 => ?_
    cases r3
    have st3 := st2.go x3
    have hg3 : g2 ++ [(p0, mv)] = gl ++ (a, m) :: (gr ++ [(p0, mv)]) := by rw [hg]; simp
    obtain ⟨p, o, vs, fq, e1, e2, _, e3, e4, e5, wr⟩ := st3.write hg3 (l.mono x3.h) hat
    obtain ⟨e8, e9⟩ := e3
    subst e1
    subst e9
    have hl2 : ns.length = vs.length := by rw [← e8]; exact (List.length_map _).symm
    refine ⟨p, _, rfl, .inl ⟨_, .inl k, e2, rfl, Evl.sz_lt (by rw [List.length_zip]; unfold ik; rw [List.length_map]; omega), rfl⟩, ?_⟩
    refine ac.nx _ _ S3 _ σ (kk p0) ((ex1.trans x2.s).trans x3.s) (wr _ (.dic (ik (ns ++ [k]))) (vs ++ [.ref p0]) _ (fq ++ ([] ++ [])) ⟨?_, ?_⟩ ((e4.mono (Ex.refl _) fun b hb => upd_ne fun e => e5 (by rw [← e]; exact hb)).append (.cons (.d (.adr p0)) .nil)) (by simp))
    · unfold ik
      rw [List.length_map, List.length_append, List.length_append, hl2]
      rfl
    · rw [putK_new (.ref p0) (valV_out hl2 hn)]
      unfold ik
      rw [List.map_append, List.zip_append (by rw [List.length_map]; exact hl2)]
      rfl
/-- a new list of data, as an own list -/
theorem SG.pull {p : Addr} (st : SG K S0 H0 ρ (g ++ [(p, .n .lst (ds.map M.d))]) S H σ) : SG K S0 H0 (ρ ++ [.o ds]) g S H (σ ++ [some (.ref p)]) := by
  obtain ⟨fp, rg, s0⟩ := st
  have o := rg.own
  rw [gv_app, gm_app] at o
  obtain ⟨f1, f2, e, o1, o2⟩ := o.split gv_len
  have o2 : OwnL K S H [.ref p] [.n .lst (ds.map M.d)] f2 := o2
  have n := SG.noS s0 rg
  have nd := rg.nd
  rw [e] at nd
  obtain ⟨nd1, nd2, nd3⟩ := List.nodup_append.mp nd
  have sub1 : ∀ a ∈ f1, a ∈ fp := fun a ha => e ▸ List.mem_append_left _ ha
  have sub2 : ∀ a ∈ f2, a ∈ fp := fun a ha => e ▸ List.mem_append_right _ ha
  cases o2 with
  | cons h r =>
    cases r
    cases h with
    | n h1 h2 h3 =>
      rename_i ho vs fq
      have h2 : ho = .lst vs := h2
      subst h2
      obtain ⟨e6, e7⟩ := h3.toD
      subst e6
      have pf : p ∈ fp := sub2 p (by simp)
      have np1 : p ∉ f1 := fun z => nd3 p z p (by simp) rfl
      refine ⟨f1, ⟨o1, nd1, fun a ha => rg.no a (sub1 a ha)⟩, (s0.mv (fp' := f1) rg.no rg.own.lays (Ex.refl S) s0.ext.sub (fun a _ _ => rfl) (fun a _ h _ => h) fun a ha => ⟨.inl (sub1 a ha), n a (sub1 a ha)⟩).beside ⟨p, vs, rfl, ?_, n p pf, h1, e7⟩ fun p' ep j es hj ej => ?_⟩
      · rw [cov_out np1]
        exact (rg.no p pf).1
      · cases ep
        obtain ⟨q', us, g1, g2', g3, g4, g5⟩ := s0.own j es hj
        rw [ej] at g1
        cases g1
        rw [cov_in pf, g4] at g2'
        cases g2'
theorem EvX.pull (h : EvX K te ρ g (.t (.n .lst (ds.map M.d))) g') : EvX K te ρ g (.o ds) g' := fun S0 H0 S H σ st Q q => h S0 H0 S H σ st Q fun v S' H' e z => by
  obtain ⟨p, ev, z⟩ := z
  subst ev
  exact q _ S' H' e z.pull
theorem Stt.base {B B' : Hp} {p : Addr} (s : Stt K S0 B ρ S H σ) (n : S p = none) (hno : ∀ (j : Nat) (ds : List D), ρ[j]? = some (.o ds) → σ[j]? ≠ some (some (.ref p))) (hB : ∀ a, a ≠ p → B' a = B a) (hp : B' p = H p) : Stt K S0 B' ρ S H σ := by
  refine ⟨⟨s.ext.s, fun a o e => ?_, s.ext.sub, fun a h1 h2 => ?_⟩, s.env, fun j es hj => ?_, s.apart⟩
  · by_cases ha : a = p
    · subst ha
      rw [hp] at e
      exact e
    · rw [hB a ha] at e
      exact s.ext.h a o e
  · by_cases ha : a = p
    · subst ha
      exact n
    · rw [hB a ha] at h2
      exact s.ext.dis a h1 h2
  · obtain ⟨q, us, g1, g2, g3, g4, g5⟩ := s.own j es hj
    refine ⟨q, us, g1, ?_, g3, g4, g5⟩
    rw [hB q fun z => hno j es hj (by rw [g1, z])]
    exact g2
/-- an own list as a tree -/
theorem SG.root {v : V} (st : SG K S0 H0 (ρ ++ [.o ds]) g S H (σ ++ [some v])) : ∃ p, v = .ref p ∧ SG K S0 H0 ρ (g ++ [(p, .n .lst (ds.map M.d))]) S H σ := by
  obtain ⟨fp, rg, s0⟩ := st
  have s1 := s0.pull (i := 0)
  have hl : σ.length = ρ.length := s1.2.env.len
  obtain ⟨p, vs, h1, h2, h3, h4, h5⟩ := s0.own ρ.length ds (by simp)
  rw [← hl] at h1
  have h1 : v = .ref p := by simpa using h1
  subst h1
  have npf : p ∉ fp := fun z => by
    rw [cov_in z, h4] at h2
    cases h2
  rw [cov_out npf] at h2
  have s0p : S0 p = Option.none := by
    cases z : S0 p with
    | none => rfl
    | some o =>
      have y := s0.ext.s p o z
      rw [h3] at y
      cases y
  refine ⟨p, rfl, fp ++ [p], ⟨?_, ?_, fun a ha => ?_⟩, s1.2.base (p := p) h3 (fun j es hj ej => ?_) (fun a ha => ?_) (cov_in (List.mem_append_right _ (List.mem_singleton.mpr rfl)))⟩
  · rw [gv_app, gm_app]
    refine rg.own.append ?_
    have z : OwnL K S H [.ref p] [.n .lst (ds.map M.d)] ((p :: []) ++ []) := .cons (.n h4 rfl (OwnL.ofD h5)) .nil
    exact z
  · refine List.nodup_append.mpr ⟨rg.nd, by simp, fun a ha b hb eq => ?_⟩
    rw [List.mem_singleton.mp hb] at eq
    subst eq
    exact npf ha
  · rcases List.mem_append.mp ha with ha | ha
    · exact rg.no a ha
    · rw [List.mem_singleton.mp ha]
      exact ⟨h2, s0p⟩
  · have hj2 : j < ρ.length := (List.getElem?_eq_some_iff.mp hj).1
    have z := s0.apart j ρ.length es ds p (by rw [List.getElem?_append_left hj2]; exact hj) (by simp) (by rw [List.getElem?_append_left (by omega)]; exact ej) (by rw [← hl]; simp)
    omega
  · by_cases hf : a ∈ fp
    · rw [cov_in hf, cov_in (List.mem_append_left _ hf)]
    · rw [cov_out hf, cov_out fun z => (List.mem_append.mp z).elim hf fun z => ha (List.mem_singleton.mp z)]
theorem EvX.root (h : EvX K te ρ g (.o ds) g') : EvX K te ρ g (.t (.n .lst (ds.map M.d))) g' := fun S0 H0 S H σ st Q q => h S0 H0 S H σ st Q fun v S' H' e z => by
  obtain ⟨p, ev, z2⟩ := SG.root z
  subst ev
  exact q _ S' H' e ⟨p, rfl, z2⟩
theorem perm_mid {α : Type} (l : List α) (a b : α) : List.Perm (l ++ [a] ++ [b]) (l ++ [b] ++ [a]) := by
  rw [List.append_assoc, List.append_assoc]
  exact List.Perm.append_left _ (List.Perm.swap _ _ _)
theorem adr_get {as : List Addr} (h : as.length = ms.length) (hm : ms[j]? = some m) : ∃ a, as[j]? = some a ∧ ∃ g1 g2, as.zip ms = g1 ++ (a, m) :: g2 := by
  have hj : j < ms.length := (List.getElem?_eq_some_iff.mp hm).1
  have em : ms[j] = m := (List.getElem?_eq_some_iff.mp hm).2
  refine ⟨as[j], List.getElem?_eq_getElem (by omega), (as.zip ms).take j, (as.zip ms).drop (j + 1), ?_⟩
  have hz : j < (as.zip ms).length := by rw [List.length_zip]; omega
  rw [← em, show (as[j], ms[j]) = (as.zip ms)[j] from (List.getElem_zip ..).symm, ← List.drop_eq_getElem_cons hz, List.take_append_drop]
/-- d.get(k) of a new dict of trees -/
theorem EvX.dgetT {ns : List Int} {k : Int} (h : EvX K td ρ g (.t (.n (.dic (ik ns)) ms)) g') (hk : EvD K ty ρ (.int k)) (hm : ∀ m ∈ ms, m.isN = true) (h1 : ns[j]? = some k) (h2 : ∀ q : Nat, q < j → ns[q]? ≠ some k) (h3 : ms[j]? = some m) : EvX K (tDGet1 td ty) ρ g (.t m) g' := fun S0 H0 S H σ st Q q =>
  h S0 H0 S H σ st _ fun v S1 H1 e z => by
    obtain ⟨p, ev, st1⟩ := z
    subst ev
    obtain ⟨as, hl, st1⟩ := SG.split hm st1
    obtain ⟨fp, rg, s1⟩ := id st1
    obtain ⟨f, hf, o⟩ := rg.own.mem (a := p) (m := .n (.dic (ik ns)) (adrM as)) (by simp)
    obtain ⟨a, ha, gA, gB, hz⟩ := adr_get hl h3
    cases o with
    | n k1 k2 k3 =>
      rename_i ho vs fq
      obtain ⟨hlen, eo⟩ := k2
      subst eo
      obtain ⟨_, ev⟩ := adrM_inv k3
      subst ev
      have hl2 : ns.length = (as.map V.ref).length := by rw [← hlen]; exact (List.length_map _).symm
      refine ⟨p, rfl, .inl ⟨_, .inl k1⟩, hk S1 H1 σ st1.sub st1.env _ fun w S2 H2 x2 r2 => ?_⟩
      cases r2
      have st2 := st1.go x2
      refine ⟨some (.ref a), .inl ⟨_, .inl k, .inl (x2.h _ _ k1), rfl, ?_⟩, q (.ref a) S2 H2 (e.trans x2.s) ⟨a, rfl, ?_⟩⟩
      · rw [valV_zip hl2 h1 h2, List.getElem?_map, ha]
        rfl
      · refine SG.forget (g' := (p, .n (.dic (ik ns)) (adrM as)) :: (gA ++ gB)) (st2.perm ?_)
        rw [hz, List.append_assoc]
        refine List.Perm.append_left _ ?_
        exact List.perm_middle (l₁ := (p, .n (.dic (ik ns)) (adrM as)) :: gA)
theorem EvX.dgetN {ns : List Int} {k : Int} (h : EvX K td ρ g (.t (.n (.dic (ik ns)) ms)) g') (hk : EvD K ty ρ (.int k)) (h1 : k ∉ ns) : EvX K (tDGet1 td ty) ρ g (.d .non) g' := fun S0 H0 S H σ st Q q =>
  h S0 H0 S H σ st _ fun v S1 H1 e z => by
    obtain ⟨p, ev, st1⟩ := z
    subst ev
    obtain ⟨fp, rg, s1⟩ := id st1
    obtain ⟨f, hf, o⟩ := rg.own.mem (a := p) (m := .n (.dic (ik ns)) ms) (by simp)
    cases o with
    | n k1 k2 k3 =>
      rename_i ho vs fq
      obtain ⟨hlen, eo⟩ := k2
      subst eo
      have hl2 : ns.length = vs.length := by rw [← hlen]; exact (List.length_map _).symm
      refine ⟨p, rfl, .inl ⟨_, .inl k1⟩, hk S1 H1 σ st1.sub st1.env _ fun w S2 H2 x2 r2 => ?_⟩
      cases r2
      have st2 := (SG.forget st1).go x2
      exact ⟨none, .inl ⟨_, .inl k, .inl (x2.h _ _ k1), rfl, (valV_out hl2 h1).symm⟩, q .non S2 H2 (e.trans x2.s) ⟨st2, .non⟩⟩
open Classical in
/-- branches become data -/
theorem SG.tellB {p : Addr} (st : SG K S0 H0 ρ (g ++ [(p, .n s ms)]) S H σ) : ∃ S2, Ex S S2 ∧ SG K S0 H0 ρ (g ++ [(p, .n s ((ms.map M.see).map M.d))]) S2 H σ := by
  obtain ⟨fp, rg, s0⟩ := st
  have o := rg.own
  rw [gv_app, gm_app] at o
  obtain ⟨f1, f2, e, o1, o2⟩ := o.split gv_len
  have o2 : OwnL K S H [.ref p] [.n s ms] f2 := o2
  have n := SG.noS s0 rg
  have nd := rg.nd
  rw [e] at nd
  obtain ⟨nd1, nd2, nd3⟩ := List.nodup_append.mp nd
  cases o2 with
  | cons h r =>
    cases r
    cases h with
    | n h1 h2 h3 =>
      rename_i ho vs fq
      have nd2 : ((p :: fq) ++ []).Nodup := nd2
      rw [List.append_nil] at nd2
      obtain ⟨np, ndq⟩ := List.nodup_cons.mp nd2
      have subq : ∀ a ∈ fq, a ∈ fp := fun a ha => e ▸ List.mem_append_right _ (List.mem_append_left _ (List.mem_cons_of_mem _ ha))
      have sub1 : ∀ a ∈ f1, a ∈ fp := fun a ha => e ▸ List.mem_append_left _ ha
      have pf : p ∈ fp := e ▸ List.mem_append_right _ (List.mem_append_left _ List.mem_cons_self)
      have e1 : Ex S (withP (fun a => a ∈ fq) S H) := fun a o h => by
        unfold withP
        rw [if_neg fun z => by rw [n a (subq a z)] at h; cases h]
        exact h
      have e2 : Ex (withP (fun a => a ∈ fq) S H) H := fun a o h => by
        unfold withP at h
        split at h
        · exact h
        · exact s0.ext.sub a o h
      have inq : ∀ a ∈ fq, withP (fun a => a ∈ fq) S H a = H a := fun a h => if_pos h
      have out : ∀ a, a ∉ fq → withP (fun a => a ∈ fq) S H a = S a := fun a h => if_neg h
      have n1q : ∀ a ∈ f1, a ∉ fq := fun a ha z => nd3 a ha a (List.mem_append_left _ (List.mem_cons_of_mem _ z)) rfl
      refine ⟨_, e1, f1 ++ [p], ⟨?_, ?_, fun a ha => ?_⟩, s0.mv rg.no rg.own.lays e1 e2 (fun a _ _ => rfl) (fun a hn hs _ => ?_) fun a ha => ?_⟩
      · rw [gv_app, gm_app]
        refine (o1.mono e1 fun a _ => rfl).append ?_
        have rl := h3.see e1 inq
        rw [seeL_map] at rl
        have z : OwnL K (withP (fun a => a ∈ fq) S H) H [.ref p] [.n s ((ms.map M.see).map M.d)] ((p :: []) ++ []) := .cons (.n h1 h2 (OwnL.ofD rl)) .nil
        exact z
      · refine List.nodup_append.mpr ⟨nd1, by simp, fun a ha b hb eq => ?_⟩
        rw [List.mem_singleton.mp hb] at eq
        subst eq
        exact nd3 a ha a (List.mem_append_left _ List.mem_cons_self) rfl
      · rcases List.mem_append.mp ha with ha | ha
        · exact rg.no a (sub1 a ha)
        · rw [List.mem_singleton.mp ha]
          exact rg.no p pf
      · rw [out a fun z => hn (subq a z)]
        exact hs
      · rcases List.mem_append.mp ha with ha | ha
        · exact ⟨.inl (sub1 a ha), by rw [out a (n1q a ha)]; exact n a (sub1 a ha)⟩
        · rw [List.mem_singleton.mp ha]
          exact ⟨.inl pf, by rw [out p np]; exact n p pf⟩
theorem TM.tellB {p : Addr} (hp : List.Perm g (g1 ++ [(p, .n s ms)])) (k : TM K t ρ (g1 ++ [(p, .n s ((ms.map M.see).map M.d))]) F) : TM K t ρ g F := fun S0 H0 S H σ Dd st ac => by
  obtain ⟨S2, e, z⟩ := SG.tellB (st.perm hp)
  exact k S0 H0 S2 H σ Dd z (ac.mono e)
/-- for x in xs, xs a list of the region that stays as it is -/
theorem TM.forR {tg : TG} (hi : ρ[i]? = some (.k (.adr a))) (Pv : Nat → Rho → Gs → Prop) (h0 : Pv 0 ρ g) (hg : (a, .n .lst (ds.map M.d)) ∈ g)
    (hr : ∀ (n : Nat) (ρ' : Rho) (g' : Gs), Pv n ρ' g' → (a, .n .lst (ds.map M.d)) ∈ g')
    (hs : ∀ (n : Nat) (d : D) (ρ' : Rho) (g' : Gs), ds[n]? = some d → Pv n ρ' g' → ∃ ps, EvG K tg d ps ∧ TM K t (setR ρ' ps) g' { F with nx := Pv (n + 1), ct := Pv (n + 1), bk := F.nx })
    (he : ∀ (ρ' : Rho) (g' : Gs), Pv ds.length ρ' g' → F.nx ρ' g') : TM K (tFor (iList K (tVar i)) tg t) ρ g F := fun S0 H0 S H σ Dd st ac => by
  have look : ∀ {ρ' : Rho} {g' : Gs} {S' H' : Hp} {σ' : L2.St}, (a, .n .lst (ds.map M.d)) ∈ g' → SG K S0 H0 ρ' g' S' H' σ' → ∃ vs, H' a = some (.lst vs) ∧ RdL K S' vs ds := fun {ρ' g' S' H' σ'} hm z => by
    obtain ⟨fp, rg, s0⟩ := z
    obtain ⟨f, hf, o⟩ := rg.own.mem hm
    cases o with
    | n k1 k2 k3 =>
      rename_i ho vs fq
      have k2 : ho = .lst vs := k2
      subst k2
      exact ⟨vs, k1, k3.toD.2⟩
  obtain ⟨v, hv1, hv2⟩ := st.env.val i _ hi
  cases hv2
  obtain ⟨vs0, hx0, _⟩ := look hg st
  refine ⟨_, hv1, a, rfl, ⟨_, Evl.sq_of hx0⟩, ?_⟩
  refine ⟨fun n m σ' H' => m = ds.length - n ∧ n ≤ ds.length ∧ ∃ ρ' g' S', Pv n ρ' g' ∧ Ex S S' ∧ SG K S0 H0 ρ' g' S' H' σ', ⟨ds.length, by simp, Nat.zero_le _, ρ, g, S, h0, Ex.refl S, st⟩, ?_⟩
  rintro n m σ' H' ⟨rfl, hn, ρ', g', S', p, e, s'⟩
  obtain ⟨vs, hx, rl⟩ := look (hr n ρ' g' p) s'
  by_cases hlt : n < ds.length
  · have hdd : ds[n]? = some ds[n] := List.getElem?_eq_getElem hlt
    obtain ⟨y, hy, ry⟩ := rl.get hdd
    obtain ⟨ps, hgg, ht⟩ := hs n ds[n] ρ' g' hdd p
    refine .inr ⟨⟨vs, y, Evl.sq_of hx, hy⟩, fun σ2 H2 => ∃ ρ2 g2 S2, Pv (n + 1) ρ2 g2 ∧ Ex S S2 ∧ SG K S0 H0 ρ2 g2 S2 H2 σ2, fun σ2 H2 z => ⟨ds.length - (n + 1), by omega, rfl, hlt, z⟩, fun xv H'' w => ?_⟩
    obtain ⟨rfl, w⟩ := w
    have w := w vs (Evl.sq_of hx)
    rw [hy] at w
    cases w
    refine hgg S' H'' σ' y s'.sub ry _ fun ws rw => ?_
    refine ht S0 H0 S' H'' _ _ (s'.setV rw) ⟨fun ρ3 g3 S3 H3 σ3 n e3 s3 => ⟨ρ3, g3, S3, n, e.trans e3, s3⟩, fun ρ3 g3 S3 H3 σ3 n e3 s3 => ac.nx ρ3 g3 S3 H3 σ3 n (e.trans e3) s3, fun ρ3 g3 S3 H3 σ3 n e3 s3 => ⟨ρ3, g3, S3, n, e.trans e3, s3⟩, ac.rt⟩
  · have e0 : n = ds.length := by omega
    subst e0
    exact .inl ⟨⟨vs, Evl.sq_of hx, by rw [rl.length]; exact Nat.le_refl _⟩, ac.nx ρ' g' S' H' σ' (he ρ' g' p) e s'⟩
end
end Pl

/-! Knots as they are told; one bar more than a stiff lean frame has. -/
namespace Fr
section
variable {n : Nat} {nb : List Bar} {i : Nat}
theorem tied_rise : ∀ (os laid : List Nat) (cs : Cs), ∀ p ∈ tiedL nb cs os laid, p.2.Pairwise (· < ·)
  | [], laid, cs, p, h => by rw [tiedL_nil] at h; cases h
  | j :: r, laid, cs, p, h => by
    cases hy : (lay cs (barAt nb j).1 (barAt nb j).2).2 with
    | none =>
      rw [tiedL_none hy] at h
      exact tied_rise r _ _ p h
    | some ks =>
      rw [tiedL_some hy] at h
      rcases List.mem_cons.mp h with e | h
      · rw [e]
        exact List.pairwise_lt_range.filter _
      · exact tied_rise r _ _ p h
theorem erase_idx (nb : List Bar) (i : Nat) : nb.eraseIdx i = ((List.range nb.length).eraseIdx i).map (barAt nb) := by
  rw [← Pl.erase_maps]
  congr 1
  exact (Pl.range_getD nb).symm
theorem mem_but {m a i : Nat} (h : a < m) (ne : a ≠ i) : a ∈ (List.range m).eraseIdx i :=
  List.mem_eraseIdx_iff_getElem.mpr ⟨a, by rw [List.length_range]; exact h, ne, List.getElem_range _⟩
theorem slim_idx {l : List Nat} (nd : l.Nodup) (h : ∀ a ∈ l, a < nb.length ∧ a ≠ i) (sl : Slim n (nb.eraseIdx i)) : Slim n (l.map (barAt nb)) := by
  have pm : l.Perm (((List.range nb.length).eraseIdx i).filter fun a => decide (a ∈ l)) := by
    refine (List.perm_ext_iff_of_nodup nd ((List.nodup_range.sublist (List.eraseIdx_sublist _ _)).filter _)).mpr fun a => ?_
    rw [List.mem_filter, decide_eq_true_eq]
    exact ⟨fun q => ⟨mem_but (h a q).1 (h a q).2, q⟩, fun q => q.2⟩
  rw [erase_idx] at sl
  exact (sl.sub ((List.filter_sublist).map _)).perm (pm.map _)
/-- others lean: the bar's knot has all that are too many -/
theorem one_more (ok : Ok n nb) (hi : i < nb.length) (sl : Slim n (nb.eraseIdx i)) {p : Nat × List Nat} (hp : Pl.knotOf n nb i = some p) : p.2 = Pl.manyL n nb := by
  have pm := Pl.orderBut_perm hi
  unfold Pl.knotOf at hp
  have hpm := List.mem_of_find?_eq_some hp
  have hpi : p.1 = i := by
    have z := List.find?_some hp
    simpa using z
  refine Pl.rise_eq (tied_rise _ _ _ p hpm) (Pl.manyL_rise n nb) fun x => ?_
  constructor
  · intro hx
    obtain ⟨_, _, _, lj, _, _, _, _, ⟨T, _, _, _, _, t5⟩, _⟩ := (tied_iff ok pm hi).2 p hpm
    have hx2 := ((t5 x).mp hx).1
    exact Pl.manyL_mem.mpr ⟨hx2, (tied_iff ok pm hx2).1.mp ⟨p, hpm, hx⟩⟩
  · intro hx
    obtain ⟨h1, h2⟩ := Pl.manyL_mem.mp hx
    obtain ⟨q, hq, hxq⟩ := (tied_iff ok pm h1).1.mpr h2
    obtain ⟨q1, _, _, lj, hj, ndj, slj, nq, ⟨T, tT, t2, t3, _, _⟩, pre, post, eo, hpre⟩ := (tied_iff ok pm hi).2 q hq
    have ndo : (Pl.orderBut nb.length i).Nodup := pm.nodup_iff.mpr List.nodup_range
    have eq : q.1 = i := by
      by_cases e : q.1 = i
      · exact e
      · exfalso
        have hne : ∀ a ∈ pre, a ≠ i := fun a ha z => by
          subst z
          have e2 := eo
          unfold Pl.orderBut at e2
          rcases List.eq_nil_or_concat post with rfl | ⟨post', y, rfl⟩
          · have z := (List.append_inj' e2 rfl).2
            exact e (by simpa using z.symm)
          · have e3 : (List.range nb.length).filter (fun b => !decide (b = a)) ++ [a] = (pre ++ q.1 :: post') ++ [y] := by rw [e2]; simp
            have z := (List.append_inj' e3 rfl).1
            have w : a ∈ (List.range nb.length).filter fun b => !decide (b = a) := by rw [z]; exact List.mem_append_left _ ha
            simpa using (List.mem_filter.mp w).2
        have s := slim_idx (l := lj ++ [q.1]) (List.nodup_append.mpr ⟨ndj, by simp, fun a ha b hb z => nq (by rw [List.mem_singleton.mp hb] at z; exact z ▸ ha)⟩) (fun a ha => by
          rcases List.mem_append.mp ha with ha | ha
          · exact ⟨hj a ha, hne a (hpre a ha)⟩
          · rw [List.mem_singleton.mp ha]
            exact ⟨q1, e⟩) sl
        rw [List.map_append] at s
        have o := ok _ (barAt_mem q1)
        exact (slim_snoc slj o.1 o.2.1 o.2.2).mp s ⟨T, tT, t2, t3⟩
    -- the dict has one entry for each number
    obtain ⟨F, f1, f2, f3, f4, f5⟩ := tied_all ok (Pl.orderBut nb.length i) [] (List.replicate n []) (fun j hj => List.mem_range.mp (pm.mem_iff.mp hj)) (fun _ h => nomatch h) (by simpa using ndo) (Pl.fits_bare n) (Pl.slim_nil n)
    have one : ∀ (os laid : List Nat) (cs : Cs), os.Nodup → ∀ p ∈ tiedL nb cs os laid, ∀ q ∈ tiedL nb cs os laid, p.1 = q.1 → p = q := by
      intro os
      induction os with
      | nil => intro laid cs _ p hp; rw [tiedL_nil] at hp; cases hp
      | cons j r ih =>
        intro laid cs nd p hp q hq e
        obtain ⟨n1, n2⟩ := List.nodup_cons.mp nd
        have low : ∀ (os laid : List Nat) (cs : Cs), ∀ p ∈ tiedL nb cs os laid, p.1 ∈ os := by
          intro os
          induction os with
          | nil => intro laid cs p hp; rw [tiedL_nil] at hp; cases hp
          | cons j r ih =>
            intro laid cs p hp
            cases hy : (lay cs (barAt nb j).1 (barAt nb j).2).2 with
            | none =>
              rw [tiedL_none hy] at hp
              exact List.mem_cons_of_mem _ (ih _ _ p hp)
            | some ks =>
              rw [tiedL_some hy] at hp
              rcases List.mem_cons.mp hp with e | hp
              · rw [e]; exact List.mem_cons_self
              · exact List.mem_cons_of_mem _ (ih _ _ p hp)
        cases hy : (lay cs (barAt nb j).1 (barAt nb j).2).2 with
        | none =>
          rw [tiedL_none hy] at hp hq
          exact ih _ _ n2 p hp q hq e
        | some ks =>
          rw [tiedL_some hy] at hp hq
          rcases List.mem_cons.mp hp with e1 | hp
          · rcases List.mem_cons.mp hq with e2 | hq
            · rw [e1, e2]
            · exact (n1 (by have := low _ _ _ q hq; rw [← e, e1] at this; exact this)).elim
          · rcases List.mem_cons.mp hq with e2 | hq
            · exact (n1 (by have := low _ _ _ p hp; rw [e, e2] at this; exact this)).elim
            · exact ih _ _ n2 p hp q hq e
    rw [one _ _ _ ndo p hpm q hq (by rw [hpi, eq])]
    exact hxq
end
end Fr
namespace Pl
/-- what makes numbers of bars a knot -/
structure Knot (nb : List Fr.Bar) (l : List Nat) (i : Nat) (js : List Nat) : Prop where
  h1 : l.Pairwise (· < ·)
  h2 : ∀ a ∈ l, a < nb.length
  h4 : i ∈ l
  j1 : js.Pairwise (· < ·)
  j2 : ∀ x, x ∈ js ↔ ∃ a ∈ l, (Fr.barAt nb a).1 = x ∨ (Fr.barAt nb a).2 = x
  hc : l.length + 2 = 2 * js.length
  hs : ∀ m : List Int, m.Sublist (kI js) → 2 ≤ m.length → m.length < js.length → insideL ((l.map (Fr.barAt nb)).map bI) m + 3 ≤ 2 * m.length
theorem kI_sub {l m : List Nat} (h : l.Sublist m) : (kI l).Sublist (kI m) := h.map _
theorem knot_fit {n : Nat} {nb : List Fr.Bar} {i : Nat} (ok : Fr.Ok n nb) (hi : i < nb.length) {p : Nat × List Nat} (hp : knotOf n nb i = some p) : ∃ js : List Nat, js.length ≤ n ∧ Knot nb p.2 i js := by
  have pm := orderBut_perm hi
  unfold knotOf at hp
  have hpm := List.mem_of_find?_eq_some hp
  have hpi : p.1 = i := by
    have z := List.find?_some hp
    simpa using z
  have ri := Fr.tied_rise _ _ _ p hpm
  obtain ⟨q1, _, q3, lj, hj, ndj, slj, nq, tl, _⟩ := (Fr.tied_iff ok pm hi).2 p hpm
  obtain ⟨T, s1, s2, s3, s4⟩ := Fr.knot_shape ok hj ndj slj nq q1 (ri.imp fun h => Nat.ne_of_lt h) tl
  have hlow : ∀ a ∈ p.2, a < nb.length := by
    obtain ⟨_, _, _, _, _, t5⟩ := tl
    exact fun a ha => ((t5 a).mp ha).1
  have cT : ((List.range n).filter T).length = Fr.card n T := List.countP_eq_length_filter.symm
  refine ⟨(List.range n).filter T, by rw [cT]; exact Fr.card_le n T, ri, hlow, by rw [← hpi]; exact q3, List.pairwise_lt_range.filter _, fun x => ?_, by rw [cT]; exact s1, fun m hm h2 h3 => ?_⟩
  · rw [List.mem_filter, List.mem_range]
    constructor
    · rintro ⟨h1, h2⟩
      exact (s3 x h1).mp h2
    · rintro ⟨a, ha, q⟩
      have o := ok _ (Fr.barAt_mem (hlow a ha))
      have hx : x < n := by rcases q with q | q <;> omega
      exact ⟨hx, (s3 x hx).mpr ⟨a, ha, q⟩⟩
  · have hm2 : m.Sublist (kI (List.range n)) := hm.trans (kI_sub List.filter_sublist)
    have c := card_isI hm2
    rw [inside_ins]
    have sub : ∀ x, x < n → isI m x = true → T x = true := fun x hx h => by
      have z : (x : Int) ∈ m := of_decide_eq_true h
      exact (List.mem_filter.mp (kI_mem.mp (hm.subset z))).2
    rw [← c]
    refine s4 (isI m) (by rw [c]; exact h2) sub ?_
    by_cases q : ∃ x, x < n ∧ T x = true ∧ isI m x = false
    · exact q
    · exfalso
      have : Fr.card n T ≤ Fr.card n (isI m) := Fr.card_mono fun x hx tx => by
        cases z : isI m x with
        | true => rfl
        | false => exact (q ⟨x, hx, tx, z⟩).elim
      omega
theorem knot_some {n : Nat} {nb : List Fr.Bar} {i : Nat} (ok : Fr.Ok n nb) (hi : i < nb.length) : (∃ p, knotOf n nb i = some p) ↔ i ∈ manyL n nb := by
  have h := knot_none ok hi
  rw [manyL_mem]
  unfold knotD at h
  cases q : knotOf n nb i with
  | none =>
    rw [q] at h
    exact ⟨fun ⟨p, e⟩ => (by cases e), fun z => (h.mp rfl z.2).elim⟩
  | some p =>
    rw [q] at h
    refine ⟨fun _ => ⟨hi, ?_⟩, fun _ => ⟨p, rfl⟩⟩
    by_cases z : Fr.Hld n (nb.eraseIdx i) (Fr.barAt nb i).1 (Fr.barAt nb i).2
    · exact z
    · cases h.mpr z
/-- one bar more, at i, than a stiff lean frame has -/
theorem great_knot {n : Nat} {nb : List Fr.Bar} {i : Nat} (ok : Fr.Ok n nb) (h2 : 2 ≤ n) (hi : i < nb.length) (sl : Fr.Slim n (nb.eraseIdx i)) (hl : (nb.eraseIdx i).length + 3 = 2 * n) : ∃ js : List Nat, js.length ≤ n ∧ Knot nb (manyL n nb) i js := by
  have okl : Fr.Ok n (nb.eraseIdx i) := ok.sub (List.eraseIdx_sublist _ _)
  have o := ok _ (Fr.barAt_mem hi)
  have call : Fr.card n (fun _ => true) = n := by
    unfold Fr.card
    exact (congrFun List.countP_true _).trans List.length_range
  have iall : Fr.ins (nb.eraseIdx i) (fun _ => true) = (nb.eraseIdx i).length := congrFun List.countP_true _
  have hh : Fr.Hld n (nb.eraseIdx i) (Fr.barAt nb i).1 (Fr.barAt nb i).2 := by
    unfold Fr.Hld
    rw [Fr.basis_all sl]
    exact ⟨fun _ => true, ⟨by rw [call]; exact h2, by rw [call, iall]; exact hl⟩, rfl, rfl⟩
  obtain ⟨p, hp⟩ := (knot_some ok hi).mpr (manyL_mem.mpr ⟨hi, hh⟩)
  rw [← Fr.one_more ok hi sl hp]
  exact knot_fit ok hi hp
end Pl

/-! Drawn numbers, drawn things of a list, what is no joint. -/
namespace Pl
open PySem PySem.Spec PyProof.Rows L2
def md (c : Int) (m : Nat) : Nat := (c % (m : Int)).toNat
theorem md_eq (c : Int) {m : Nat} (h : 0 < m) : ((md c m : Nat) : Int) = c % (m : Int) ∧ md c m < m := by
  unfold md
  have := Int.emod_nonneg c (show (m : Int) ≠ 0 by omega)
  have := Int.emod_lt_of_pos c (show (0 : Int) < (m : Int) by omega)
  omega
theorem JD.out {c j : Int} (h : ¬ (0 ≤ j ∧ j < c)) : JD c (.int j) false := by
  have z : (decide (0 ≤ j) && decide (j < c)) = false := by
    rw [← Bool.decide_and]
    exact decide_eq_false h
  rw [← z]
  exact .int j
theorem JD.in {c j : Int} (h1 : 0 ≤ j) (h2 : j < c) : JD c (.int j) true := by
  have z : (decide (0 ≤ j) && decide (j < c)) = true := by rw [decide_eq_true h1, decide_eq_true h2]; rfl
  rw [← z]
  exact .int j
theorem dull_non : Dull .non := .inl rfl
theorem dull_bl {b : Bool} : Dull (.bl b) := .inr (.inl rfl)
theorem dull_str {s : Str} : Dull (.str s) := .inr (.inr (.inl rfl))
theorem dull_lst {ds : List D} : Dull (.lst ds) := .inr (.inr (.inr (.inl rfl)))
theorem dull_tup {ds : List D} : Dull (.tup ds) := .inr (.inr (.inr (.inr rfl)))
section
variable {K : PySem.W.Frag}
theorem rv_pow {i j : Int} (h : CPow i j) : RV K (rI CPow fun i j => .int (i ^ j.toNat)) (.int i) (.int j) (.int (i ^ j.toNat)) := rv_I h fun _ => .int _
theorem rv_pickL {ds : List D} {c m : Int} (hm : (ds.length : Int) = m) (h : 0 < m) : ∃ d ∈ ds, RV K (rIx K) (.lst ds) (.int (c % m)) d := by
  have a1 := Int.emod_nonneg c (show m ≠ 0 by omega)
  have a2 := Int.emod_lt_of_pos c h
  have hl : (c % m).toNat < ds.length := by omega
  exact ⟨ds[(c % m).toNat], List.getElem_mem hl, rv_ixL (atI_int a1 (List.getElem?_eq_getElem hl))⟩
theorem erase_ins {α : Type} (l : List α) (x : α) {k : Nat} (h : k ≤ l.length) : (l.take k ++ [x] ++ l.drop k).eraseIdx k = l ∧ (l.take k ++ [x] ++ l.drop k)[k]? = some x ∧ (l.take k ++ [x] ++ l.drop k).length = l.length + 1 := by
  have hk : (l.take k).length = k := by rw [List.length_take]; omega
  refine ⟨?_, ?_, ?_⟩
  · rw [List.append_assoc, List.eraseIdx_append_of_length_le (by omega), hk, Nat.sub_self]
    exact List.take_append_drop k l
  · rw [List.append_assoc, List.getElem?_append_right (by omega), hk, Nat.sub_self]
    rfl
  · simp only [List.length_append, List.length_drop, hk, List.length_singleton]
    omega
end
end Pl

/-! Walks over lists that are told by a function; x in a list of data. -/
namespace Pl
open PySem PySem.Spec PyProof.Rows L2
open Evl (Ex)
section
variable {K : PySem.W.Frag} {ρ : Rho}
theorem evF_lcM {α : Type} {wi : TI} {g : TG} {tt : TT} {te : TE} {vs : List Nat} {xs : List α} {gd : α → D} (hi : EvI K wi ρ (xs.map gd)) (ps : α → List (Nat × D)) (f : α → Bool) (e : α → D) (hg : ∀ d ∈ xs, EvG K g (gd d) (ps d)) (hs : ∀ d ∈ xs, ∀ p ∈ ps d, p.1 ∈ vs)
    (ht : ∀ d ∈ xs, EvT K tt (setR (wipeR ρ vs) (ps d)) (f d)) (he : ∀ d ∈ xs, f d = true → EvD K te (setR (wipeR ρ vs) (ps d)) (e d)) (hl : xs.length ≤ 50000) : EvF K (tLc wi g tt te vs) ρ ((xs.filter f).map e) := fun S H σ ee v Q q =>
  hi S H σ ee v _ fun J S1 H1 x1 wk => fun Dl hD => by
    refine ⟨fun i m H' => m = xs.length - i ∧ i ≤ xs.length ∧ ∃ S' us, Ext S1 H1 S' H' ∧ S' Dl = none ∧ H' Dl = some (.lst us) ∧ RdL K S' us (((xs.take i).filter f).map e),
      ⟨xs.length, by simp, Nat.zero_le _, S1, [], Ext.hid x1.sub hD, sub_none x1.sub hD, upd_same, .nil⟩, ?_⟩
    rintro i m H' ⟨rfl, hi, S', us, x, nS, hus, rl⟩
    by_cases hlt : i < xs.length
    · refine .inr ⟨wk.go S' H' i x.s x.sub (by rw [List.length_map]; exact hlt), fun H2 => ∃ S2 us2, Ext S1 H1 S2 H2 ∧ S2 Dl = none ∧ H2 Dl = some (.lst us2) ∧ RdL K S2 us2 (((xs.take (i + 1)).filter f).map e), fun H2 z => ⟨xs.length - (i + 1), by omega, rfl, hlt, z⟩, fun xv H'' y => ?_⟩
      have hd : (xs.map gd)[i]? = some (gd xs[i]) := by rw [List.getElem?_map, List.getElem?_eq_getElem hlt]; rfl
      have hlm : i < (xs.map gd).length := by rw [List.length_map]; exact hlt
      have hm : xs[i] ∈ xs := List.getElem_mem hlt
      obtain ⟨S2, x2, r2⟩ := wk.yld S' H' i xv H'' (gd xs[i]) x.s x.sub hd y
      have tk : xs.take (i + 1) = xs.take i ++ [xs[i]] := (List.take_append_getElem hlt).symm
      refine hg _ hm S2 H'' _ xv x2.sub r2 _ fun ws rws => ⟨?_, ?_⟩
      · rw [wipe_setV fun j hj => by
          obtain ⟨p, hp, rfl⟩ := List.mem_map.mp hj
          exact hs _ hm p hp, wipe_wipe]
      · have ev : Env K S2 (setV (L2.wipe σ vs) ((ps xs[i]).map (·.1)) ws) (setR (wipeR ρ vs) (ps xs[i])) := (((v.mono ((x1.s.trans x.s).trans x2.s)).wipe vs)).setV rws
        have nl : ∀ {S3 H3 : Hp}, Ext S2 H'' S3 H3 → S3 Dl = none := fun x3 => x3.dis Dl (x2.dis Dl nS (by rw [hus]; exact fun z => nomatch z)) (by rw [x2.h Dl _ hus]; exact fun z => nomatch z)
        refine ht _ hm S2 H'' _ x2.sub ev _ fun S3 H3 x3 => ?_
        cases hf : f xs[i] with
        | false =>
          refine ⟨S3, us, (x.trans x2).trans x3, nl x3, (x2.trans x3).h _ _ hus, ?_⟩
          rw [tk, List.filter_append, List.filter_cons, hf]
          simp only [Bool.false_eq_true, if_false, List.filter_nil, List.append_nil]
          exact rl.mono (x2.trans x3).s
        | true =>
          refine he _ hm hf S3 H3 _ x3.sub (ev.mono x3.s) _ fun yv S4 H4 x4 r4 => ?_
          have hu4 := (x2.trans (x3.trans x4)).h _ _ hus
          have n4 := nl (x3.trans x4)
          have ul : us.length ≤ xs.length := by
            rw [rl.length, List.length_map]
            exact Nat.le_trans (List.length_filter_le _ _) (by rw [List.length_take]; omega)
          refine ⟨us, hu4, Evl.sz_lt (by omega), S4, us ++ [yv], ?_, n4, upd_same, ?_⟩
          · have xx := (x.trans x2).trans (x3.trans x4)
            refine ⟨xx.s, fun a o ha => ?_, fun a o ha => ?_, xx.dis⟩
            · rw [upd_ne (ne_of_none ha hD)]
              exact xx.h a o ha
            · rw [upd_ne (fun z => by rw [z, n4] at ha; cases ha)]
              exact xx.sub a o ha
          · rw [tk, List.filter_append, List.filter_cons, hf]
            simp only [if_true, List.filter_nil]
            rw [List.map_append]
            exact (rl.mono (x2.trans (x3.trans x4)).s).append (.cons r4 .nil)
    · have e0 : i = xs.length := by omega
      subst e0
      rw [List.take_length] at rl
      exact .inl ⟨by have z := wk.stop S' H' x.s x.sub; rwa [List.length_map] at z, q Dl us S' H' (x1.trans x) (Evl.fresh_back x1.h hD) nS hus rl⟩

theorem rngD_eq (n : Nat) : rngD 0 n 1 = (List.range n).map fun i : Nat => D.int (i : Int) := by
  unfold rngD
  refine List.map_congr_left fun i _ => ?_
  rw [Int.mul_one, Int.zero_add]
/-- [.. for k in range(n) if ..] -/
theorem evF_lcN {wi : TI} {tt : TT} {te : TE} {vs : List Nat} {n j : Nat} (hi : EvI K wi ρ (rngD 0 n 1)) (hj : j ∈ vs) (hn : n ≤ 1000) (f : Nat → Bool) (e : Nat → D)
    (ht : ∀ i : Nat, i < n → EvT K tt (setR (wipeR ρ vs) [(j, .int (i : Int))]) (f i)) (he : ∀ i : Nat, i < n → f i = true → EvD K te (setR (wipeR ρ vs) [(j, .int (i : Int))]) (e i)) :
    EvF K (tLc wi (gName j) tt te vs) ρ (((List.range n).filter f).map e) := by
  rw [rngD_eq] at hi
  exact evF_lcM hi (fun k => [(j, .int (k : Int))]) f e (fun _ _ => eg_name) (fun _ _ p hp => by rw [List.mem_singleton.mp hp]; exact hj) (fun i hi => ht i (List.mem_range.mp hi)) (fun i hi => he i (List.mem_range.mp hi)) (by rw [List.length_range]; omega)
variable {F : FE} {t : TS} {FF : FM} {g : Gs}
theorem T.forM {α : Type} {xs : List α} {gd : α → D} {wi : TI} {tg : TG} (hi : EvI K wi ρ (xs.map gd)) (Pv : Nat → Rho → Prop) (h0 : Pv 0 ρ) (hs : ∀ (i : Nat) (x : α) (ρ' : Rho), xs[i]? = some x → Pv i ρ' → ∃ ps, EvG K tg (gd x) ps ∧ T K t (setR ρ' ps) { F with nx := Pv (i + 1), ct := Pv (i + 1), bk := F.nx })
    (hd : ∀ ρ', Pv xs.length ρ' → F.nx ρ') : T K (tFor wi tg t) ρ F := T.for hi Pv h0 (fun i d ρ' he p => by
  rw [List.getElem?_map] at he
  cases q : xs[i]? with
  | none => rw [q] at he; cases he
  | some x =>
    rw [q] at he
    cases he
    exact hs i x ρ' q p) (by rw [List.length_map]; exact hd)
theorem TM.forM {α : Type} {xs : List α} {gd : α → D} {wi : TI} {tg : TG} (hi : EvI K wi ρ (xs.map gd)) (Pv : Nat → Rho → Gs → Prop) (h0 : Pv 0 ρ g) (hs : ∀ (i : Nat) (x : α) (ρ' : Rho) (g' : Gs), xs[i]? = some x → Pv i ρ' g' → ∃ ps, EvG K tg (gd x) ps ∧ TM K t (setR ρ' ps) g' { FF with nx := Pv (i + 1), ct := Pv (i + 1), bk := FF.nx })
    (hd : ∀ ρ' g', Pv xs.length ρ' g' → FF.nx ρ' g') : TM K (tFor wi tg t) ρ g FF := TM.for hi Pv h0 (fun i d ρ' g' he p => by
  rw [List.getElem?_map] at he
  cases q : xs[i]? with
  | none => rw [q] at he; cases he
  | some x =>
    rw [q] at he
    cases he
    exact hs i x ρ' g' q p) (by rw [List.length_map]; exact hd)
theorem T.forN {n : Nat} {wi : TI} {tg : TG} (hi : EvI K wi ρ (rngD 0 n 1)) (Pv : Nat → Rho → Prop) (h0 : Pv 0 ρ) (hs : ∀ (i : Nat) (ρ' : Rho), i < n → Pv i ρ' → ∃ ps, EvG K tg (.int (i : Int)) ps ∧ T K t (setR ρ' ps) { F with nx := Pv (i + 1), ct := Pv (i + 1), bk := F.nx })
    (hd : ∀ ρ', Pv n ρ' → F.nx ρ') : T K (tFor wi tg t) ρ F := T.for hi Pv h0 (fun i d ρ' he p => by
  obtain ⟨h1, rfl⟩ := rngD_get0 he
  exact hs i ρ' h1 p) (by rw [rngD_len]; exact hd)
theorem TM.forN {n : Nat} {wi : TI} {tg : TG} (hi : EvI K wi ρ (rngD 0 n 1)) (Pv : Nat → Rho → Gs → Prop) (h0 : Pv 0 ρ g) (hs : ∀ (i : Nat) (ρ' : Rho) (g' : Gs), i < n → Pv i ρ' g' → ∃ ps, EvG K tg (.int (i : Int)) ps ∧ TM K t (setR ρ' ps) g' { FF with nx := Pv (i + 1), ct := Pv (i + 1), bk := FF.nx })
    (hd : ∀ ρ' g', Pv n ρ' g' → FF.nx ρ' g') : TM K (tFor wi tg t) ρ g FF := TM.for hi Pv h0 (fun i d ρ' g' he p => by
  obtain ⟨h1, rfl⟩ := rngD_get0 he
  exact hs i ρ' g' h1 p) (by rw [rngD_len]; exact hd)
/-- enumerate(xs) -/
theorem T.forE {α : Type} {xs : List α} {gd : α → D} {wi : TI} {tg : TG} (hi : EvI K wi ρ (enumD (xs.map gd))) (Pv : Nat → Rho → Prop) (h0 : Pv 0 ρ) (hs : ∀ (i : Nat) (x : α) (ρ' : Rho), xs[i]? = some x → Pv i ρ' → ∃ ps, EvG K tg (.tup [.int (i : Int), gd x]) ps ∧ T K t (setR ρ' ps) { F with nx := Pv (i + 1), ct := Pv (i + 1), bk := F.nx })
    (hd : ∀ ρ', Pv xs.length ρ' → F.nx ρ') : T K (tFor wi tg t) ρ F := T.for hi Pv h0 (fun i d ρ' he p => by
  obtain ⟨y, hy, rfl⟩ := enumD_get he
  rw [List.getElem?_map] at hy
  cases q : xs[i]? with
  | none => rw [q] at hy; cases hy
  | some x =>
    rw [q] at hy
    cases hy
    exact hs i x ρ' q p) (by rw [enumD_len, List.length_map]; exact hd)
/-! ### x in xs, of data -/
theorem units65 {k : Nat} {A : Around} (r : Room k A) : A.units + 65 < cLine := by
  have := r.un
  omega
theorem okd_mono : ∀ (n m : Nat) (d : D), n ≤ m → d.okd n = true → d.okd m = true
  | _, m, .non, _, _ => by cases m <;> rfl
  | _, m, .bl _, _, _ => by cases m <;> rfl
  | _, m, .int _, _, _ => by cases m <;> rfl
  | n, m, .str s, _, h => by cases n <;> cases m <;> exact h
  | n, _, .adr _, _, h => by cases n <;> cases h
  | n, _, .ty _, _, h => by cases n <;> cases h
  | n, _, .dc _ _, _, h => by cases n <;> cases h
  | n, _, .ob _ _ _, _, h => by cases n <;> cases h
  | n, _, .fz _, _, h => by cases n <;> cases h
  | n, _, .fv _ _, _, h => by cases n <;> cases h
  | n, _, .er _, _, h => by cases n <;> cases h
  | 0, _, .ro _, _, h => by cases h
  | 0, _, .lst _, _, h => by cases h
  | 0, _, .tup _, _, h => by cases h
  | _ + 1, 0, .ro _, l, _ => absurd l (by omega)
  | _ + 1, 0, .lst _, l, _ => absurd l (by omega)
  | _ + 1, 0, .tup _, l, _ => absurd l (by omega)
  | n + 1, m + 1, .ro _, _, _ => rfl
  | n + 1, m + 1, .lst ds, l, h => List.all_eq_true.mpr fun d hd => okd_mono n m d (by omega) (List.all_eq_true.mp h d hd)
  | n + 1, m + 1, .tup ds, l, h => List.all_eq_true.mpr fun d hd => okd_mono n m d (by omega) (List.all_eq_true.mp h d hd)
theorem okd_up {d : D} (h : d.okd 59 = true) : d.okd 60 = true := okd_mono 59 60 d (by decide) h
theorem ok_inD {X : Cx} (h : X.K = K) (hu : X.A.units + 65 < cLine) : OpR X (compareOp .In) (rInD K) := by subst h; exact op_inD hu
theorem ok_niD {X : Cx} (h : X.K = K) (hu : X.A.units + 65 < cLine) : OpR X (compareOp .NotIn) (rNotInD K) := by subst h; exact op_notInD hu
theorem any_eqv {x : D} {ds : List D} (sx : x.sm 60 = true) (sds : ∀ d ∈ ds, d.sm 60 = true) : (((ds.map D.py).any fun z => PyData.eqv z x.py) = true) ↔ x ∈ ds := by
  rw [List.any_map, List.any_eq_true]
  constructor
  · rintro ⟨d, hd, h⟩
    have z := (eqv_iff 60 d x (sds d hd) sx).mp h
    exact z ▸ hd
  · exact fun h => ⟨x, h, (eqv_iff 60 x x sx sx).mpr rfl⟩
theorem rv_inD {x : D} {ds : List D} {b : Bool} (hx : x.okd 59 = true) (hds : ∀ d ∈ ds, d.okd 59 = true) (sx : x.sm 60 = true) (sds : ∀ d ∈ ds, d.sm 60 = true) (h : b = true ↔ x ∈ ds) : RV K (rInD K) x (.lst ds) (.bl b) := fun S H v u e r1 r2 Q q => by
  have hx60 : x.okd 60 = true := okd_up hx
  have hL : (D.lst ds).okd 60 = true := List.all_eq_true.mpr hds
  have d2 := Rd.dp 60 _ _ hL (r2.mono e)
  have s2 := okd_shaped hL
  have ep : (D.lst ds).py = .list (ds.map D.py) := by rw [D.py, pyL_map]
  rw [ep] at d2 s2
  refine ⟨x.py, ds.map D.py, Rd.dp 60 _ _ hx60 (r1.mono e), d2, okd_shaped hx60, s2, ?_⟩
  have eb : ((ds.map D.py).any fun z => PyData.eqv z x.py) = b := Bool.eq_iff_iff.mpr ((any_eqv sx sds).trans h.symm)
  rw [eb]
  exact q _ S H (Ext.refl e) (.bl b)
theorem rv_isBl {a b : Bool} : RV K rIsB (.bl a) (.bl b) (.bl (decide (a = b))) := fun S H v u e r1 r2 Q q => by
  cases r1
  cases r2
  exact ⟨a, b, rfl, rfl, q _ S H (Ext.refl e) (.bl _)⟩
theorem rv_notBl {a b : Bool} : RV K rNotB (.bl a) (.bl b) (.bl (!decide (a = b))) := fun S H v u e r1 r2 Q q => by
  cases r1
  cases r2
  exact ⟨a, b, rfl, rfl, q _ S H (Ext.refl e) (.bl _)⟩
theorem rv_niD {x : D} {ds : List D} {b : Bool} (hx : x.okd 59 = true) (hds : ∀ d ∈ ds, d.okd 59 = true) (sx : x.sm 60 = true) (sds : ∀ d ∈ ds, d.sm 60 = true) (h : b = true ↔ x ∈ ds) : RV K (rNotInD K) x (.lst ds) (.bl (!b)) := fun S H v u e r1 r2 Q q => by
  have hx60 : x.okd 60 = true := okd_up hx
  have hL : (D.lst ds).okd 60 = true := List.all_eq_true.mpr hds
  have d2 := Rd.dp 60 _ _ hL (r2.mono e)
  have s2 := okd_shaped hL
  have ep : (D.lst ds).py = .list (ds.map D.py) := by rw [D.py, pyL_map]
  rw [ep] at d2 s2
  refine ⟨x.py, ds.map D.py, Rd.dp 60 _ _ hx60 (r1.mono e), d2, okd_shaped hx60, s2, ?_⟩
  have eb : ((ds.map D.py).any fun z => PyData.eqv z x.py) = b := Bool.eq_iff_iff.mpr ((any_eqv sx sds).trans h.symm)
  rw [eb]
  exact q _ S H (Ext.refl e) (.bl _)
end
end Pl

/-! Statements without a region within those with one; rows as trees; stiff frames have one part. -/
namespace Pl
open PySem PySem.Spec PyProof.Rows L2
open Evl (Ex)
section
variable {K : PySem.W.Frag} {ρ : Rho} {t : TS} {F : FM} {g g1 g2 : Gs} {E : XK} {tA : TA} {ds : List D} {m : M}
def FM.flat (F : FM) : FE := { nx := fun r => F.nx r [], rt := fun d => F.rt (.d d) [], rf := fun es => F.rt (.o es) [], bk := fun r => F.bk r [], ct := fun r => F.ct r [] }
theorem SG.ofS {S0 H0 S H : Hp} {σ : L2.St} (s : Stt K S0 H0 ρ S H σ) : SG K S0 H0 ρ [] S H σ := ⟨[], ⟨.nil, List.nodup_nil, fun _ h => nomatch h⟩, by rw [cov_nil]; exact s⟩
theorem SG.ofX {S0 H0 S' H' : Hp} (x : Ext S0 H0 S' H') : Stt K S0 H0 [] S' H' [] := ⟨x, ⟨rfl, fun i d h => by simp at h⟩, fun i ds h => by simp at h, fun i j a b p h => by simp at h⟩
/-- no region: as without one -/
theorem TM.ofT (h : T K t ρ F.flat) : TM K t ρ [] F := fun S0 H0 S H σ Dd st ac =>
  h S0 H0 S H σ Dd st.bare ⟨fun ρ' S' H' σ' n e s' => ac.nx ρ' [] S' H' σ' n e (SG.ofS s'), fun ρ' S' H' σ' n e s' => ac.bk ρ' [] S' H' σ' n e (SG.ofS s'), fun ρ' S' H' σ' n e s' => ac.ct ρ' [] S' H' σ' n e (SG.ofS s'),
    fun d v S' H' n x r => ac.rt (.d d) [] v [] S' H' [] n ⟨SG.ofS (SG.ofX x), r⟩,
    fun es p vs S' H' n x h0 sp hp r => ac.rt (.o es) [] (.ref p) [] S' H' [] n (SG.ofS ((SG.ofX x).beside ⟨p, vs, rfl, h0, sp, hp, r⟩ fun _ _ j ds hj => by simp at hj))⟩
/-- the region is left behind -/
theorem TM.drop (h : T K t ρ F.flat) : TM K t ρ g F := TM.forget (g1 := []) (g2 := g) (List.Perm.refl _) (TM.ofT h)
theorem ev_callT {Rel : List D → Gs → Rs → Gs → Prop} (ha : EvA K tA ρ ds) (hr : Rel ds [] (.t m) []) : EvD K (tCall (spG K Rel) [] E tA) ρ m.see := fun S H σ e v Q q =>
  ha S H σ e v _ fun vs S1 H1 x1 r1 => ⟨S1, H1, ds, [], .t m, [], SG.none x1.sub, by rw [List.append_nil]; exact r1, hr, fun v S2 H2 _ z => by
    obtain ⟨p, ev, z⟩ := z
    subst ev
    obtain ⟨S3, e3, z3, r3⟩ := SG.tellT (g := []) z
    exact q _ S3 H2 (x1.trans (SG.bare z3).ext) r3⟩
def rowT (l : List Nat) : M := .n .lst ((nD l).map M.d)
theorem see_rowT (l : List Nat) : (rowT l).see = rowD l := by
  show D.lst (seeL _) = D.lst _
  rw [seeL_d]
def rowsT (ls : List (List Nat)) : M := .n .lst (ls.map rowT)
theorem see_rowsT (ls : List (List Nat)) : (rowsT ls).see = .lst (ls.map rowD) := by
  show D.lst (seeL _) = D.lst _
  rw [seeL_map, List.map_map]
  refine congrArg D.lst (List.map_congr_left fun l _ => see_rowT l)
theorem rowT_isN {ls : List (List Nat)} : ∀ m ∈ ls.map rowT, m.isN = true := fun m hm => by
  obtain ⟨e, _, rfl⟩ := List.mem_map.mp hm
  rfl
theorem adrM_map (as : List Addr) : adrM as = (as.map D.adr).map M.d := by
  unfold adrM
  rw [List.map_map]
  rfl
theorem zip_rowT {as : List Addr} {ls : List (List Nat)} {a : Addr} {l : List Nat} (h : as.length = ls.length) : (as ++ [a]).zip ((ls ++ [l]).map rowT) = as.zip (ls.map rowT) ++ [(a, rowT l)] := by
  rw [List.map_append, List.zip_append (by rw [List.length_map]; exact h)]
  rfl
end
theorem partsL_mem0 {n : Nat} {nb : List Fr.Bar} (ok : Fr.Ok n nb) {l : List Nat} : l ∈ partsL n nb ↔ ∃ a b, a < b ∧ b < n ∧ Fr.Spn n (Fr.pickB n [] nb) a b ∧ l = partL n (Fr.pickB n [] nb) (a, b) := by
  have okk := Fr.basis_ok ok
  have slk := Fr.basis_slim n nb
  unfold partsL
  generalize Fr.pickB n [] nb = kb at okk slk
  rw [List.mem_map]
  constructor
  · rintro ⟨p, hp, rfl⟩
    obtain ⟨h1, h2, h3, _⟩ := Fr.ldrs_mem.mp hp
    exact ⟨p.1, p.2, h1, h2, h3, rfl⟩
  · rintro ⟨a, b, h1, h2, h3, rfl⟩
    obtain ⟨a', b', hL, pa, pb⟩ := Fr.lead_ex okk slk (show a < n by omega) h2 (by omega) h3
    obtain ⟨k1, k2, k3, _⟩ := id hL
    refine ⟨(a', b'), Fr.ldrs_mem.mpr hL, ?_⟩
    have same := (Fr.part_same okk slk (show a' < n by omega) k2 (by omega) k3 (show a < n by omega) h2 (by omega) pa pb).2
    unfold partL
    exact List.filter_congr fun z hz => same z (List.mem_range.mp hz)
theorem parts_few {n : Nat} {nb : List Fr.Bar} (ok : Fr.Ok n nb) : (partsL n nb).length ≤ nb.length := by
  have okk := Fr.basis_ok ok
  have slk := Fr.basis_slim n nb
  have hps := Fr.parts_sum okk slk
  have hk := (Fr.pickB_sub (n := n) nb []).length_le
  unfold partsL
  rw [List.length_map]
  have one : ((Fr.ldrs n (Fr.pickB n [] nb)).map fun _ => 1).sum = (Fr.ldrs n (Fr.pickB n [] nb)).length := Fr.sum_one fun _ _ => rfl
  have le := Fr.sum_le (l := Fr.ldrs n (Fr.pickB n [] nb)) (f := fun _ => 1) (g := fun p => 2 * Fr.card n (Fr.part n (Fr.pickB n [] nb) p.1 p.2) - 3) fun p hp => by
    obtain ⟨h1, h2, h3, _⟩ := Fr.ldrs_mem.mp hp
    obtain ⟨⟨t1, _⟩, _⟩ := Fr.part_all okk slk (show p.1 < n by omega) h2 (by omega) h3
    omega
  omega
theorem parts_short {n : Nat} {nb : List Fr.Bar} {l : List Nat} (h : l ∈ partsL n nb) : l.length ≤ n := by
  obtain ⟨p, _, rfl⟩ := List.mem_map.mp h
  unfold partL
  exact Nat.le_trans (List.length_filter_le _ _) (by rw [List.length_range]; exact Nat.le_refl _)
/-! ### stiff frames -/
section
variable {n : Nat} {nb : List Fr.Bar}
theorem card_all (n : Nat) : Fr.card n (fun _ => true) = n := (congrFun List.countP_true _).trans List.length_range
theorem ins_all (bs : List Fr.Bar) : Fr.ins bs (fun _ => true) = bs.length := congrFun List.countP_true _
theorem range_all {n : Nat} {p : Nat → Bool} (h : ∀ x, x < n → p x = true) : (List.range n).filter p = List.range n := List.filter_eq_self.mpr fun x hx => h x (List.mem_range.mp hx)
theorem stiff_parts (ok : Fr.Ok n nb) (h2 : 2 ≤ n) : Fr.rk n nb + 3 = 2 * n ↔ partsL n nb = [List.range n] := by
  have okk := Fr.basis_ok ok
  have slk := Fr.basis_slim n nb
  have hps := Fr.parts_sum okk slk
  have hnd := parts_nodup n nb
  unfold Fr.rk
  unfold partsL at hnd ⊢
  generalize Fr.pickB n [] nb = kb at okk slk hps hnd
  constructor
  · intro h
    have sp : ∀ a b, Fr.Spn n kb a b := fun a b => ⟨fun _ => true, ⟨by rw [card_all]; exact h2, by rw [card_all, ins_all]; exact h⟩, rfl, rfl⟩
    have one : ∀ p ∈ Fr.ldrs n kb, partL n kb p = List.range n := fun p hp => range_all fun x _ => Fr.part_iff.mpr (.inr (.inr ⟨sp _ _, sp _ _⟩))
    obtain ⟨a, b, hL, _⟩ := Fr.lead_ex okk slk (show 0 < n by omega) (show 1 < n by omega) (by decide) (sp 0 1)
    have hm : List.range n ∈ (Fr.ldrs n kb).map (partL n kb) := List.mem_map.mpr ⟨(a, b), Fr.ldrs_mem.mpr hL, one _ (Fr.ldrs_mem.mpr hL)⟩
    have all : ∀ l ∈ (Fr.ldrs n kb).map (partL n kb), l = List.range n := fun l hl => by
      obtain ⟨p, hp, rfl⟩ := List.mem_map.mp hl
      exact one p hp
    generalize (Fr.ldrs n kb).map (partL n kb) = L at hm all hnd
    cases L with
    | nil => cases hm
    | cons x t =>
      cases t with
      | nil => rw [all x List.mem_cons_self]
      | cons y t =>
        have e1 := all x List.mem_cons_self
        have e2 := all y (List.mem_cons_of_mem _ List.mem_cons_self)
        rw [e1, e2] at hnd
        exact ((List.nodup_cons.mp hnd).1 List.mem_cons_self).elim
  · intro h
    generalize Fr.ldrs n kb = L at h hps
    cases L with
    | nil => cases h
    | cons p t =>
      cases t with
      | cons y t =>
        have z := congrArg List.length h
        simp at z
      | nil =>
        have e : partL n kb p = List.range n := by
          rw [List.map_cons, List.map_nil] at h
          exact (List.cons.inj h).1
        have c : Fr.card n (Fr.part n kb p.1 p.2) = n := by
          have z := congrArg List.length e
          unfold partL at z
          rw [List.length_range] at z
          exact List.countP_eq_length_filter.trans z
        simp only [List.map_cons, List.map_nil, List.sum_cons, List.sum_nil, c] at hps
        omega
end
end Pl

/-! sum(xss, []): lists put one behind the other. -/
namespace Su
open PySem PySem.Spec PyProof.Rows L2
theorem list_str : isSubtype (.type "list") (.type "str") = pure false := by rw [isSubtype_type]; kernel_rfl
theorem list_bytes : isSubtype (.type "list") (.type "bytes") = pure false := by rw [isSubtype_type]; kernel_rfl
theorem list_bytearray : isSubtype (.type "list") (.type "bytearray") = pure false := by rw [isSubtype_type]; kernel_rfl
theorem args_two (a b : Value) : argsOk "sum" ⟨[a, b], []⟩ := by unfold argsOk; kernel_rfl
section
variable {prog : Program} {w : World} {A : Around} {R : Result → Shared → Prop} {s0 : Shared} {h0 : Heap} {L I S : Addr} {us : List Value} {ys : Nat → List Value} {tot : Nat → List Value}
theorem loop (hh : A.handled = none) (hne : L ≠ I) (hSI : S ≠ I) (hSL : S ≠ L) (hS0 : h0.get? S = none) (hSz : h0.objs.size ≤ S) (hI0 : h0.get? I = none)
    (hu : ∀ i v, us[i]? = some v → ∃ l n, v = .ref l ∧ h0.get? l = some { cls := .type "list", data := .seq (ys i).toArray n }) (ht : ∀ i, tot (i + 1) = tot i ++ ys i) (hz : ∀ i, i < us.length → (tot i).length + (ys i).length ≤ sizeLine)
    (hR : ∀ (p : Addr) (n : Nat) (h' : Heap) (tk : Nat), (∀ b o, h0.get? b = some o → h'.get? b = some o) → h'.get? p = some { cls := .type "list", data := .seq (tot us.length).toArray n } → (us.length = 0 ∨ h0.objs.size ≤ p) → R (.ok (.ret (.ref p))) { s0 with heap := h', toks := tk }) :
    ∀ (k i : Nat) (h : Heap) (tk0 : Nat) (t : Addr) (tn c : Nat), us.length - i = k → i ≤ us.length → (∀ b o, h0.get? b = some o → h.get? b = some o) → h.IsListIter I L i → h.IsList L us.toArray → t ≠ S → t ≠ I →
      h.get? t = some { cls := .type "list", data := .seq (tot i).toArray tn } → (i = 0 ∨ h0.objs.size ≤ t) → h.get? S = some { cls := .type "list", dict := none, data := .seq #[.ref t] c, slots := #[] } →
      codeAny (model prog w) A (.builtin "sum.loop" ⟨[.ref I, .ref S, rawInt 2, rawInt 0], []⟩) R { s0 with heap := h, toks := tk0 } := by
  have W := Walks.list (prog := prog) (w := w) (A := A.in1) hh I L hne us.toArray
  have hsz : us.toArray.size = us.length := by simp
  intro k
  induction k with
  | zero =>
    intro i h tk0 t tn c hk hi kp hit hl tS tI hT hti hS
    have hin : i = us.length := by omega
    subst hin
    refine codeAny_builtin F.entry_sum_loop ?_
    rw [Around.under_plainId F.plain_sum_loop _]
    show wpAny _ A.in1 (seqItems? (.ref S) >>= _) _ _ { s0 with heap := h, toks := tk0 }
    refine wpAny_bind (wpAny_seqItems hS rfl ?_)
    show wpAny _ A.in1 (tryCatch (pyNext (.ref I)) _ >>= _) _ _ { s0 with heap := h, toks := tk0 }
    refine wpAny_bind (wpAny_tryCatch (W.done { s0 with heap := h, toks := tk0 } _ _ ⟨by rw [hsz]; exact hit, hl⟩ fun h' tk hk' => ?_))
    have kI : ∀ b o, b ≠ I → h.get? b = some o → h'.get? b = some o := fun b o hb e => hk' b o (fun z => hb (List.mem_singleton.mp z)) e
    exact wpAny_pure (hR t tn h' tk (fun b o e => kI b o (fun z => by rw [z, hI0] at e; cases e) (kp b o e)) (kI t _ tI hT) hti)
  | succ k ih =>
    intro i h tk0 t tn c hk hi kp hit hl tS tI hT hti hS
    have hlt : i < us.length := by omega
    refine codeAny_builtin F.entry_sum_loop ?_
    rw [Around.under_plainId F.plain_sum_loop _]
    show wpAny _ A.in1 (seqItems? (.ref S) >>= _) _ _ { s0 with heap := h, toks := tk0 }
    refine wpAny_bind (wpAny_seqItems hS rfl ?_)
    show wpAny _ A.in1 (tryCatch (pyNext (.ref I)) _ >>= _) _ _ { s0 with heap := h, toks := tk0 }
    refine wpAny_bind (wpAny_tryCatch (W.item i { s0 with heap := h, toks := tk0 } _ _ (by rw [hsz]; exact hlt) ⟨hit, hl⟩ fun v h' tk hP hst' hk' => ?_))
    have kI : ∀ b o, b ≠ I → h.get? b = some o → h'.get? b = some o := fun b o hb e => hk' b o (fun z => hb (List.mem_singleton.mp z)) e
    obtain ⟨l, n, rfl, hl0⟩ := hu i v (by simpa using hP)
    have hl' := kI l _ (fun z => by rw [z, hI0] at hl0; cases hl0) (kp l _ hl0)
    have hT' := kI t _ tI hT
    have hS' := kI S _ hSI hS
    show wpAny _ A.in1 ((holding [.ref l] (binaryOp .Add (.ref t) (.ref l))).attempt >>= _) _ _ _
    refine wpAny_bind (wpAny_attempt (wpAny_holding (PySem.P.add_list (n := tn) (n2 := n) hT' hl' ?_ (by have z := hz i hlt; simp only [List.size_toArray]; exact z))))
    show wpAny _ A.in1 (updateSeq S (fun _ => #[.ref h'.objs.size]) >>= _) _ _ _
    have hS1 : (h'.push { cls := .type "list", data := .seq ((tot i).toArray ++ (ys i).toArray) }).get? S = _ := Heap.get?_push_of_some _ hS'
    refine wpAny_bind (wpAny_updateSeq hS1 rfl ?_)
    have hS₂ := Heap.get?_update_self (Obj.mapSeq fun _ => #[Value.ref h'.objs.size]) hS1 rfl
    refine wpAny_bind (wpAny_letGo ?_)
    have ne2 : ∀ b, b ≠ S → ∀ o, h'.get? b = some o → (((h'.push { cls := .type "list", data := .seq ((tot i).toArray ++ (ys i).toArray) }).update S (Obj.mapSeq fun _ => #[Value.ref h'.objs.size])).update S (Obj.mapSeq fun _ => #[Value.ref h'.objs.size])).get? b = some o := fun b hb o e =>
      (Heap.get?_update_other _ _ (Ne.symm hb)).trans ((Heap.get?_update_other _ _ (Ne.symm hb)).trans (Heap.get?_push_of_some _ e))
    have ltS : S < h'.objs.size := Heap.lt_size hS'
    have ltI : I < h'.objs.size := by
      obtain ⟨o, e, _⟩ := hst'.1
      exact Heap.lt_size e
    have kp' : ∀ b o, h0.get? b = some o → h'.get? b = some o := fun b o e => kI b o (fun z => by rw [z, hI0] at e; cases e) (kp b o e)
    have sz1 : h0.objs.size ≤ h'.objs.size := Nat.le_trans hSz (Nat.le_of_lt ltS)
    refine wpAny_bind (wpAny_updateSeq hS₂ rfl (wpAny_pure ⟨plainId_quiet F.plain_sum_loop _, ih (i + 1) _ _ h'.objs.size 0 _ (by omega) hlt (fun b o e => ?_) (hst'.1.at fun o e => ne2 I (Ne.symm hSI) o e) (hst'.2.at fun o e => ne2 L (Ne.symm hSL) o e) (Nat.ne_of_gt ltS) (Nat.ne_of_gt ltI) ?_ (.inr sz1) (Heap.get?_update_self _ hS₂ rfl)⟩))
    · exact ne2 b (fun z => by rw [z, hS0] at e; cases e) o (kp' b o e)
    · refine (Heap.get?_update_other _ _ (Nat.ne_of_lt ltS)).trans ((Heap.get?_update_other _ _ (Nat.ne_of_lt ltS)).trans ?_)
      rw [Heap.get?_push_size _ rfl, ht]
      simp
end
section
variable {prog : Program} {w : World} {A : Around} {E : Value → Shared → Prop} {s : Shared} {L B : Addr} {us : List Value} {ys : Nat → List Value} {tot : Nat → List Value} {Q : Value → Shared → Prop}
theorem sum_lists (hh : A.handled = none) (hl : s.heap.IsList L us.toArray) (h0 : tot 0 = []) {bn : Nat} (hb : s.heap.get? B = some { cls := .type "list", data := .seq #[] bn })
    (hu : ∀ i v, us[i]? = some v → ∃ l n, v = .ref l ∧ s.heap.get? l = some { cls := .type "list", data := .seq (ys i).toArray n }) (ht : ∀ i, tot (i + 1) = tot i ++ ys i) (hz : ∀ i, i < us.length → (tot i).length + (ys i).length ≤ sizeLine)
    (hQ : ∀ (p : Addr) (n : Nat) (h' : Heap) (tk : Nat), (∀ b o, s.heap.get? b = some o → h'.get? b = some o) → h'.get? p = some { cls := .type "list", data := .seq (tot us.length).toArray n } → (us.length = 0 ∨ s.heap.objs.size ≤ p) → Q (.ref p) { s with heap := h', toks := tk }) :
    wpAny (model prog w) A (call (.builtin "sum") [.ref L, .ref B]) Q E s := by
  refine call_function_tree F.kind_sum F.plain_sum F.entry_sum (args_two _ _) ?_
  unfold Builtin.«sum»
  simp only [List.length_cons, List.length_nil]
  rw [if_neg (by decide)]
  refine wpAny_bind (wpAny_of_eq (show Builtin.Builtins.bindParams "sum" ["start"] 0 ⟨[.ref B], []⟩ = pure [some (.ref B)] from rfl) ?_)
  refine wpAny_bind (wpAny_pyIter_list hl ?_)
  refine wpAny_bind (wpAny_pure ?_)
  have ty : ∀ (h : Heap) (tk : Nat), (∀ b o, s.heap.get? b = some o → h.get? b = some o) → Shared.TypeIs { s with heap := h, toks := tk } (.ref B) "list" := fun h tk k => ⟨_, k _ _ hb, rfl⟩
  simp only [List.forIn_cons, List.forIn_nil]
  refine wpAny_bind (wpAny_bind (wpAny_bind (wpAny_isInstance (T := "list") (b := false) (ty _ _ fun b o e => Heap.get?_push_of_some _ e) list_str ?_)))
  simp only [Bool.false_eq_true, if_false]
  refine wpAny_pure (wpAny_bind (wpAny_bind (wpAny_isInstance (T := "list") (b := false) (ty _ _ fun b o e => Heap.get?_push_of_some _ e) list_bytes ?_)))
  simp only [Bool.false_eq_true, if_false]
  refine wpAny_pure (wpAny_bind (wpAny_bind (wpAny_isInstance (T := "list") (b := false) (ty _ _ fun b o e => Heap.get?_push_of_some _ e) list_bytearray ?_)))
  simp only [Bool.false_eq_true, if_false]
  refine wpAny_pure (wpAny_pure ?_)
  refine wpAny_bind (wpAny_newObj_type ?_)
  have sp : s.heap.objs.size < (s.heap.push { cls := .type "list_iterator", data := .fields #[.ref L, .int 0 0] }).objs.size := by rw [Heap.size_push]; exact Nat.lt_succ_self _
  have n1 := Nat.ne_of_lt sp
  have spl := Nat.le_of_lt sp
  have lL : L < s.heap.objs.size := by
    obtain ⟨o, e, _⟩ := hl
    exact Heap.lt_size e
  have lB : B < s.heap.objs.size := Heap.lt_size hb
  have fresh : ∀ b, s.heap.objs.size ≤ b → s.heap.get? b = none := fun b hb => Heap.get?_none_of_le hb
  refine wpAny_pure ⟨plainId_quiet F.plain_sum_loop _, loop (s0 := s) (h0 := s.heap) (us := us) (ys := ys) (tot := tot) hh (Nat.ne_of_lt lL) (Ne.symm n1) (Ne.symm (Nat.ne_of_lt (Nat.lt_of_lt_of_le lL spl))) (fresh _ spl) spl (fresh _ (Nat.le_refl _)) hu ht hz (fun p n h' tk k e1 e2 => hQ p n h' tk k e1 e2)
    us.length 0 _ _ B bn 0 rfl (Nat.zero_le _) (fun b o e => Heap.get?_push_of_some _ (Heap.get?_push_of_some _ e)) ?_ ?_ (Nat.ne_of_lt (Nat.lt_of_lt_of_le lB spl)) (Nat.ne_of_lt lB) ?_ (.inl rfl) ?_⟩
  · exact ⟨_, Heap.get?_push_of_some _ (Heap.get?_push_size _ rfl), rfl, rfl⟩
  · exact hl.at fun o e => Heap.get?_push_of_some _ (Heap.get?_push_of_some _ e)
  · rw [h0]
    exact Heap.get?_push_of_some _ (Heap.get?_push_of_some _ hb)
  · exact Heap.get?_push_size _ rfl
end
section
variable {X : Cx}
/-- sum(xss, b), b an empty list: a new list of all that is in xss, which isn't empty -/
def rSumL (K : PySem.W.Frag) : List V → Hp → VK → Prop := fun vs H Q => ∃ (a b : Addr) (ls : List Addr) (yss : List (List V)), vs = [.ref a, .ref b] ∧ SqL K H a (ls.map V.ref) ∧ H b = some (.lst []) ∧ ls.length = yss.length ∧ 0 < ls.length ∧ (∀ (i : Nat) (l : Addr) (ys : List V), ls[i]? = some l → yss[i]? = some ys → H l = some (.lst ys)) ∧ yss.flatten.length ≤ sizeLine ∧
  ∀ p, H p = none → Q (.ref p) (upd H p (.lst yss.flatten))
theorem flat_take {α : Type} (yss : List (List α)) (i : Nat) : (yss.take (i + 1)).flatten = (yss.take i).flatten ++ yss.getD i [] := by
  by_cases h : i < yss.length
  · rw [← List.take_append_getElem h, List.flatten_append]
    simp [List.getD, h]
  · rw [List.take_of_length_le (by omega), List.take_of_length_le (by omega)]
    simp [List.getD, h]
theorem cr_sumL (hc : X.calm = true) : CallR X (.builtin "sum") (rSumL X.K) := by
  intro pins s σ H vs us Q I r h
  obtain ⟨a, b, ls, yss, rfl, hs, hb, hlen, h1, hall, hz, q⟩ := h
  obtain ⟨its, rv, hl, _⟩ := I.list hs
  obtain ⟨_, bits, bn, rb, lb, eb⟩ := I.lstM hb
  have eb0 : bits = [] := List.length_eq_zero_iff.mp (by rw [← lb]; rfl)
  subst eb0
  cases r with
  | cons ra r =>
    cases r with
    | cons rb2 r =>
      cases r
      cases ra
      cases rb2
      have hits : its.length = ls.length := by rw [← rv.length, List.length_map]
      have each : ∀ i : Nat, i < ls.length → ∃ (l : Addr) (vs : List Value) (n : Nat), its[i]? = some (.ref l) ∧ Vals (yss.getD i []) vs ∧ s.heap.get? l = some { cls := .type "list", data := .seq vs.toArray n } := fun i hi => by
        obtain ⟨u, hu, ru⟩ := rv.get (i := i) (x := V.ref ls[i]) (by rw [List.getElem?_map, List.getElem?_eq_getElem hi]; rfl)
        cases ru
        have hy : yss[i]? = some (yss.getD i []) := by
          have hi2 : i < yss.length := by omega
          simp [List.getD, hi2]
        obtain ⟨_, vs, n, rvs, _, e⟩ := I.lstM (hall i ls[i] _ (List.getElem?_eq_getElem hi) hy)
        exact ⟨_, vs, n, hu, rvs, e⟩
      have hch : ∃ ys : Nat → List Value, ∀ i : Nat, i < ls.length → ∃ (l : Addr) (n : Nat), its[i]? = some (.ref l) ∧ Vals (yss.getD i []) (ys i) ∧ s.heap.get? l = some { cls := .type "list", data := .seq (ys i).toArray n } := by
        refine ⟨fun i => if h : i < ls.length then (each i h).choose_spec.choose else [], fun i hi => ?_⟩
        simp only [dif_pos hi]
        obtain ⟨n, e1, e2, e3⟩ := (each i hi).choose_spec.choose_spec
        exact ⟨_, n, e1, e2, e3⟩
      obtain ⟨ys, hys⟩ := hch
      have tv : ∀ i : Nat, i ≤ ls.length → Vals (yss.take i).flatten ((List.range i).flatMap ys) := fun i => by
        induction i with
        | zero => intro _; rw [List.take_zero]; exact .nil
        | succ i ih =>
          intro hi
          obtain ⟨_, _, _, e2, _⟩ := hys i (by omega)
          rw [flat_take, List.range_succ, List.flatMap_append]
          refine (ih (by omega)).append ?_
          simpa using e2
      have tl : ∀ i : Nat, i ≤ ls.length → ((List.range i).flatMap ys).length ≤ yss.flatten.length := fun i hi => by
        rw [← (tv i hi).length]
        have z := congrArg (fun l => l.flatten.length) (List.take_append_drop i yss)
        simp only [List.flatten_append, List.length_append] at z
        omega
      refine sum_lists (I.ok.hd hc) hl.isList (ys := ys) (tot := fun i => (List.range i).flatMap ys) rfl eb (fun i v hv => ?_) (fun i => by rw [List.range_succ, List.flatMap_append]; simp) (fun i hi => ?_) fun p n h' tk k e1 e2 => ?_
      · have hi : i < ls.length := by rw [← hits]; exact (List.getElem?_eq_some_iff.mp hv).1
        obtain ⟨l, n, e1, _, e3⟩ := hys i hi
        rw [hv] at e1
        cases e1
        exact ⟨l, n, rfl, e3⟩
      · have hi2 : i < ls.length := by omega
        have z := tl (i + 1) hi2
        rw [List.range_succ, List.flatMap_append, List.length_append] at z
        simp only [List.flatMap_cons, List.flatMap_nil, List.append_nil] at z
        omega
      · have hp : s.heap.objs.size ≤ p := e2.elim (fun z => absurd z (by omega)) id
        rw [hits] at e1
        have v := tv ls.length (Nat.le_refl _)
        rw [List.take_of_length_le (by omega)] at v
        exact ⟨.ref p, _, I.laid (o := .lst yss.flatten) k hp ⟨hz, _, n, v, e1⟩, rfl, q p (I.hok.fresh hp)⟩
end
end Su

/-! Promises with several outcomes; a tree in a slot told as data; sum of lists; max. -/
namespace Pl
open PySem PySem.Spec PyProof.Rows L2
open Evl (Ex)
section
variable {K : PySem.W.Frag} {S0 H0 S H S' H' : Hp} {σ : L2.St} {ρ ρ' ρ1 ρv : Rho} {g g' g1 g2 gl gr : Gs} {F G : FM} {t u : TS} {te ti td tx tk tv ty : TE} {tA : TA} {c : TT} {d : D} {es ds : List D} {ms : List M} {m m1 m2 mv : M} {a : Addr} {π : List Nat} {Dd : Ends} {i j : Nat} {b : Bool} {r : Rs} {E : XK} {s : Shp}
/-- a def's promise: one of the outcomes P -/
def spQ (K : PySem.W.Frag) (Rel : List D → Gs → (Rs → Gs → Prop) → Prop) : Sp := fun vs H Q _ => ∃ S H0 ds g P, SG K S H0 [] g S H [] ∧ RdL K S vs ds ∧ Rel ds g P ∧ ∀ r g' v S' H', P r g' → Ex S S' → Res K S H0 [] g' S' H' [] v r → Q v H'
def EvQ (K : PySem.W.Frag) (te : TE) (ρ : Rho) (g : Gs) (P : Rs → Gs → Prop) : Prop := ∀ S0 H0 S H σ, SG K S0 H0 ρ g S H σ → ∀ Q : VK, (∀ r g' v S' H', P r g' → Ex S S' → Res K S0 H0 ρ g' S' H' σ v r → Q v H') → te σ H Q
theorem spQ_len {Rel : List D → Gs → (Rs → Gs → Prop) → Prop} {n : Nat} (h : ∀ ds g P, Rel ds g P → ds.length = n) : ∀ vs H Q E, spQ K Rel vs H Q E → vs.length = n := fun vs H Q E ⟨S, H0, ds, g, P, _, rl, rel, _⟩ => rl.length.trans (h ds g P rel)
/-- a call with arguments, some of them new trees -/
theorem ev_callQ {Rel : List D → Gs → (Rs → Gs → Prop) → Prop} {PA : List D → Gs → Prop} {P : Rs → Gs → Prop} (ha : EvXA K tA ρ g PA) (hr : ∀ ds x, PA ds x → ∃ g1 g2 P1, List.Perm x (g1 ++ g2) ∧ Rel ds g1 P1 ∧ ∀ r gq, P1 r gq → ∃ g' e, P r g' ∧ List.Perm (g2 ++ gq) (g' ++ e)) : EvQ K (tCall (spQ K Rel) [] E tA) ρ g P := fun S0 H0 S H σ st0 Q q =>
  ha S0 H0 S H σ st0 _ fun vs ds x S1 H1 e1 pp s1 r1 => by
    obtain ⟨g1, g2, P1, hp, rel, hq⟩ := hr ds x pp
    obtain ⟨fp, rg, st⟩ := s1.perm hp
    have o := rg.own
    rw [gv_app, gm_app] at o
    obtain ⟨fs, f2, e, o1, o2⟩ := o.split gv_len
    subst e
    have n := SG.noS st rg
    have hc : cov (cov H1 (fun _ => none) fs) H1 fs = H1 := funext fun a => by
      by_cases h : a ∈ fs
      · rw [cov_in h]
      · rw [cov_out h, cov_out h]
    refine ⟨S1, cov H1 (fun _ => none) fs, ds, g1, P1, ⟨fs, ⟨o1, (List.nodup_append.mp rg.nd).1, fun a ha => ⟨cov_in ha, n a (List.mem_append_left _ ha)⟩⟩, ?_⟩, by rw [List.append_nil]; exact r1, rel, fun r gq v S2 H2 hP _ z => ?_⟩
    · rw [hc]
      exact (⟨Ext.refl st.ext.sub, ⟨rfl, fun i d h => by simp at h⟩, fun i ds h => by simp at h, fun i j a b p h => by simp at h⟩ : Stt K S1 H1 [] S1 H1 [])
    · obtain ⟨e, y⟩ := SG.ret st o1 o2 rg.nd rg.no z
      obtain ⟨g', ex, hP', hpp⟩ := hq r gq hP
      exact q r g' v S2 H2 hP' (e1.trans e) (Res.forget hpp y)
def FM.tellQ (P : Rs → Gs → Prop) : FM := { nx := fun _ x => ∃ g e, P (.d .non) g ∧ List.Perm x (g ++ e), rt := fun q x => ∃ g e, P q g ∧ List.Perm x (g ++ e) }
theorem TM.finQ {Rel : List D → Gs → (Rs → Gs → Prop) → Prop} {vs : List V} {N : List Str} {H : Hp} {Q : VK} {E : XK} (h : spQ K Rel vs H Q E) (k : ∀ ds g P, Rel ds g P → TM K t (startR N.length ds) g (.tellQ P)) : t { nx := fun _ H' => Q .non H', rt := Q } (L2.start N vs) H := by
  obtain ⟨S, H0, ds, g, P, st, rl, rel, q⟩ := h
  refine k ds g P rel S H0 S H _ _ (st.start rl) ⟨fun ρ x S' H' σ n e s => ?_, fun _ _ _ _ _ z => z.elim, fun _ _ _ _ _ z => z.elim, fun r' x v ρ S' H' σ n s => ?_⟩
  · obtain ⟨g', ex, hP, hp⟩ := n
    obtain ⟨fp, rg, s⟩ := (s.perm hp).forget
    exact q (.d .non) g' .non S' H' hP s.ext.s ⟨⟨fp, rg, s.clear⟩, .non⟩
  · obtain ⟨g', ex, hP, hp⟩ := n
    have s := s.bare
    have fin : ∀ {ρc σc}, SG K S H0 ρc x S' H' σc → Ex S S' ∧ SG K S H0 ρc g' S' H' σc := fun {ρc σc} z => by
      obtain ⟨fp, rg, y⟩ := (z.perm hp).forget
      exact ⟨y.ext.s, fp, rg, y⟩
    cases r' with
    | d d =>
      obtain ⟨e, y⟩ := fin s.1
      exact q _ g' v S' H' hP e ⟨y, s.2⟩
    | o es =>
      obtain ⟨e, y⟩ := fin s
      exact q _ g' v S' H' hP e y
    | t m =>
      obtain ⟨p, ev, s⟩ := s
      have hp2 : List.Perm (x ++ [(p, m)]) ((g' ++ [(p, m)]) ++ ex) := by
        refine (hp.append_right _).trans ?_
        rw [List.append_assoc, List.append_assoc]
        exact (List.perm_append_comm).append_left _
      obtain ⟨fp, rg, y⟩ := (s.perm hp2).forget
      exact q _ g' v S' H' hP y.ext.s ⟨p, ev, fp, rg, y⟩
/-- x = f(..) by one of the outcomes, all of them data -/
theorem TM.asgQ {tg : TG} {P : Rs → Gs → Prop} (h : EvQ K te ρ g P) (hk : ∀ r g', P r g' → ∃ d ps, r = .d d ∧ EvG K tg d ps ∧ F.nx (setR ρ ps) g') : TM K (tAsg te tg) ρ g F := fun S0 H0 S H σ Dd s a =>
  h S0 H0 S H σ s _ fun r g' v S1 H1 hP x1 z => by
    obtain ⟨d, ps, rfl, hg, k⟩ := hk r g' hP
    obtain ⟨s1, r1⟩ := z
    exact hg S1 H1 σ v s1.sub r1 _ fun vs rv => a.nx _ g' S1 H1 _ k x1 (s1.setV rv)
/-- an expression by one of the outcomes, told -/
theorem TM.retQ {P : Rs → Gs → Prop} (h : EvQ K te ρ g P) (hk : ∀ r g', P r g' → F.rt r g') : TM K (tRet te) ρ g F := fun S0 H0 S H σ Dd s a =>
  h S0 H0 S H σ s _ fun r g' v S1 H1 hP x1 z => a.rt r g' v ρ S1 H1 σ (hk r g' hP) z
theorem EvQ.of (h : EvX K te ρ g r g') {P : Rs → Gs → Prop} (hP : P r g') : EvQ K te ρ g P := fun S0 H0 S H σ s Q q => h S0 H0 S H σ s Q fun v S' H' e z => q r g' v S' H' hP e z
theorem SG.tellO {v : V} (z : SG K S0 H0 (ρ ++ [.o es]) g S H (σ ++ [some v])) : ∃ S2, Ex S S2 ∧ SG K S0 H0 ρ g S2 H σ ∧ Rd K S2 v (.lst es) := by
  obtain ⟨fp, rg, st⟩ := z
  have hl : σ.length = ρ.length := by
    have z := st.env.len
    simp only [List.length_append, List.length_cons, List.length_nil] at z
    omega
  have hlast : (ρ ++ [Sl.o es])[ρ.length]? = some (.o es) := by simp
  have hlastσ : (σ ++ [some v])[ρ.length]? = some (some v) := by rw [← hl]; simp
  obtain ⟨S2, e2, st2⟩ := st.freeze hlast
  have n := SG.noS st rg
  have hs : (ρ ++ [Sl.o es]).set ρ.length (.k (.lst es)) = ρ ++ [.k (.lst es)] := by simp
  rw [hs] at st2
  obtain ⟨w, w1, w2⟩ := st2.env.val ρ.length (.lst es) (by simp)
  rw [hlastσ] at w1
  cases w1
  have up : ∀ {j : Nat} {x : Sl}, ρ[j]? = some x → (ρ ++ [Sl.k (.lst es)])[j]? = some x ∧ (σ ++ [some v])[j]? = σ[j]? := fun {j x} h => by
    have hj : j < ρ.length := (List.getElem?_eq_some_iff.mp h).1
    exact ⟨by rw [List.getElem?_append_left hj]; exact h, by rw [List.getElem?_append_left (by omega)]⟩
  refine ⟨S2, e2, ⟨fp, ⟨rg.own.mono e2 fun a _ => rfl, rg.nd, rg.no⟩, st2.ext, ⟨hl, fun j x h => ?_⟩, fun j ds h => ?_, fun j k a b p h1 h2 e1 e2 => ?_⟩, w2⟩
  · obtain ⟨a1, a2⟩ := up h
    rw [← a2]
    exact st2.env.val j x a1
  · obtain ⟨a1, a2⟩ := up h
    rw [← a2]
    exact st2.own j ds a1
  · exact st2.apart j k a b p (up h1).1 (up h2).1 (by rw [(up h1).2]; exact e1) (by rw [(up h2).2]; exact e2)
/-- own lists that are told become data -/
theorem EvQ.tell {P P' : Rs → Gs → Prop} (h : EvQ K te ρ g P) (hP : ∀ r g', P r g' → ∃ es, r = .o es ∧ P' (.d (.lst es)) g') : EvQ K te ρ g P' := fun S0 H0 S H σ s Q q => h S0 H0 S H σ s Q fun r g' v S' H' hp e z => by
  obtain ⟨es, rfl, hp'⟩ := hP r g' hp
  obtain ⟨S2, e2, z2, r2⟩ := SG.tellO z
  exact q _ g' v S2 H' hp' (e.trans e2) ⟨z2, r2⟩
/-- a tree in a slot becomes data -/
theorem TM.tellS {q : Addr} (h : ρ[i]? = some (.k (.adr q))) (hp : List.Perm g (g1 ++ [(q, m)])) (k : TM K t (ρ.set i (.k m.see)) g1 F) : TM K t ρ g F := fun S0 H0 S H σ Dd st ac => by
  obtain ⟨S2, e, z, rd⟩ := SG.tellT (st.perm hp)
  obtain ⟨v, h1, h2⟩ := st.env.val i _ h
  cases h2
  obtain ⟨fp, rg, s⟩ := z
  have s2 := s.set (i := i) rd
  have eσ : σ.set i (some (.ref q)) = σ := by
    obtain ⟨hl, he⟩ := List.getElem?_eq_some_iff.mp h1
    rw [← he]
    exact List.set_getElem_self hl
  rw [eσ] at s2
  exact k S0 H0 S2 H σ Dd ⟨fp, rg, s2⟩ (ac.mono e)
/-! ### sum of lists -/
theorem ok_sumL {X : Cx} (h : X.K = K) (hc : X.calm = true) : CallR X (.builtin "sum") (Su.rSumL K) := by subst h; exact Su.cr_sumL hc
theorem ok_max {X : Cx} (h : X.K = K) (hc : X.calm = true) : CallR X (.builtin "max") (rMax K) := by subst h; exact cr_max hc
theorem ok_sum {X : Cx} (h : X.K = K) (hc : X.calm = true) : CallR X (.builtin "sum") (rSum K) := by subst h; exact cr_sum hc
theorem rc_sum {ns : List Int} : RC K (rSum K) [.lst (ns.map D.int)] (.int ns.sum) := fun S H vs e r Q q => by
  cases r with
  | cons h t =>
    cases t
    cases h with
    | lst ha rl =>
      have z := rl.ints
      subst z
      exact ⟨_, ns, rfl, Evl.sq_of (e _ _ ha), q _ S H (Ext.refl e) (.int _)⟩
theorem rc_max {ns : List Int} {m : Int} (h1 : m ∈ ns) (h2 : ∀ y ∈ ns, y ≤ m) : RC K (rMax K) [.lst (ns.map D.int)] (.int m) := fun S H vs e r Q q => by
  cases r with
  | cons h t =>
    cases t
    cases h with
    | lst ha rl =>
      have z := rl.ints
      subst z
      refine ⟨_, ns, rfl, Evl.sq_of (e _ _ ha), List.length_pos_of_mem h1, fun x hx hy => ?_⟩
      have ex : x = m := Int.le_antisymm (h2 x hx) (hy m h1)
      subst ex
      exact q _ S H (Ext.refl e) (.int _)
theorem rdl_lists : ∀ {xs : List V} {yss : List (List D)}, RdL K S xs (yss.map D.lst) → ∃ (ls : List Addr) (vss : List (List V)), xs = ls.map V.ref ∧ ls.length = yss.length ∧ vss.length = yss.length ∧ (∀ (i : Nat) (l : Addr) (ys : List V), ls[i]? = some l → vss[i]? = some ys → S l = some (.lst ys)) ∧ RdL K S vss.flatten yss.flatten
  | _, [], .nil => ⟨[], [], rfl, rfl, rfl, fun i l ys h => by simp at h, .nil⟩
  | _, ys :: yss, .cons h r => by
    obtain ⟨ls, vss, e1, e2, e3, e4, e5⟩ := rdl_lists r
    cases h with
    | lst ha rl =>
      rename_i a vs
      refine ⟨a :: ls, vs :: vss, by rw [e1]; rfl, by simp [e2], by simp [e3], fun i l ws h1 h2 => ?_, ?_⟩
      · cases i with
        | zero =>
          simp at h1 h2
          rw [← h1, ← h2]
          exact ha
        | succ i => exact e4 i l ws (by simpa using h1) (by simpa using h2)
      · rw [List.flatten_cons, List.flatten_cons]
        exact rl.append e5
theorem rc_sumL {yss : List (List D)} (h1 : 0 < yss.length) (hz : yss.flatten.length ≤ 100000) : RCF K (Su.rSumL K) [.lst (yss.map D.lst), .lst []] yss.flatten := fun S H vs e r Q q => by
  cases r with
  | cons ra r =>
    cases r with
    | cons rb r =>
      cases r
      cases ra with
      | lst ha rl =>
        cases rb with
        | lst hb rn =>
          cases rn
          obtain ⟨ls, vss, e1, e2, e3, e4, e5⟩ := rdl_lists rl
          subst e1
          refine ⟨_, _, ls, vss, rfl, Evl.sq_of (e _ _ ha), e _ _ hb, by omega, by omega, fun i l ys h1 h2 => e _ _ (e4 i l ys h1 h2), Evl.sz_of (by rw [e5.length]; exact hz), fun p hp => ?_⟩
          exact q p _ S _ (Ext.hid e hp) hp (sub_none e hp) upd_same e5
end
end Pl

/-! Blocks that have one joint together at most: lean, and each a part. -/
namespace Fr
open Pl (turnB)
section
variable {n : Nat}
theorem sub_length {l m : List Nat} (hl : l.Nodup) (hm : m.Nodup) (h : ∀ x ∈ l, x ∈ m) : l.length ≤ m.length := by
  have pm : (m.filter fun x => decide (x ∈ l)).Perm l := (List.perm_ext_iff_of_nodup (hm.filter _) hl).mpr fun x => by
    rw [List.mem_filter, decide_eq_true_eq]
    exact ⟨fun z => z.2, fun z => ⟨h x z, z⟩⟩
  rw [← pm.length_eq]
  exact List.length_filter_le _ _
/-- fewer joints, by other names -/
theorem emb_card {k : Nat} {f : Nat → Nat} (inj : ∀ x y, x < k → y < k → f x = f y → x = y) (low : ∀ x, x < k → f x < n) (S : JS) : card k (fun x => S (f x)) ≤ card n S := by
  unfold card
  rw [List.countP_eq_length_filter, List.countP_eq_length_filter, ← List.length_map (f := f)]
  refine sub_length ?_ (List.nodup_range.filter _) fun x hx => ?_
  · exact List.pairwise_map.mpr ((List.Pairwise.filter _ List.nodup_range).imp_of_mem fun {a b} ha hb hne e => hne (inj a b (List.mem_range.mp (List.mem_filter.mp ha).1) (List.mem_range.mp (List.mem_filter.mp hb).1) e))
  · obtain ⟨y, hy, rfl⟩ := List.mem_map.mp hx
    obtain ⟨h1, h2⟩ := List.mem_filter.mp hy
    exact List.mem_filter.mpr ⟨List.mem_range.mpr (low y (List.mem_range.mp h1)), h2⟩
theorem emb_slim {k : Nat} {bs : List Bar} {f : Nat → Nat} (inj : ∀ x y, x < k → y < k → f x = f y → x = y) (low : ∀ x, x < k → f x < n) (ok : Ok k bs) (sl : Slim k bs) : Slim n (bs.map (fb f)) := fun S hS => by
  rw [ins_map]
  have c := emb_card inj low S
  by_cases h : 2 ≤ card k fun x => S (f x)
  · have := sl _ h
    omega
  · rw [ins_small ok (by omega)]
    omega
/-- blocks, each with lean bars that leave it no room; m joints so far -/
inductive Glued (n : Nat) : Nat → List (List Nat) → List (List Bar) → Prop
  | nil : Glued n 0 [] []
  | snoc {m : Nat} {Bs : List (List Nat)} {Ks : List (List Bar)} (h : Glued n m Bs Ks) (m' : Nat) (B : List Nat) (L : List Bar) (nd : B.Nodup) (b2 : 2 ≤ B.length) (len : L.length + 3 = 2 * B.length) (sl : Slim n L)
      (within : ∀ b ∈ L, b.1 ∈ B ∧ b.2 ∈ B ∧ b.1 ≠ b.2) (low : ∀ x ∈ B, x < m') (up : m ≤ m') (le : m' ≤ n) (cov : ∀ x, x < m' → x < m ∨ x ∈ B) (one : ∀ x ∈ B, ∀ y ∈ B, x < m → y < m → x = y) : Glued n m' (Bs ++ [B]) (Ks ++ [L])
theorem card_block {B : List Nat} (nd : B.Nodup) (low : ∀ x ∈ B, x < n) : card n (inL B) = B.length := card_inL nd low
theorem block_tight {B : List Nat} {L : List Bar} (nd : B.Nodup) (b2 : 2 ≤ B.length) (len : L.length + 3 = 2 * B.length) (within : ∀ b ∈ L, b.1 ∈ B ∧ b.2 ∈ B ∧ b.1 ≠ b.2) (low : ∀ x ∈ B, x < n) : Tight n L (inL B) := by
  have c := card_block nd low
  have i : ins L (inL B) = L.length := by
    unfold ins
    rw [List.countP_eq_length]
    intro b hb
    obtain ⟨h1, h2, _⟩ := within b hb
    show (decide (b.1 ∈ B) && decide (b.2 ∈ B)) = true
    rw [decide_eq_true h1, decide_eq_true h2]
    rfl
  exact ⟨by omega, by omega⟩
theorem glued_low {m : Nat} {Bs : List (List Nat)} {Ks : List (List Bar)} (h : Glued n m Bs Ks) : m ≤ n ∧ Bs.length = Ks.length ∧ (∀ B ∈ Bs, ∀ x ∈ B, x < m) ∧ (∀ x, x < m → ∃ B ∈ Bs, x ∈ B) ∧ (∀ L ∈ Ks, ∀ b ∈ L, b.1 < m ∧ b.2 < m ∧ b.1 ≠ b.2) := by
  induction h with
  | nil => exact ⟨Nat.zero_le _, rfl, (fun _ h => nomatch h), (fun _ h => absurd h (Nat.not_lt_zero _)), fun _ h => nomatch h⟩
  | snoc h m' B L nd b2 len sl within low up le cov one ih =>
    obtain ⟨_, i2, i3, i4, i5⟩ := ih
    refine ⟨le, by simp [i2], fun C hC x hx => ?_, fun x hx => ?_, fun C hC b hb => ?_⟩
    · rcases List.mem_append.mp hC with hC | hC
      · have := i3 C hC x hx; omega
      · rw [List.mem_singleton.mp hC] at hx; exact low x hx
    · rcases cov x hx with h | h
      · obtain ⟨C, c1, c2⟩ := i4 x h
        exact ⟨C, List.mem_append_left _ c1, c2⟩
      · exact ⟨B, List.mem_append_right _ (List.mem_singleton.mpr rfl), h⟩
    · rcases List.mem_append.mp hC with hC | hC
      · obtain ⟨a1, a2, a3⟩ := i5 C hC b hb
        exact ⟨by omega, by omega, a3⟩
      · rw [List.mem_singleton.mp hC] at hb
        obtain ⟨a1, a2, a3⟩ := within b hb
        exact ⟨low _ a1, low _ a2, a3⟩
/-- one block more -/
theorem glue {m : Nat} {K L : List Bar} {B : List Nat} (okK : ∀ b ∈ K, b.1 < m ∧ b.2 < m ∧ b.1 ≠ b.2) (hm : m ≤ n) (slK : Slim n K) (slL : Slim n L) (within : ∀ b ∈ L, b.1 ∈ B ∧ b.2 ∈ B ∧ b.1 ≠ b.2) (low : ∀ x ∈ B, x < n)
    (one : ∀ x ∈ B, ∀ y ∈ B, x < m → y < m → x = y) : Slim n (K ++ L) ∧ ∀ S, Tight n (K ++ L) S → (Tight n K S) ∨ (∀ x, x < n → S x = true → x ∈ B) := by
  have okn : Ok n K := fun b hb => by obtain ⟨h1, h2, h3⟩ := okK b hb; exact ⟨by omega, by omega, h3⟩
  have okl : Ok n L := fun b hb => by obtain ⟨h1, h2, h3⟩ := within b hb; exact ⟨low _ h1, low _ h2, h3⟩
  have main : ∀ S : JS, 2 ≤ card n S → ins (K ++ L) S + 3 ≤ 2 * card n S ∧ (ins (K ++ L) S + 3 = 2 * card n S → Tight n K S ∨ ∀ x, x < n → S x = true → x ∈ B) := fun S hS => by
    have e1 : ins K S = ins K (cap S fun x => decide (x < m)) := countP_same fun b hb => by
      obtain ⟨h1, h2, _⟩ := okK b hb
      show (S b.1 && S b.2) = ((S b.1 && decide (b.1 < m)) && (S b.2 && decide (b.2 < m)))
      rw [decide_eq_true h1, decide_eq_true h2, Bool.and_true, Bool.and_true]
    have e2 : ins L S = ins L (cap S (inL B)) := countP_same fun b hb => by
      obtain ⟨h1, h2, _⟩ := within b hb
      show (S b.1 && S b.2) = ((S b.1 && decide (b.1 ∈ B)) && (S b.2 && decide (b.2 ∈ B)))
      rw [decide_eq_true h1, decide_eq_true h2, Bool.and_true, Bool.and_true]
    have cc := card_cup_cap n (cap S fun x => decide (x < m)) (cap S (inL B))
    have c1 : card n (cup (cap S fun x => decide (x < m)) (cap S (inL B))) ≤ card n S := card_mono fun x _ h => by
      have h : ((S x && decide (x < m)) || (S x && decide (x ∈ B))) = true := h
      cases q : S x with
      | true => rfl
      | false => rw [q] at h; cases h
    have c2 : card n (cap (cap S fun x => decide (x < m)) (cap S (inL B))) ≤ 1 := by
      by_cases q : 2 ≤ card n (cap (cap S fun x => decide (x < m)) (cap S (inL B)))
      · exfalso
        obtain ⟨a, b, lab, hb, ha2, hb2⟩ := exists_two q
        have ha2 : ((S a && decide (a < m)) && (S a && decide (a ∈ B))) = true := ha2
        have hb2 : ((S b && decide (b < m)) && (S b && decide (b ∈ B))) = true := hb2
        simp only [Bool.and_eq_true, decide_eq_true_eq] at ha2 hb2
        have := one a ha2.2.2 b hb2.2.2 ha2.1.2 hb2.1.2
        omega
      · omega
    have s1 : card n (cap S fun x => decide (x < m)) ≤ card n S := card_mono fun x _ h => by
      have h : (S x && decide (x < m)) = true := h
      rw [Bool.and_eq_true] at h; exact h.1
    have s2 : card n (cap S (inL B)) ≤ card n S := card_mono fun x _ h => by
      have h : (S x && decide (x ∈ B)) = true := h
      rw [Bool.and_eq_true] at h; exact h.1
    rw [ins_app, e1, e2]
    have bK : 2 ≤ card n (cap S fun x => decide (x < m)) → ins K (cap S fun x => decide (x < m)) + 3 ≤ 2 * card n (cap S fun x => decide (x < m)) := slK _
    have bL : 2 ≤ card n (cap S (inL B)) → ins L (cap S (inL B)) + 3 ≤ 2 * card n (cap S (inL B)) := slL _
    have zK : card n (cap S fun x => decide (x < m)) ≤ 1 → ins K (cap S fun x => decide (x < m)) = 0 := ins_small okn
    have zL : card n (cap S (inL B)) ≤ 1 → ins L (cap S (inL B)) = 0 := ins_small okl
    generalize hkS : card n (cap S fun x => decide (x < m)) = kS at *
    generalize hlS : card n (cap S (inL B)) = lS at *
    generalize hiK : ins K (cap S fun x => decide (x < m)) = iK at *
    generalize hiL : ins L (cap S (inL B)) = iL at *
    refine ⟨?_, fun e => ?_⟩
    · by_cases q1 : 2 ≤ kS <;> by_cases q2 : 2 ≤ lS
      · have := bK q1; have := bL q2; omega
      · have := bK q1; have := zL (by omega); omega
      · have := bL q2; have := zK (by omega); omega
      · have := zK (by omega); have := zL (by omega); omega
    · by_cases q1 : 2 ≤ kS
      · by_cases q2 : 2 ≤ lS
        · have := bK q1; have := bL q2; omega
        · left
          have := zL (by omega)
          have := bK q1
          exact ⟨hS, by rw [e1]; omega⟩
      · right
        intro x hx sx
        have := zK (by omega)
        have h2 : 2 ≤ lS := by
          by_cases q2 : 2 ≤ lS
          · exact q2
          · have := zL (by omega); omega
        have := bL h2
        -- all of S is in B
        by_cases q : x ∈ B
        · exact q
        · exfalso
          have lt : card n (cap S (inL B)) < card n S := by
            have w := card_wo (n := n) (j := x) (S := S) hx sx
            have le2 : card n (cap S (inL B)) ≤ card n (wo S x) := card_mono fun y _ h => by
              have h : (S y && decide (y ∈ B)) = true := h
              rw [Bool.and_eq_true, decide_eq_true_eq] at h
              show (S y && !(y == x)) = true
              have ne : (y == x) = false := by
                cases z : y == x with
                | false => rfl
                | true => rw [beq_iff_eq] at z; subst z; exact (q h.2).elim
              rw [h.1, ne]
              rfl
            omega
          omega
  exact ⟨fun S hS => (main S hS).1, fun S ⟨t1, t2⟩ => (main S t1).2 t2⟩
theorem glued_flat {m : Nat} {Bs : List (List Nat)} {Ks : List (List Bar)} (h : Glued n m Bs Ks) : Ok n Ks.flatten ∧ Slim n Ks.flatten ∧ ∀ S, Tight n Ks.flatten S → ∃ B ∈ Bs, ∀ x, x < n → S x = true → x ∈ B := by
  induction h with
  | nil => exact ⟨fun _ h => (nomatch h), Pl.slim_nil n, fun S ⟨t1, t2⟩ => by have z : ins [] S = 0 := rfl; simp only [List.flatten_nil] at t2; omega⟩
  | snoc h m' B L nd b2 len sl within low up le cov one ih =>
    rename_i m0 Bs Ks
    obtain ⟨i1, i2, i3⟩ := ih
    obtain ⟨g1, _, g3, _, g5⟩ := glued_low h
    have e : ∀ Ks : List (List Bar), (Ks ++ [L]).flatten = Ks.flatten ++ L := fun Ks => by simp
    rw [e]
    have okK : ∀ b ∈ Ks.flatten, b.1 < m0 ∧ b.2 < m0 ∧ b.1 ≠ b.2 := fun b hb => by
      obtain ⟨C, c1, c2⟩ := List.mem_flatten.mp hb
      exact g5 C c1 b c2
    obtain ⟨k1, k2⟩ := glue okK g1 i2 sl within (fun x hx => by have := low x hx; omega) one
    refine ⟨i1.app fun b hb => ?_, k1, fun S tS => ?_⟩
    · obtain ⟨a1, a2, a3⟩ := within b hb
      have := low _ a1
      have := low _ a2
      exact ⟨by omega, by omega, a3⟩
    · rcases k2 S tS with q | q
      · obtain ⟨C, c1, c2⟩ := i3 S q
        exact ⟨C, List.mem_append_left _ c1, c2⟩
      · exact ⟨B, List.mem_append_right _ (List.mem_singleton.mpr rfl), q⟩
/-- each block with its bars -/
theorem glued_at {m : Nat} {Bs : List (List Nat)} {Ks : List (List Bar)} (h : Glued n m Bs Ks) : ∀ (i : Nat) (B : List Nat) (L : List Bar), Bs[i]? = some B → Ks[i]? = some L → B.Nodup ∧ 2 ≤ B.length ∧ (∀ x ∈ B, x < n) ∧ (∀ b ∈ L, b.1 ∈ B ∧ b.2 ∈ B ∧ b.1 ≠ b.2) ∧ L.length + 3 = 2 * B.length ∧ Slim n L := by
  induction h with
  | nil => intro i B L h1; simp at h1
  | snoc h m' B L nd b2 len sl within low up le cov one ih =>
    rename_i m0 Bs Ks
    intro i C M h1 h2
    obtain ⟨_, g2, _⟩ := glued_low h
    by_cases hi : i < Bs.length
    · rw [List.getElem?_append_left hi] at h1
      rw [List.getElem?_append_left (by omega)] at h2
      exact ih i C M h1 h2
    · have hi2 : i = Bs.length := by
        have z := (List.getElem?_eq_some_iff.mp h1).1
        simp at z
        omega
      subst hi2
      rw [List.getElem?_append_right (Nat.le_refl _), Nat.sub_self] at h1
      rw [List.getElem?_append_right (by omega), g2, Nat.sub_self] at h2
      simp at h1 h2
      subst h1
      subst h2
      exact ⟨nd, b2, fun x hx => by have := low x hx; omega, within, len, sl⟩
/-- two blocks have one joint together at most -/
theorem glued_two {m : Nat} {Bs : List (List Nat)} {Ks : List (List Bar)} (h : Glued n m Bs Ks) : ∀ (i j : Nat) (B C : List Nat), Bs[i]? = some B → Bs[j]? = some C → i ≠ j → ∀ x ∈ B, ∀ y ∈ B, x ∈ C → y ∈ C → x = y := by
  induction h with
  | nil => intro i j B C h1; simp at h1
  | snoc h m' B0 L nd b2 len sl within low up le cov one ih =>
    rename_i m0 Bs Ks
    intro i j B C h1 h2 ne x hx y hy hx2 hy2
    obtain ⟨_, _, g3, _, _⟩ := glued_low h
    have dec : ∀ {k : Nat} {D : List Nat}, (Bs ++ [B0])[k]? = some D → (k < Bs.length ∧ Bs[k]? = some D) ∨ (k = Bs.length ∧ D = B0) := fun {k D} hk => by
      by_cases q : k < Bs.length
      · rw [List.getElem?_append_left q] at hk
        exact .inl ⟨q, hk⟩
      · have z := (List.getElem?_eq_some_iff.mp hk).1
        simp at z
        have : k = Bs.length := by omega
        subst this
        simp at hk
        exact .inr ⟨rfl, hk.symm⟩
    rcases dec h1 with ⟨q1, k1⟩ | ⟨q1, rfl⟩
    · rcases dec h2 with ⟨q2, k2⟩ | ⟨q2, rfl⟩
      · exact ih i j B C k1 k2 ne x hx y hy hx2 hy2
      · have hm := List.mem_of_getElem? k1
        exact one x hx2 y hy2 (g3 B hm x hx) (g3 B hm y hy)
    · rcases dec h2 with ⟨q2, k2⟩ | ⟨q2, rfl⟩
      · have hm := List.mem_of_getElem? k2
        exact one x hx y hy (g3 C hm x hx2) (g3 C hm y hy2)
      · exact absurd (q1.trans q2.symm) ne
end
end Fr

/-! Glued blocks with some bars more within blocks: what is held, the worth, the parts, the bars that are too many. -/
namespace Fr
open Pl (manyL partsL partL manyL_mem sortN)
/-- blocks, their lean bars, all their bars -/
structure Grown (n : Nat) (Bs : List (List Nat)) (Ks Ns : List (List Bar)) : Prop where
  gl : Glued n n Bs Ks
  len : Ns.length = Ks.length
  more : ∀ (i : Nat) (B : List Nat) (L N : List Bar), Bs[i]? = some B → Ks[i]? = some L → Ns[i]? = some N → ∃ E, N = L ++ E ∧ ∀ b ∈ E, b.1 ∈ B ∧ b.2 ∈ B ∧ b.1 ≠ b.2
section
variable {n : Nat} {Bs : List (List Nat)} {Ks Ns : List (List Bar)}
theorem get3 (gr : Grown n Bs Ks Ns) {i : Nat} (hi : i < Ns.length) : ∃ B L N E, Bs[i]? = some B ∧ Ks[i]? = some L ∧ Ns[i]? = some N ∧ N = L ++ E ∧ ∀ b ∈ E, b.1 ∈ B ∧ b.2 ∈ B ∧ b.1 ≠ b.2 := by
  obtain ⟨_, g2, _⟩ := glued_low gr.gl
  have h1 : i < Ks.length := by have := gr.len; omega
  have h2 : i < Bs.length := by omega
  obtain ⟨E, e1, e2⟩ := gr.more i _ _ _ (List.getElem?_eq_getElem h2) (List.getElem?_eq_getElem h1) (List.getElem?_eq_getElem hi)
  exact ⟨_, _, _, E, List.getElem?_eq_getElem h2, List.getElem?_eq_getElem h1, List.getElem?_eq_getElem hi, e1, e2⟩
theorem flat_mem {α : Type} {xs : List (List α)} {x : α} : x ∈ xs.flatten ↔ ∃ (i : Nat) (l : List α), xs[i]? = some l ∧ x ∈ l := by
  rw [List.mem_flatten]
  constructor
  · rintro ⟨l, h1, h2⟩
    obtain ⟨i, hi⟩ := List.getElem?_of_mem h1
    exact ⟨i, l, hi, h2⟩
  · rintro ⟨i, l, h1, h2⟩
    exact ⟨l, List.mem_of_getElem? h1, h2⟩
/-- a bar of all lies within its block -/
theorem grown_in (gr : Grown n Bs Ks Ns) {i : Nat} {N : List Bar} {b : Bar} (hN : Ns[i]? = some N) (hb : b ∈ N) : ∃ B, Bs[i]? = some B ∧ b.1 ∈ B ∧ b.2 ∈ B ∧ b.1 ≠ b.2 := by
  obtain ⟨B, L, N', E, h1, h2, h3, e, hE⟩ := get3 gr (List.getElem?_eq_some_iff.mp hN).1
  rw [hN] at h3
  cases h3
  obtain ⟨_, _, _, w, _, _⟩ := glued_at gr.gl i B L h1 h2
  rw [e] at hb
  exact ⟨B, h1, (List.mem_append.mp hb).elim (w b) (hE b)⟩
theorem grown_ok (gr : Grown n Bs Ks Ns) : Ok n Ns.flatten := fun b hb => by
  obtain ⟨i, N, h1, h2⟩ := flat_mem.mp hb
  obtain ⟨B, hB, a1, a2, a3⟩ := grown_in gr h1 h2
  obtain ⟨_, _, g3, _⟩ := glued_low gr.gl
  exact ⟨g3 B (List.mem_of_getElem? hB) _ a1, g3 B (List.mem_of_getElem? hB) _ a2, a3⟩
theorem sub_flat {α : Type} {xs : List (List α)} {i : Nat} {l : List α} (h : xs[i]? = some l) : l.Sublist xs.flatten := by
  induction xs generalizing i with
  | nil => simp at h
  | cons y ys ih =>
    rw [List.flatten_cons]
    cases i with
    | zero =>
      simp at h
      rw [h]
      exact List.sublist_append_left _ _
    | succ i => exact (ih (by simpa using h)).trans (List.sublist_append_right _ _)
theorem block_spn (gr : Grown n Bs Ks Ns) {i : Nat} {B : List Nat} {L J : List Bar} (hB : Bs[i]? = some B) (hL : Ks[i]? = some L) (sub : L.Sublist J) (slJ : Slim n J) {a b : Nat} (ha : a ∈ B) (hb : b ∈ B) : Spn n J a b := by
  obtain ⟨nd, b2, low, w, len, _⟩ := glued_at gr.gl i B L hB hL
  have t := block_tight nd b2 len w low
  exact ⟨inL B, t.mono (ins_sub sub _) slJ, decide_eq_true ha, decide_eq_true hb⟩
theorem grown_spn (gr : Grown n Bs Ks Ns) {a b : Nat} (ha : a < n) (hb : b < n) : Spn n Ks.flatten a b ↔ ∃ B ∈ Bs, a ∈ B ∧ b ∈ B := by
  obtain ⟨_, sl, ti⟩ := glued_flat gr.gl
  constructor
  · rintro ⟨S, tS, sa, sb⟩
    obtain ⟨B, hB, h⟩ := ti S tS
    exact ⟨B, hB, h a ha sa, h b hb sb⟩
  · rintro ⟨B, hB, h1, h2⟩
    obtain ⟨i, hi⟩ := List.getElem?_of_mem hB
    obtain ⟨_, g2, _⟩ := glued_low gr.gl
    have hk : i < Ks.length := by have := (List.getElem?_eq_some_iff.mp hi).1; omega
    exact block_spn gr hi (List.getElem?_eq_getElem hk) (sub_flat (List.getElem?_eq_getElem hk)) sl h1 h2
theorem lean_in (gr : Grown n Bs Ks Ns) : ∀ x ∈ Ks.flatten, x ∈ Ns.flatten := fun x hx => by
  obtain ⟨i, L, h1, h2⟩ := flat_mem.mp hx
  have hi : i < Ns.length := by have := (List.getElem?_eq_some_iff.mp h1).1; have := gr.len; omega
  obtain ⟨B, L', N, E, k1, k2, k3, e, _⟩ := get3 gr hi
  rw [h1] at k2
  cases k2
  exact flat_mem.mpr ⟨i, N, k3, by rw [e]; exact List.mem_append_left _ h2⟩
theorem held_in (gr : Grown n Bs Ks Ns) : ∀ x ∈ Ns.flatten, Hld n Ks.flatten x.1 x.2 := fun x hx => by
  obtain ⟨_, sl, _⟩ := glued_flat gr.gl
  unfold Hld
  rw [basis_all sl]
  obtain ⟨i, N, h1, h2⟩ := flat_mem.mp hx
  obtain ⟨B, hB, a1, a2, _⟩ := grown_in gr h1 h2
  have o := grown_ok gr x hx
  exact (grown_spn gr o.1 o.2.1).mpr ⟨B, List.mem_of_getElem? hB, a1, a2⟩
theorem grown_hld (gr : Grown n Bs Ks Ns) {a b : Nat} (ha : a < n) (hb : b < n) (ne : a ≠ b) : Hld n Ns.flatten a b ↔ ∃ B ∈ Bs, a ∈ B ∧ b ∈ B := by
  obtain ⟨okK, sl, _⟩ := glued_flat gr.gl
  have okN := grown_ok gr
  rw [← grown_spn gr ha hb]
  have e : Hld n Ks.flatten a b ↔ Spn n Ks.flatten a b := by unfold Hld; rw [basis_all sl]
  rw [← e]
  exact ⟨hld_le okN okK (held_in gr) ha hb ne, hld_le okK okN (fun x hx => hld_bar okN (lean_in gr x hx)) ha hb ne⟩
theorem grown_rk (gr : Grown n Bs Ks Ns) : rk n Ns.flatten = Ks.flatten.length := by
  obtain ⟨okK, sl, _⟩ := glued_flat gr.gl
  have okN := grown_ok gr
  have e : rk n Ks.flatten = Ks.flatten.length := rk_slim.mpr sl
  rw [← e]
  exact Nat.le_antisymm (rk_sub okN okK (held_in gr)) (rk_sub okK okN fun x hx => hld_bar okN (lean_in gr x hx))
theorem grown_sum {m : Nat} (h : Glued n m Bs Ks) : (Ks.flatten.length : Int) = (Bs.map fun B => 2 * (B.length : Int) - 3).sum := by
  induction h with
  | nil => rfl
  | snoc h m' B L nd b2 len sl within low up le cov one ih =>
    rw [List.map_append, List.sum_append, ← ih]
    simp only [List.flatten_append, List.length_append, List.map_cons, List.map_nil, List.sum_cons, List.sum_nil, List.flatten_cons, List.flatten_nil, List.length_nil]
    omega
/-- the parts are the blocks -/
theorem grown_part (gr : Grown n Bs Ks Ns) {B : List Nat} (hB : B ∈ Bs) {a b : Nat} (ha : a ∈ B) (hb : b ∈ B) (ne : a ≠ b) : partL n (pickB n [] Ns.flatten) (a, b) = sortN B := by
  have okN := grown_ok gr
  have okk := basis_ok okN
  have slk := basis_slim n Ns.flatten
  obtain ⟨_, g2, g3, _⟩ := glued_low gr.gl
  have hld := fun {x y : Nat} (hx : x < n) (hy : y < n) (nxy : x ≠ y) => grown_hld gr hx hy nxy
  unfold Hld at hld
  have han := g3 B hB a ha
  have hbn := g3 B hB b hb
  have hab := (hld han hbn ne).mpr ⟨B, hB, ha, hb⟩
  obtain ⟨tp, _⟩ := part_all okk slk han hbn ne hab
  obtain ⟨i, hi⟩ := List.getElem?_of_mem hB
  have hk : i < Ks.length := by have := (List.getElem?_eq_some_iff.mp hi).1; omega
  obtain ⟨nd, _⟩ := glued_at gr.gl i B _ hi (List.getElem?_eq_getElem hk)
  -- the part, tight for the basis, is tight for the lean bars: within one block
  obtain ⟨okK, slK, ti⟩ := glued_flat gr.gl
  have tK : ∃ C ∈ Bs, ∀ x, x < n → part n (pickB n [] Ns.flatten) a b x = true → x ∈ C := by
    have hsp : ∀ {x y : Nat}, x < n → y < n → x ≠ y → (Spn n (pickB n [] Ns.flatten) x y ↔ Spn n Ks.flatten x y) := fun {x y} hx hy nxy => by
      rw [grown_spn gr hx hy]
      exact hld hx hy nxy
    obtain ⟨t2, _⟩ := part_all okK slK han hbn ne ((hsp han hbn ne).mp hab)
    obtain ⟨C, hC, h⟩ := ti _ t2
    refine ⟨C, hC, fun x hx px => h x hx ?_⟩
    rw [← part_congr (fun x y hx hy nxy => hsp hx hy nxy) han hbn hx]
    exact px
  obtain ⟨C, hC, hin⟩ := tK
  have eC : C = B := by
    obtain ⟨j, hj⟩ := List.getElem?_of_mem hC
    by_cases e : i = j
    · subst e
      rw [hi] at hj
      exact (Option.some.inj hj).symm
    · exact absurd (glued_two gr.gl i j B C hi hj e a ha b hb (hin a han part_left) (hin b hbn part_right)) ne
  subst eC
  refine (Pl.sortN_eq nd (Pl.partL_rise _ _ _) fun x => ?_).symm
  rw [Pl.partL_mem]
  constructor
  · intro hx
    have hxn := g3 C hC x hx
    refine ⟨hxn, part_iff.mpr ?_⟩
    by_cases e1 : x = a
    · exact .inl e1
    · by_cases e2 : x = b
      · exact .inr (.inl e2)
      · exact .inr (.inr ⟨(hld han hxn (Ne.symm e1)).mpr ⟨C, hC, ha, hx⟩, (hld hbn hxn (Ne.symm e2)).mpr ⟨C, hC, hb, hx⟩⟩)
  · rintro ⟨hxn, px⟩
    exact hin x hxn px
theorem block_pair (gr : Grown n Bs Ks Ns) {B : List Nat} (hB : B ∈ Bs) : ∃ a b, a ∈ B ∧ b ∈ B ∧ a < b ∧ b < n ∧ B.Nodup ∧ ∀ x ∈ B, x < n := by
  obtain ⟨i, hi⟩ := List.getElem?_of_mem hB
  obtain ⟨_, g2, _⟩ := glued_low gr.gl
  have hk : i < Ks.length := by have := (List.getElem?_eq_some_iff.mp hi).1; omega
  obtain ⟨nd, b2, low, _⟩ := glued_at gr.gl i B _ hi (List.getElem?_eq_getElem hk)
  obtain ⟨a, b, lab, hbn, ha, hb⟩ := exists_two (n := n) (S := inL B) (by rw [card_block nd low]; exact b2)
  exact ⟨a, b, of_decide_eq_true ha, of_decide_eq_true hb, lab, hbn, nd, low⟩
theorem sortN_inj {n : Nat} {B C : List Nat} (h : sortN B = sortN C) : ∀ x, x ∈ B ↔ x ∈ C := fun x => by
  rw [← (Pl.sortN_perm B).mem_iff, h, (Pl.sortN_perm C).mem_iff]
theorem grown_parts (gr : Grown n Bs Ks Ns) : (partsL n Ns.flatten).Perm (Bs.map sortN) := by
  have okN := grown_ok gr
  have nd2 : (Bs.map sortN).Nodup := by
    refine List.pairwise_iff_getElem.mpr fun i j hi hj hij e => ?_
    rw [List.length_map] at hi hj
    rw [List.getElem_map, List.getElem_map] at e
    obtain ⟨a, b, ha, hb, lab, _⟩ := block_pair gr (List.getElem_mem hi)
    have same := sortN_inj (n := n) e
    have := glued_two gr.gl i j _ _ (List.getElem?_eq_getElem hi) (List.getElem?_eq_getElem hj) (by omega) a ha b hb ((same a).mp ha) ((same b).mp hb)
    omega
  refine (List.perm_ext_iff_of_nodup (Pl.parts_nodup n _) nd2).mpr fun l => ?_
  have pm : l ∈ partsL n Ns.flatten ↔ ∃ a b, a < b ∧ b < n ∧ Spn n (pickB n [] Ns.flatten) a b ∧ l = partL n (pickB n [] Ns.flatten) (a, b) := Pl.partsL_mem0 okN
  rw [pm, List.mem_map]
  constructor
  · rintro ⟨a, b, h1, h2, h3, rfl⟩
    obtain ⟨B, hB, ha, hb⟩ := (grown_hld gr (show a < n by omega) h2 (by omega)).mp h3
    exact ⟨B, hB, (grown_part gr hB ha hb (by omega)).symm⟩
  · rintro ⟨B, hB, rfl⟩
    obtain ⟨a, b, ha, hb, lab, hbn, _⟩ := block_pair gr hB
    exact ⟨a, b, lab, hbn, (grown_hld gr (show a < n by omega) hbn (by omega)).mpr ⟨B, hB, ha, hb⟩, (grown_part gr hB ha hb (by omega)).symm⟩
theorem grown_slim (gr : Grown n Bs Ks Ns) : Slim n Ns.flatten ↔ Ns.flatten.length = Ks.flatten.length := by
  rw [← rk_slim, grown_rk gr]
  exact eq_comm
theorem flat_split {α : Type} : ∀ {xs : List (List α)} {j : Nat}, j < xs.flatten.length → ∃ (i : Nat) (A C : List α) (b : α), xs[i]? = some (A ++ b :: C) ∧ xs.flatten[j]? = some b ∧ xs.flatten.eraseIdx j = (xs.set i (A ++ C)).flatten
  | [], j, h => absurd h (Nat.not_lt_zero _)
  | y :: ys, j, h => by
    rw [List.flatten_cons] at h ⊢
    by_cases q : j < y.length
    · refine ⟨0, y.take j, y.drop (j + 1), y[j], ?_, ?_, ?_⟩
      · show some y = _
        rw [← List.drop_eq_getElem_cons q, List.take_append_drop]
      · rw [List.getElem?_append_left q, List.getElem?_eq_getElem q]
      · rw [List.eraseIdx_append_of_lt_length q, List.eraseIdx_eq_take_drop_succ]
        rfl
    · rw [List.length_append] at h
      obtain ⟨i, A, C, b, e1, e2, e3⟩ := flat_split (xs := ys) (j := j - y.length) (by omega)
      refine ⟨i + 1, A, C, b, e1, ?_, ?_⟩
      · rw [List.getElem?_append_right (by omega)]
        exact e2
      · rw [List.eraseIdx_append_of_length_le (by omega), e3]
        rfl
/-- a bar that is too many is of a block with bars more -/
theorem grown_many (gr : Grown n Bs Ks Ns) {j : Nat} (h : j ∈ manyL n Ns.flatten) : ∃ (i : Nat) (B : List Nat), Bs[i]? = some B ∧ (barAt Ns.flatten j).1 ∈ B ∧ (barAt Ns.flatten j).2 ∈ B ∧ Ns[i]? ≠ Ks[i]? := by
  obtain ⟨hj, hh⟩ := manyL_mem.mp h
  have okN := grown_ok gr
  obtain ⟨okK, slK, _⟩ := glued_flat gr.gl
  obtain ⟨i, A, C, b, e1, e2, e3⟩ := flat_split hj
  have eb : barAt Ns.flatten j = b := by
    have z := barAt_get hj
    rw [z]
    exact (List.getElem?_eq_some_iff.mp e2).2
  obtain ⟨B, hB, a1, a2, _⟩ := grown_in gr e1 (List.mem_append_right _ List.mem_cons_self : b ∈ A ++ b :: C)
  refine ⟨i, B, hB, by rw [eb]; exact a1, by rw [eb]; exact a2, fun eq => ?_⟩
  have hKi : Ks[i]? = some (A ++ b :: C) := by rw [← eq]; exact e1
  have hik : i < Ks.length := (List.getElem?_eq_some_iff.mp hKi).1
  -- the lean ones without that bar hold all that are left
  have lenK : ((Ks.set i (A ++ C)).flatten).length + 1 = Ks.flatten.length := by
    have z : ∀ (xs : List (List Bar)) (i : Nat), xs[i]? = some (A ++ b :: C) → ((xs.set i (A ++ C)).flatten).length + 1 = xs.flatten.length := fun xs => by
      induction xs with
      | nil => intro i h; simp at h
      | cons y ys ih =>
        intro i h
        cases i with
        | zero =>
          simp at h
          subst h
          simp
          omega
        | succ i =>
          have z := ih i (by simpa using h)
          simp only [List.set_cons_succ, List.flatten_cons, List.length_append] at z ⊢
          omega
    exact z Ks i hKi
  have subK : (Ks.set i (A ++ C)).flatten.Sublist Ks.flatten := by
    have z : ∀ (xs : List (List Bar)) (i : Nat), xs[i]? = some (A ++ b :: C) → (xs.set i (A ++ C)).flatten.Sublist xs.flatten := fun xs => by
      induction xs with
      | nil => intro i h; simp at h
      | cons y ys ih =>
        intro i h
        cases i with
        | zero =>
          simp at h
          subst h
          simp only [List.set_cons_zero, List.flatten_cons]
          exact (List.Sublist.append (List.Sublist.refl _) (List.sublist_cons_self _ _)).append (List.Sublist.refl _)
        | succ i =>
          simp only [List.set_cons_succ, List.flatten_cons]
          exact (List.Sublist.refl _).append (ih i (by simpa using h))
    exact z Ks i hKi
  have slW := slK.sub subK
  have okW := okK.sub subK
  have allW : ∀ x ∈ Ns.flatten.eraseIdx j, Hld n (Ks.set i (A ++ C)).flatten x.1 x.2 := fun x hx => by
    rw [e3] at hx
    obtain ⟨i', N, h1, h2⟩ := flat_mem.mp hx
    by_cases ei : i = i'
    · subst ei
      have hi2 : i < Ns.length := (List.getElem?_eq_some_iff.mp e1).1
      rw [List.getElem?_set_self hi2] at h1
      cases h1
      exact hld_bar okW (flat_mem.mpr ⟨i, A ++ C, List.getElem?_set_self hik, h2⟩)
    · rw [List.getElem?_set_ne ei] at h1
      have hi' : i' < Ns.length := (List.getElem?_eq_some_iff.mp h1).1
      obtain ⟨B', L', N', E', k1, k2, k3, _, _⟩ := get3 gr hi'
      obtain ⟨B2, hB2, c1, c2, _⟩ := grown_in gr h1 h2
      rw [k1] at hB2
      cases hB2
      unfold Hld
      rw [basis_all slW]
      exact block_spn gr k1 k2 (sub_flat (i := i') (by rw [List.getElem?_set_ne ei]; exact k2)) slW c1 c2
  have r1 := rk_sub (okN.sub (List.eraseIdx_sublist _ _)) okW allW
  have r2 : rk n (Ks.set i (A ++ C)).flatten ≤ ((Ks.set i (A ++ C)).flatten).length := rk_le n _
  have r3 := (rk_less okN hj).1
  rw [← barAt_get hj] at r3
  have r4 := (r3 hh).1
  have r5 := grown_rk gr
  omega
end
end Fr

/-! Other names and another order, as one; blocks joint by joint. Trees put into lists. -/
namespace Pl
open PySem PySem.Spec PyProof.Rows L2
open Evl (Ex)
theorem named_other {n : Nat} (nb : List Fr.Bar) (o c : Int) : ∃ g t, Fr.Turn n (fun x => (orderN o n).getD x 0) g ∧ ((List.range nb.length).map (rotI c nb.length)).Perm (List.range nb.length) ∧
    namedN nb (orderN o n) c = otherL (fun x => (orderN o n).getD x 0) t nb ((List.range nb.length).map (rotI c nb.length)) := by
  obtain ⟨g, tr⟩ := Fr.turn_of (n := n) (f := fun x => (orderN o n).getD x 0) (fun x y hx hy e => orderN_inj hx hy e) (fun x hx => orderN_low hx)
  have pm := range_perm (n := nb.length) (f := rotI c nb.length) (fun x y hx hy e => rotI_inj hx hy e) fun x hx => rotI_lt hx
  refine ⟨g, fun i => decide (c / ((((List.range nb.length).map (rotI c nb.length)).idxOf i : Nat) + 2 : Int) % 2 = 1), tr, pm, ?_⟩
  unfold namedN otherL
  rw [List.map_map]
  refine List.map_congr_left fun k hk => ?_
  have hk := List.mem_range.mp hk
  have hkl : k < ((List.range nb.length).map (rotI c nb.length)).length := by simp [hk]
  have ek : ((List.range nb.length).map (rotI c nb.length))[k] = rotI c nb.length k := by simp
  obtain ⟨h1, h2⟩ := idx_get ((List.range nb.length).map (rotI c nb.length)) (i := rotI c nb.length k) (List.mem_map.mpr ⟨k, List.mem_range.mpr hk, rfl⟩)
  have nd : ((List.range nb.length).map (rotI c nb.length)).Nodup := pm.nodup_iff.mpr List.nodup_range
  have ei : ((List.range nb.length).map (rotI c nb.length)).idxOf (rotI c nb.length k) = k := by
    rcases Nat.lt_trichotomy (((List.range nb.length).map (rotI c nb.length)).idxOf (rotI c nb.length k)) k with l | l | l
    · exact absurd (h2.trans ek.symm) (List.pairwise_iff_getElem.mp nd _ _ h1 hkl l)
    · exact l
    · exact absurd (ek.trans h2.symm) (List.pairwise_iff_getElem.mp nd _ _ hkl h1 l)
  show nameN nb (orderN o n) c k = turnB (decide (c / ((((List.range nb.length).map (rotI c nb.length)).idxOf (rotI c nb.length k) : Nat) + 2 : Int) % 2 = 1)) _
  rw [ei]
  rfl
section
variable {K : PySem.W.Frag} {S0 H0 S H S' H' : Hp} {σ : L2.St} {ρ : Rho} {g g2 gl gr : Gs} {F : FM} {tx te : TE} {ms : List M} {mv : M} {a : Addr} {i : Nat}
theorem TM.freeze {t : TS} {ds : List D} (h : ρ[i]? = some (.o ds)) (k : TM K t (ρ.set i (.k (.lst ds))) g F) : TM K t ρ g F := fun S0 H0 S H σ Dd st ac => by
  obtain ⟨fp, rg, s⟩ := st
  obtain ⟨S', e, s'⟩ := s.freeze h
  exact k S0 H0 S' H σ Dd ⟨fp, ⟨rg.own.mono e fun _ _ => rfl, rg.nd, rg.no⟩, s'⟩ (ac.mono e)
/-- xs.append(new list), xs a root -/
theorem TM.appendT (h : ρ[i]? = some (.k (.adr a))) (hm : (a, .n .lst ms) ∈ g) (hx : EvX K tx ρ g (.t mv) g2) (hg : g2 = gl ++ (a, .n .lst ms) :: gr) (hl : ms.length < 100000)
    (k : ∀ p0, F.nx ρ (gl ++ (a, .n .lst (ms ++ [.d (.adr p0)])) :: (gr ++ [(p0, mv)]))) : TM K (tDrop (tBM K "list" rAppend (tVar i) (tCons tx tNil))) ρ g F := fun S0 H0 S H σ Dd st ac => by
  obtain ⟨v, h1, h2⟩ := st.env.val i _ h
  cases h2
  obtain ⟨p, o, vs, fq, e1, e2, e3, e4⟩ := st.at hm (Loc.nil (m := .n .lst ms)) rfl
  cases e1
  have e3 : o = .lst vs := e3
  subst e3
  refine ⟨_, h1, .inl ⟨rfl, _, Evl.sq_of e2⟩, hx S0 H0 S H σ st _ fun w S2 H2 ex2 z => ?_⟩
  obtain ⟨p0, ew, st2⟩ := z
  subst ew
  have hg2 : g2 ++ [(p0, mv)] = gl ++ (a, .n .lst ms) :: (gr ++ [(p0, mv)]) := by rw [hg]; simp
  obtain ⟨p', o, vs, fq, e1, e2, _, e3, e4, e5, wr⟩ := st2.write hg2 (Loc.nil (m := .n .lst ms)) rfl
  cases e1
  have e3 : o = .lst vs := e3
  subst e3
  refine ⟨_, vs, _, rfl, rfl, e2, Evl.sz_lt (by rw [e4.length]; exact hl), ?_⟩
  have kk := k p0
  refine ac.nx _ _ S2 _ σ kk ex2 (wr _ .lst _ _ _ rfl ((e4.mono (Ex.refl _) fun b hb => upd_ne fun e => e5 (by rw [← e]; exact hb)).append (.cons (.d (.adr p0)) .nil)) ?_)
  rw [List.append_nil, List.append_nil]
  exact List.Sublist.refl _
theorem evF_listRg2 {ta tb : TE} {x y : Nat} (ha : EvD K ta ρ (.int (x : Int))) (hb : EvD K tb ρ (.int (y : Int))) (hn : y ≤ 1000) (hx : x ≤ y) : EvF K (tLstRg (tRg2 ta tb)) ρ ((kI (List.range' x (y - x))).map D.int) := fun S H σ e v Q q =>
  ha S H σ e v _ fun w S1 H1 x1 r1 => hb S1 H1 σ x1.sub (v.mono x1.s) _ fun w2 S2 H2 x2 r2 => by
    cases r1
    cases r2
    refine ⟨_, _, rfl, rfl, RgOk.of_le (by omega) (by omega) (by omega) (by omega), fun p hp => ?_⟩
    have ev : rgV (x : Int) (y : Int) = (kI (List.range' x (y - x))).map V.int := by
      unfold rgV kI
      have e1 : ((y : Int) - (x : Int)).toNat = y - x := by omega
      rw [e1, List.map_map, List.range'_eq_map_range, List.map_map]
      refine List.map_congr_left fun k _ => ?_
      show V.int ((x : Int) + (k : Int)) = V.int ((x + k : Nat) : Int)
      congr 1
    rw [ev]
    exact q p _ S2 _ ((x1.trans x2).trans (Ext.hid x2.sub hp)) (Evl.fresh_back (x1.trans x2).h hp) (sub_none x2.sub hp) upd_same (RdL.ofInts _)
end
/-- a list of bars as a tree -/
def barsT (L : List Fr.Bar) : M := .n .lst ((brs L).map M.d)
theorem see_barsT (L : List Fr.Bar) : (barsT L).see = .lst (brs L) := by
  show D.lst (seeL _) = D.lst _
  rw [seeL_d]
def blocksT (Ls : List (List Fr.Bar)) : M := .n .lst (Ls.map barsT)
theorem see_blocksT (Ls : List (List Fr.Bar)) : (blocksT Ls).see = .lst ((Ls.map brs).map D.lst) := by
  show D.lst (seeL _) = D.lst _
  rw [seeL_map, List.map_map, List.map_map]
  exact congrArg D.lst (List.map_congr_left fun l _ => see_barsT l)
theorem brs_flat (Ls : List (List Fr.Bar)) : (Ls.map brs).flatten = brs Ls.flatten := by
  induction Ls with
  | nil => rfl
  | cons l ls ih => rw [List.map_cons, List.flatten_cons, ih, List.flatten_cons, brs_app]
theorem zip_bars {as : List Addr} {Ls : List (List Fr.Bar)} {a : Addr} {L : List Fr.Bar} (h : as.length = Ls.length) : (as ++ [a]).zip ((Ls ++ [L]).map barsT) = as.zip (Ls.map barsT) ++ [(a, barsT L)] := by
  rw [List.map_append, List.zip_append (by rw [List.length_map]; exact h)]
  rfl
/-- what holds while blocks are drawn -/
structure Drawing (m : Nat) (Bs : List (List Nat)) (Ks : List (List Fr.Bar)) : Prop where
  gl : ∀ N, m ≤ N → Fr.Glued N m Bs Ks
  le : m ≤ 16
  five : ∀ B ∈ Bs, B.length ≤ 5
  cnt : Ks.flatten.length ≤ 7 * Bs.length
  len : Bs.length = Ks.length
theorem drawing_nil : Drawing 0 [] [] := ⟨fun _ _ => .nil, by decide, (fun _ h => nomatch h), by simp, rfl⟩
theorem drawing_step {m m' : Nat} {Bs : List (List Nat)} {Ks : List (List Fr.Bar)} (d : Drawing m Bs Ks) (mx : Nat → Nat) {J : List Nat} (nd : J.Nodup) (l2 : 2 ≤ J.length) (l5 : J.length ≤ 5) (low : ∀ x ∈ J, x < m') (up : m ≤ m') (h16 : m' ≤ 16) (cov : ∀ x, x < m' → x < m ∨ x ∈ J) (one : ∀ x ∈ J, ∀ y ∈ J, x < m → y < m → x = y) :
    Drawing m' (Bs ++ [J]) (Ks ++ [(Fr.tightB mx J.length).map (Fr.fb fun x => J.getD x 0)]) := by
  obtain ⟨tok, tsl, tln⟩ := Fr.tight_ok (mx := mx) l2
  have get : ∀ x, x < J.length → J.getD x 0 = J[x]! := fun x hx => by simp [List.getD, hx]
  have mem : ∀ x, x < J.length → J.getD x 0 ∈ J := fun x hx => Fr.getD_mem hx
  have inj : ∀ x y, x < J.length → y < J.length → J.getD x 0 = J.getD y 0 → x = y := fun x y hx hy e => by
    have e : J[x] = J[y] := by simpa [List.getD, hx, hy] using e
    rcases Nat.lt_trichotomy x y with l | l | l
    · exact absurd e (List.pairwise_iff_getElem.mp nd x y hx hy l)
    · exact l
    · exact absurd e.symm (List.pairwise_iff_getElem.mp nd y x hy hx l)
  refine ⟨fun N hN => (d.gl N (by omega)).snoc m' J _ nd l2 (by rw [List.length_map]; exact tln) (Fr.emb_slim inj (fun x hx => by have := low _ (mem x hx); omega) tok tsl) (fun b hb => ?_) low up hN cov one, h16, fun B hB => ?_, ?_, by rw [List.length_append, List.length_append, d.len]; rfl⟩
  · obtain ⟨b0, hb0, rfl⟩ := List.mem_map.mp hb
    obtain ⟨o1, o2, o3⟩ := tok b0 hb0
    exact ⟨mem _ o1, mem _ o2, fun e => o3 (inj _ _ o1 o2 e)⟩
  · rcases List.mem_append.mp hB with h | h
    · exact d.five B h
    · rw [List.mem_singleton.mp h]; exact l5
  · have := d.cnt
    simp only [List.flatten_append, List.length_append, List.flatten_cons, List.flatten_nil, List.length_nil, List.length_map, List.length_cons]
    omega
end Pl
namespace Fr
theorem flat_set_len : ∀ {Ns : List (List Bar)} {i : Nat} {N : List Bar} (b : Bar), Ns[i]? = some N → ((Ns.set i (N ++ [b])).flatten).length = Ns.flatten.length + 1
  | [], i, N, b, h => by simp at h
  | M :: Ns, 0, N, b, h => by
    simp at h
    subst h
    simp
    omega
  | M :: Ns, i + 1, N, b, h => by
    have z := flat_set_len (Ns := Ns) (i := i) b (by simpa using h)
    simp only [List.set_cons_succ, List.flatten_cons, List.length_append] at z ⊢
    omega
theorem grown_start {n : Nat} {Bs : List (List Nat)} {Ks : List (List Bar)} (gl : Glued n n Bs Ks) : Grown n Bs Ks Ks := ⟨gl, rfl, fun i B L N h1 h2 h3 => by
  rw [h2] at h3
  cases h3
  exact ⟨[], by simp, fun _ h => nomatch h⟩⟩
theorem grown_step {n : Nat} {Bs : List (List Nat)} {Ks Ns : List (List Bar)} {i : Nat} {B : List Nat} {N : List Bar} {b : Bar} (gr : Grown n Bs Ks Ns) (hB : Bs[i]? = some B) (hN : Ns[i]? = some N) (hb : b.1 ∈ B ∧ b.2 ∈ B ∧ b.1 ≠ b.2) : Grown n Bs Ks (Ns.set i (N ++ [b])) := by
  refine ⟨gr.gl, by rw [List.length_set]; exact gr.len, fun j C L M h1 h2 h3 => ?_⟩
  by_cases e : i = j
  · subst e
    rw [List.getElem?_set_self (List.getElem?_eq_some_iff.mp hN).1] at h3
    cases h3
    obtain ⟨E, e1, e2⟩ := gr.more i C L N h1 h2 hN
    rw [hB] at h1
    cases h1
    exact ⟨E ++ [b], by rw [e1, List.append_assoc], fun c hc => (List.mem_append.mp hc).elim (e2 c) fun z => by rw [List.mem_singleton.mp z]; exact hb⟩
  · rw [List.getElem?_set_ne e] at h3
    exact gr.more j C L M h1 h2 h3
end Fr

/-! Blocks by other names: parts, what is held, which bars are too many, and how great a knot is. -/
namespace Pl
open Fr (Grown Alike Hld rk Slim)
theorem sortN_same {l m : List Nat} (h : l.Perm m) : sortN l = sortN m :=
  (((sortN_perm l).trans h).trans (sortN_perm m).symm).eq_of_pairwise (fun a b _ _ x y => Nat.le_antisymm x y) (sortN_rise l) (sortN_rise m)
section
variable {n : Nat} {Bs : List (List Nat)} {Ks Ns : List (List Fr.Bar)} {f g : Nat → Nat} {ob : List Fr.Bar}
theorem names_parts (gr : Grown n Bs Ks Ns) (al : Alike n f g Ns.flatten ob) : (partsL n ob).Perm ((Bs.map fun B => B.map f).map sortN) := by
  refine (parts_perm al).trans ?_
  have e : ((Bs.map sortN).map (nameL f)) = (Bs.map fun B => B.map f).map sortN := by
    rw [List.map_map, List.map_map]
    refine List.map_congr_left fun B _ => ?_
    exact sortN_same ((sortN_perm B).map f)
  rw [← e]
  exact (Fr.grown_parts gr).map _
theorem names_hld (gr : Grown n Bs Ks Ns) (al : Alike n f g Ns.flatten ob) {a b : Nat} (ha : a < n) (hb : b < n) (ne : a ≠ b) : Hld n ob a b ↔ ∃ C ∈ Bs.map (fun B => B.map f), a ∈ C ∧ b ∈ C := by
  have t := al.turn
  have h := al.hld (a := g a) (b := g b) (t.gl a ha) (t.gl b hb) (fun e => ne (by rw [← t.fg a ha, ← t.fg b hb, e]))
  rw [t.fg a ha, t.fg b hb] at h
  rw [← h, Fr.grown_hld gr (t.gl a ha) (t.gl b hb) (fun e => ne (by rw [← t.fg a ha, ← t.fg b hb, e]))]
  obtain ⟨_, _, g3, _⟩ := Fr.glued_low gr.gl
  constructor
  · rintro ⟨B, hB, h1, h2⟩
    exact ⟨_, List.mem_map.mpr ⟨B, hB, rfl⟩, List.mem_map.mpr ⟨_, h1, t.fg a ha⟩, List.mem_map.mpr ⟨_, h2, t.fg b hb⟩⟩
  · rintro ⟨C, hC, h1, h2⟩
    obtain ⟨B, hB, rfl⟩ := List.mem_map.mp hC
    obtain ⟨x, hx, rfl⟩ := List.mem_map.mp h1
    obtain ⟨y, hy, rfl⟩ := List.mem_map.mp h2
    exact ⟨B, hB, by rw [t.gf x (g3 B hB x hx)]; exact hx, by rw [t.gf y (g3 B hB y hy)]; exact hy⟩
theorem names_rk (gr : Grown n Bs Ks Ns) (al : Alike n f g Ns.flatten ob) : (rk n ob : Int) = (Bs.map fun B => 2 * (B.length : Int) - 3).sum := by
  rw [al.rk, Fr.grown_rk gr, Fr.grown_sum gr.gl]
theorem names_stiff (gr : Grown n Bs Ks Ns) (al : Alike n f g Ns.flatten ob) (h2 : 2 ≤ n) : rk n ob + 3 = 2 * n ↔ Bs.length = 1 := by
  rw [al.rk, stiff_parts (Fr.grown_ok gr) h2]
  have pm := Fr.grown_parts gr
  constructor
  · intro h
    rw [h] at pm
    have := pm.length_eq
    rw [List.length_map] at this
    exact this.symm
  · intro h
    obtain ⟨B, rfl⟩ := List.length_eq_one_iff.mp h
    have e := List.perm_singleton.mp pm
    rw [e]
    obtain ⟨_, _, g3, g4, _⟩ := Fr.glued_low gr.gl
    obtain ⟨_, _, _, _, _, _, nd, _⟩ := Fr.block_pair gr (List.mem_singleton.mpr rfl : B ∈ [B])
    congr 1
    refine sortN_eq nd List.pairwise_lt_range fun x => ?_
    rw [List.mem_range]
    constructor
    · exact fun hx => g3 B (List.mem_singleton.mpr rfl) x hx
    · intro hx
      obtain ⟨C, hC, h⟩ := g4 x hx
      rw [List.mem_singleton.mp hC] at h
      exact h
theorem names_many {t : Nat → Bool} {P : List Nat} (gr : Grown n Bs Ks Ns) (tr : Fr.Turn n f g) (pm : P.Perm (List.range Ns.flatten.length)) {k : Nat} (hk : k ∈ manyL n (otherL f t Ns.flatten P)) :
    ∃ (i : Nat) (B : List Nat), Bs[i]? = some B ∧ Ns[i]? ≠ Ks[i]? ∧ (Fr.barAt (otherL f t Ns.flatten P) k).1 ∈ B.map f ∧ (Fr.barAt (otherL f t Ns.flatten P) k).2 ∈ B.map f := by
  have okN := Fr.grown_ok gr
  have hl : k < P.length := by
    have := (manyL_mem.mp hk).1
    unfold otherL at this
    rwa [List.length_map] at this
  obtain ⟨i, B, hB, h1, h2, h3⟩ := Fr.grown_many gr ((other_many tr okN pm hl).mp hk)
  refine ⟨i, B, hB, h3, ?_⟩
  have e : Fr.barAt (otherL f t Ns.flatten P) k = turnB (t P[k]) (Fr.fb f (Fr.barAt Ns.flatten P[k])) := by
    unfold Fr.barAt otherL otherB
    simp [List.getD, hl]
    rfl
  rw [e]
  have m1 : f (Fr.barAt Ns.flatten P[k]).1 ∈ B.map f := List.mem_map.mpr ⟨_, h1, rfl⟩
  have m2 : f (Fr.barAt Ns.flatten P[k]).2 ∈ B.map f := List.mem_map.mpr ⟨_, h2, rfl⟩
  rcases turn_or (t P[k]) (Fr.fb f (Fr.barAt Ns.flatten P[k])) with e | e
  · rw [e]; exact ⟨m1, m2⟩
  · rw [e]; exact ⟨m2, m1⟩
theorem names_none {t : Nat → Bool} {P : List Nat} (gr : Grown n Bs Ks Ns) (tr : Fr.Turn n f g) (pm : P.Perm (List.range Ns.flatten.length)) : manyL n (otherL f t Ns.flatten P) = [] ↔ Ns.flatten.length = Ks.flatten.length := by
  have okN := Fr.grown_ok gr
  rw [many_nil (other_alike tr okN pm).oko, other_slim tr okN pm, Fr.grown_slim gr]
/-- the joints of a knot are of one part -/
theorem knot_part {nb : List Fr.Bar} {i : Nat} (ok : Fr.Ok n nb) (hi : i < nb.length) {p : Nat × List Nat} (hp : knotOf n nb i = some p) : ∃ js : List Nat, Knot nb p.2 i js ∧ ∃ l ∈ partsL n nb, js.length ≤ l.length := by
  obtain ⟨js, _, kn⟩ := knot_fit ok hi hp
  refine ⟨js, kn, ?_⟩
  have pm := orderBut_perm hi
  unfold knotOf at hp
  have hpm := List.mem_of_find?_eq_some hp
  have hpi : p.1 = i := by
    have z := List.find?_some hp
    simpa using z
  obtain ⟨q1, _, q3, lj, hj, ndj, slj, nq, ⟨T, tT, t2, t3, _, t5⟩, _⟩ := (Fr.tied_iff ok pm hi).2 p hpm
  rw [hpi] at t2 t3
  have o := ok _ (Fr.barAt_mem hi)
  have okj := Fr.barAt_ok ok hj
  have hld : ∀ x y, x < n → y < n → x ≠ y → T x = true → T y = true → Hld n nb x y := fun x y hx hy ne tx ty =>
    Fr.spn_hld okj slj ok (fun b hb => by obtain ⟨a, ha, rfl⟩ := List.mem_map.mp hb; exact Fr.barAt_mem (hj a ha)) hx hy ne ⟨T, tT, tx, ty⟩
  have inT : ∀ x ∈ js, x < n ∧ T x = true := fun x hx => by
    obtain ⟨a, ha, q⟩ := (kn.j2 x).mp hx
    have oa := ok _ (Fr.barAt_mem (kn.h2 a ha))
    have ta := ((t5 a).mp ha).2.1
    rcases q with rfl | rfl
    · exact ⟨oa.1, ta.1⟩
    · exact ⟨oa.2.1, ta.2⟩
  -- in the order of the two ends
  have two : ∃ a b, a < b ∧ b < n ∧ T a = true ∧ T b = true := by
    rcases Nat.lt_trichotomy (Fr.barAt nb i).1 (Fr.barAt nb i).2 with l | l | l
    · exact ⟨_, _, l, o.2.1, t2, t3⟩
    · exact absurd l o.2.2
    · exact ⟨_, _, l, o.1, t3, t2⟩
  obtain ⟨a, b, lab, hbn, ta, tb⟩ := two
  have han : a < n := by omega
  refine ⟨partL n (Fr.pickB n [] nb) (a, b), (partsL_mem0 ok).mpr ⟨a, b, lab, hbn, hld a b han hbn (by omega) ta tb, rfl⟩, ?_⟩
  refine Fr.sub_length (kn.j1.imp fun h => Nat.ne_of_lt h) ((partL_rise _ _ _).imp fun h => Nat.ne_of_lt h) fun x hx => ?_
  obtain ⟨hxn, tx⟩ := inT x hx
  refine partL_mem.mpr ⟨hxn, Fr.part_iff.mpr ?_⟩
  by_cases e1 : x = a
  · exact .inl e1
  · by_cases e2 : x = b
    · exact .inr (.inl e2)
    · exact .inr (.inr ⟨hld a x han hxn (Ne.symm e1) ta tx, hld b x hbn hxn (Ne.symm e2) tb tx⟩)
/-- all bars of a told knot are too many -/
theorem knot_many {nb : List Fr.Bar} {i : Nat} (ok : Fr.Ok n nb) (hi : i < nb.length) {p : Nat × List Nat} (hp : knotOf n nb i = some p) : ∀ x ∈ p.2, x ∈ manyL n nb := fun x hx => by
  have pm := orderBut_perm hi
  unfold knotOf at hp
  have hpm := List.mem_of_find?_eq_some hp
  obtain ⟨_, _, _, lj, _, _, _, _, ⟨T, _, _, _, _, t5⟩, _⟩ := (Fr.tied_iff ok pm hi).2 p hpm
  have hx2 := ((t5 x).mp hx).1
  exact manyL_mem.mpr ⟨hx2, (Fr.tied_iff ok pm hx2).1.mp ⟨p, hpm, hx⟩⟩
end
end Pl

/-! Rules that HandS lacked: an error made with any text, (a, *b) = a tuple, .get of a written dict, len of a set. -/
namespace L2N
open PySem PySem.Spec PyProof.Rows L2
section
variable {X : Cx} {C : Addr} {bmB : List Value} {B newId initId : String}
/-- X(e), e whatever -/
theorem pmk_ownE {x : Str} {e : Expr} {te : TE} {p pos : Pos} (F : ExcBaseFacts B newId initId bmB) (q : PySem.W.excIn X.K C bmB newId = true) (gC : X.mg x = some (.ref C)) (kC : PySem.W.keepIn X.K (.ref C) = true) (r : Raises X (.ref C)) (hg : Gl X x) (he : PE X e te)
    (hdb : (x == ("__debug__" : Str)) = false := by decide) (hst : starEach [e] X.env = (false, eval e X.env) :: starEach [] X.env := by rfl) : PMk X (.Call (.Name x p) [e] [] pos) (fun σ H Q => te σ H fun _ H1 => Q (.ref C) none H1) := by
  intro pins s σ H Q I h
  refine wpAny_Call_Name_kw (ld_glob I hg gC ?_ hdb)
  have ha : PA X [e] (tCons te tNil) := pa_cons he pa_nil hst
  refine PySem.W.callWith_K (h₀ := X.base) I.ok.mod.kin kC (thn (ha.run pos pins s σ H (fun vs H1 => match vs with
    | [_] => Q (.ref C) none H1
    | _ => False) I h) fun us s1 hh => ?_) (by rw [hst])
  obtain ⟨vs, H1, I1, r1, ev⟩ := hh
  refine ⟨I1.kIn, ?_⟩
  cases r1 with
  | nil => exact ev.elim
  | cons ru rn =>
    cases rn with
    | cons _ _ => exact ev.elim
    | nil =>
      show wpAny _ _ (call (.ref C) [_]) _ _ _
      obtain ⟨bm, N, nm, qn, bs, hdct, sn, sub, ab, col, dd, k0, k1, k2, k3, k5, mN, hC, hN, hni, T⟩ := exc_obj I1.kIn q
      refine wpAny_call_exc_subT F T hC hN hni (fun h' e hm => ?_) (by show 1 ≤ sizeLine; rw [sizeLine_eq]; omega)
      exact mk_of I1 hm r ev (I1.hok.gone hm.new)
end
end L2N
namespace L2
open PySem PySem.Spec PyProof.Rows
section
variable {prog : Program} {w : World} {A : Around} {E : Value → Shared → Prop} {s : Shared}
/-- (.., *b) = a tuple: its items ahead, the rest as a new list -/
theorem unpack_star {l : Addr} {items : Array Value} {i : Nat} {Q : List Value → Shared → Prop} (hl : IsTup s.heap l items) (hh : A.handled = none) (hi : i ≤ items.size) (hz : items.size ≤ 16384)
    (h : ∀ (h' : Heap) (tk : Tok), (∀ b o, s.heap.get? b = some o → h'.get? b = some o) → Q (items.toList.take i ++ [.ref h'.objs.size]) { s with heap := h'.push { cls := .type "list", data := .seq (items.toList.drop i).toArray }, toks := tk }) :
    wpAny (model prog w) A (unpackItems (.ref l) (i + 1) (some i)) Q E s := by
  have hlt : l ≠ s.heap.objs.size := by obtain ⟨o, ho, _⟩ := hl; exact Nat.ne_of_lt (Heap.lt_size ho)
  unfold unpackItems
  refine wpAny_bind ?_
  unfold notIterableAtAll
  refine wpAny_bind (wpAny_specialOf hl.typeIs slot_tuple_iter.lookup ?_)
  refine wpAny_pure ?_
  simp only [Bool.false_eq_true, if_false]
  refine wpAny_bind (wpAny_holding (iter_tuple hl ?_))
  refine wpAny_bind (wpAny_holding (draw_tuple hlt i 0 _ _ ⟨_, Heap.get?_push_size _ rfl, rfl, rfl⟩ (hl.push _) (by omega) fun h₁ hit₁ hs₁ => ?_))
  have hl₁ : IsTup h₁ l items := (hl.push _).extBut hs₁.extBut hlt
  rw [Nat.zero_add] at hit₁
  have hit₁' := hit₁
  obtain ⟨oi, hoi, _⟩ := hit₁'
  have hl₁' := hl₁
  obtain ⟨ol, hol, _⟩ := hl₁'
  rw [List.drop_zero]
  have hfl : (items.toList.take i).length = i := by rw [List.length_take, Array.length_toList]; omega
  rw [if_neg (show ¬ ((items.toList.take i).length < i) by rw [hfl]; omega)]
  refine wpAny_bind (wpAny_holding (PySem.W.kun_collect (s := { s with heap := h₁ }) (T := "tuple_iterator") (.inr (.inr (.inr rfl))) (Walks.tuple (A := A.in1) hh s.heap.objs.size l hlt items) (fun j u st => st.1.typeIs) (k := i) (by omega) ⟨hit₁, hl₁⟩ (Heap.lt_size hoi) (Heap.lt_size hol) (fun h₂ tk hk => ?_) (by rw [sizeLine_eq]; omega)))
  have hrl : (items.toList.drop i).length = items.size - i := by rw [List.length_drop, Array.length_toList]
  have ha : i + 1 - 1 - i = 0 := by omega
  show wpAny _ _ (if (items.toList.drop i).length < i + 1 - 1 - i then _ else _) _ _ _
  rw [if_neg (by omega)]
  show wpAny _ _ (newList ((items.toList.drop i).take ((items.toList.drop i).length - (i + 1 - 1 - i))) >>= fun d => pure (items.toList.take i ++ [d] ++ (items.toList.drop i).drop ((items.toList.drop i).length - (i + 1 - 1 - i)))) _ _ _
  rw [ha, Nat.sub_zero, List.take_length, List.drop_length]
  have oth : ∀ b o, s.heap.get? b = some o → h₂.get? b = some o := fun b o e => by
    have hb : b ≠ s.heap.objs.size := Nat.ne_of_lt (Heap.lt_size e)
    exact hk b o hb (hs₁.extBut b o hb (Heap.get?_push_of_some _ e))
  refine wpAny_bind (wpAny_newList (wpAny_pure ?_) (by rw [hrl, sizeLine_eq]; omega))
  rw [List.append_nil]
  exact h h₂ tk oth
end
def gStar (K : PySem.W.Frag) (i : Nat) (t : TGs) : TG := fun v σ H Q => ∃ a xs, v = .ref a ∧ SqT K H a xs ∧ i ≤ xs.length ∧ xs.length ≤ 16384 ∧ ∀ l, H l = none → t (xs.take i ++ [.ref l]) σ (upd H l (.lst (xs.drop i))) Q
section
variable {X : Cx} {pos p : Pos}
theorem pgs_star {e : Expr} {es : List Expr} {t : TG} {u : TGs} (h1 : PG X e t) (h2 : PGs X es u)
    (hs : (assignEach (.Starred e p :: es) X.env).map (·.2) = assign e X.env :: (assignEach es X.env).map (·.2) := by rfl) : PGs X (.Starred e p :: es) (gCons t u) := by
  refine ⟨fun pins s σ H vs us Q I r h => ?_⟩
  obtain ⟨v, vr, e1, h⟩ := h
  subst e1
  cases r with
  | cons r rr =>
    rw [hs]
    refine assignInOrder_cons (thn (h1.run pins s σ H _ _ _ I r h) fun _ s1 ⟨σ1, H1, I1, q1⟩ => ?_)
    exact h2.run pins s1 σ1 H1 _ _ Q I1 rr q1
theorem pg_star {es : List Expr} {k i : Nat} {t : TGs} {K : PySem.W.Frag} (hK : X.K = K) (hc : X.calm = true) (h : PGs X es t)
    (hn : (assignEach es X.env).length = i + 1 := by rfl) (hst : (assignEach es X.env).findIdx? (·.1) = some i := by rfl) : PG X (.Tuple es k pos) (gStar K i t) := by
  subst hK
  refine ⟨fun pins s σ H v u Q I r hw => ?_⟩
  obtain ⟨a, xs, e1, hq, hl, hm, hw⟩ := hw
  subst e1
  cases r
  obtain ⟨its, rv, ht, hz⟩ := I.tuple hq
  have el := rv.length
  rw [PyProof.Rows.assign_Tuple]
  refine wpAny_bind (wpAny_standAt ?_)
  unfold unpack
  rw [hn, hst]
  refine wpAny_bind (wpAny_holding (unpack_star (i := i) ht (I.ok.hd hc) (by rw [List.size_toArray]; omega) (by rw [List.size_toArray]; omega) fun h' tk oth => ?_))
  have I1 : Inv X pins σ H { s with heap := h', toks := tk } := I.kept oth
  have hzz : (xs.drop i).length ≤ sizeLine := by
    rw [List.length_drop, sizeLine_eq]
    omega
  have I2 : Inv X pins σ (upd H h'.objs.size (.lst (xs.drop i))) { s with heap := h'.push { cls := .type "list", data := .seq (its.drop i).toArray }, toks := tk } :=
    I1.laid (t' := tk) (fun b o e => Heap.get?_push_of_some _ e) (Nat.le_refl _) (show ObjOk X.prog X.w _ _ _ (.lst (xs.drop i)) from ⟨hzz, its.drop i, 0, rv.drop i, Heap.get?_push_size _ rfl⟩)
  exact h.run pins _ σ _ _ _ Q I2 (Vals.append (rv.take i) (Paired.cons (show RelV (.ref h'.objs.size) (.ref h'.objs.size) from rfl) .nil)) (hw _ (I1.hok.fresh (Nat.le_refl _)))
end
/-! ### .get of a written dict with text keys -/
/-- what stands at that key, or none -/
def KGot (K : PySem.W.Frag) (w : World) (d : Addr) (z : Str) (v : V) : Prop := ∃ es n r, KDict K w d es n ∧ PySem.W.nsIn K d z = some r ∧ RelV v (r.getD .none)
def tKGet (K : PySem.W.Frag) (w : World) (td ty : TE) : TE := fun σ H Q => td σ H fun x H1 => ∃ d es n, x = .ref d ∧ KDict K w d es n ∧ ty σ H1 fun y H2 => ∃ z v, y = .str z ∧ KGot K w d z v ∧ Q v H2
section
variable {X : Cx} {o e : Expr} {apos cpos : Pos} {td ty : TE}
theorem pe_kget {K : PySem.W.Frag} {w : World} (hK : X.K = K) (hw : X.w = w) (ho : PE X o td) (he : PE X e ty) (m : M1 X o "get" apos e cpos) : PE X (.Call (.Attribute o "get" apos) [e] [] cpos) (tKGet K w td ty) := by
  subst hK
  subst hw
  refine ⟨fun pins s σ H Q I h => ?_⟩
  refine wpAny_Call_method m.base m.few m.line PySem.F.plainAttrs_dict PySem.F.slot_dict_get PySem.F.type_dict_get (thn (ho.run pins s σ H _ I h) fun u s1 ⟨x, H1, I1, rx, a, es, n, ex, D, q1⟩ => ?_)
  subst ex
  obtain rfl : u = Value.ref a := rx
  have hm := PySem.W.mapOf_K (prog := X.prog) (w := X.w) I1.kIn D.at_ D.lit
  refine ⟨hm.typeIs, fun b eb => ?_, ?_⟩
  · cases eb
    exact ⟨_, I1.kIn _ _ D.at_, rfl⟩
  · rw [m.trees]
    refine Calls.callWith_builtin rfl (Calls.evalArgs_plain (Calls.spliced_cons (thn (he.run pins s1 σ H1 _ I1 q1) fun iv s2 ⟨y, H2, I2, ry, z, v, ey, g, q2⟩ => Calls.spliced_nil ?_)))
    subst ey
    obtain ⟨t, rfl⟩ := ry
    obtain ⟨es', n', r, D', hr, rv⟩ := g
    have hm2 := PySem.W.mapOf_K (prog := X.prog) (w := X.w) I2.kIn D'.at_ D'.lit
    refine call_meetsIn PySem.F.slot_dict_get hm2.typeIs PySem.F.entry_dict_get (PySem.F.args_dict_get_2 _ _) (meets_dict_get (strKind X.prog X.w) a (PySem.strKind_is X.prog X.w z t) D'.low) ⟨_, hm2, ?_⟩
    rw [PySem.W.find_K D'.at_ hr]
    exact ⟨v, H2, I2.tok _, rv, q2⟩
end
/-! ### len of a set of whole numbers -/
def rLenSet (w : World) : List V → Hp → VK → Prop := fun xs H Q => ∃ p S n, xs = [.ref p] ∧ H p = some (SetO w p S n) ∧ (n : Int) < 2 ^ 62 ∧ Q (.int (n : Int)) H
theorem cr_lenSet {X : Cx} : CallR X (.builtin "len") (rLenSet X.w) := by
  intro pins s σ H xs us Q I r h
  obtain ⟨p, S, n, rfl, hp, hn, q⟩ := h
  obtain ⟨u, rfl, rx⟩ := vals1 r
  cases rx
  obtain ⟨o, es, ep, t, ho, hx, hd, _, _, _, _, hf, hsz, _⟩ := setO_get I hp
  subst hsz
  exact call_len_set ho hx hd hf (by omega) ⟨.int _, H, I.tok _, ⟨_, rfl⟩, q⟩
/-! ### min, max of a tuple of whole numbers -/
def rMinT (K : PySem.W.Frag) : List V → Hp → VK → Prop := fun vs H Q => ∃ (a : Addr) (n : Int) (ns : List Int), vs = [V.ref a] ∧ SqT K H a ((n :: ns).map V.int) ∧ Q (.int (ns.foldl min n)) H
def rMaxT (K : PySem.W.Frag) : List V → Hp → VK → Prop := fun vs H Q => ∃ (a : Addr) (n : Int) (ns : List Int), vs = [V.ref a] ∧ SqT K H a ((n :: ns).map V.int) ∧ Q (.int (ns.foldl max n)) H
theorem reads_ints {h : Heap} : ∀ {ns : List Int} {us : List Value}, Vals (ns.map V.int) us → ReadsAll h us (ns.map .int) []
  | [], _, .nil => .nil
  | n :: ns, _, .cons r rs => by
    obtain ⟨t, rfl⟩ := r
    exact .cons (.int n t) (reads_ints rs)
theorem alike_ints (ns : List Int) : PySem.W.AlikeAll (ns.map .int) := by
  refine ⟨fun x hx y hy => ?_, fun x hx => ?_⟩
  · obtain ⟨a, _, rfl⟩ := List.mem_map.mp hx
    obtain ⟨b, _, rfl⟩ := List.mem_map.mp hy
    rfl
  · obtain ⟨a, _, rfl⟩ := List.mem_map.mp hx
    exact fun z => by cases z
theorem depth_ints : ∀ ns : List Int, PyData.depthAll (ns.map .int) = 0
  | [] => rfl
  | n :: ns => by
    show max (PyData.depth (.int n)) (PyData.depthAll (ns.map .int)) = 0
    rw [depth_ints ns]
    rfl
theorem cr_minT {X : Cx} (hc : X.calm = true) (hu : X.A.units + 64 < cLine) : CallR X (.builtin "min") (rMinT X.K) := by
  intro pins s σ H vs us Q I r h
  obtain ⟨a, n, ns, rfl, hs, q⟩ := h
  obtain ⟨its, rv, ht, hz⟩ := I.tuple hs
  rw [Vals.ref1 r]
  refine PySem.W.min_tuple_data (x := .int n) (xs := ns.map .int) (as := []) (I.ok.hd hc) ht (reads_ints (ns := n :: ns) (by simpa using rv)) (alike_ints (n :: ns)) (by have := depth_ints (n :: ns); rw [show PyData.depthAll (.int n :: ns.map .int) = 0 from this]; omega) fun i v h' tk bs hv hr kp => ?_
  rw [PySem.W.minD_ints] at hr
  cases hr with
  | int _ t => exact ⟨.int _, H, I.kept kp, ⟨t, rfl⟩, q⟩
theorem cr_maxT {X : Cx} (hc : X.calm = true) (hu : X.A.units + 64 < cLine) : CallR X (.builtin "max") (rMaxT X.K) := by
  intro pins s σ H vs us Q I r h
  obtain ⟨a, n, ns, rfl, hs, q⟩ := h
  obtain ⟨its, rv, ht, hz⟩ := I.tuple hs
  rw [Vals.ref1 r]
  refine PySem.W.max_tuple_data (x := .int n) (xs := ns.map .int) (as := []) (I.ok.hd hc) ht (reads_ints (ns := n :: ns) (by simpa using rv)) (alike_ints (n :: ns)) (by have := depth_ints (n :: ns); rw [show PyData.depthAll (.int n :: ns.map .int) = 0 from this]; omega) fun i v h' tk bs hv hr kp => ?_
  rw [PySem.W.maxD_ints] at hr
  cases hr with
  | int _ t => exact ⟨.int _, H, I.kept kp, ⟨t, rfl⟩, q⟩
/-! ### in a tuple of any data -/
def rInDT (K : PySem.W.Frag) : R2 := fun x y H Q => ∃ d ds, Dp K H x d ∧ Dp K H y (.tuple ds) ∧ SeqAt.shaped d = true ∧ SeqAt.shaped (.tuple ds) = true ∧ Q (.bl (ds.any fun z => PyData.eqv z d)) H
def rNotInDT (K : PySem.W.Frag) : R2 := fun x y H Q => ∃ d ds, Dp K H x d ∧ Dp K H y (.tuple ds) ∧ SeqAt.shaped d = true ∧ SeqAt.shaped (.tuple ds) = true ∧ Q (.bl (!ds.any fun z => PyData.eqv z d)) H
theorem op_inDT {X : Cx} (hu : X.A.units + 65 < cLine) : OpR X (compareOp .In) (rInDT X.K) := by
  intro pins s σ H x y v u Q I rx ry h
  obtain ⟨d, ds, hd, he, sd, se, q⟩ := h
  obtain ⟨as, r1⟩ := Dp.reads I d x v hd rx
  obtain ⟨bs, r2⟩ := Dp.reads I (.tuple ds) y u he ry
  exact SeqAt.in_tuple_reads r2 r1 (SeqAt.canLay_of_shaped se) (SeqAt.canLay_of_shaped sd) (room_in_shaped sd hu) ⟨.bl _, H, I, rfl, q⟩
theorem op_notInDT {X : Cx} (hu : X.A.units + 65 < cLine) : OpR X (compareOp .NotIn) (rNotInDT X.K) := by
  intro pins s σ H x y v u Q I rx ry h
  obtain ⟨d, ds, hd, he, sd, se, q⟩ := h
  obtain ⟨as, r1⟩ := Dp.reads I d x v hd rx
  obtain ⟨bs, r2⟩ := Dp.reads I (.tuple ds) y u he ry
  exact SeqAt.notIn_tuple_reads r2 r1 (SeqAt.canLay_of_shaped se) (SeqAt.canLay_of_shaped sd) (room_in_shaped sd hu) ⟨.bl _, H, I, rfl, q⟩
end L2

/-! (a, *b) = a tuple; .get of a written dict; the number of a set's members; min, max of a pair; tuple(list); {} as data; in a tuple of any data; bars sorted; a loop that raises. -/
namespace Pl
open PySem PySem.Spec PyProof.Rows L2
open Evl (Ex)
section
variable {K : PySem.W.Frag} {ρ : Rho} {te td ty : TE} {d x y : D} {ds es : List D} {F : FE} {w : World}
theorem T.asgStar {gs : TGs} {ps : List (Nat × D)} {n : Nat} (h : EvD K te ρ (.tup ds)) (hn : n ≤ ds.length) (hl : ds.length ≤ 16384) (hg : EvGs K gs (ds.take n ++ [.lst (ds.drop n)]) ps) (k : F.nx (setR ρ ps)) : T K (tAsg te (gStar K n gs)) ρ F := fun S0 H0 S H σ Dd s a =>
  h S H σ s.ext.sub s.env _ fun v S' H' x r => by
    cases r with
    | tup ha rl =>
      rename_i aa xs
      refine ⟨_, _, rfl, Evl.st_of (x.sub _ _ ha), by rw [rl.length]; exact hn, by rw [rl.length]; exact hl, fun l hl => ?_⟩
      have sl := sub_none x.sub hl
      have x2 := x.trans (Ext.new (o := .lst (xs.drop n)) x.sub hl)
      exact hg _ _ σ _ x2.sub (((rl.take n).mono (Ex.new sl)).append (.cons (.lst upd_same ((rl.drop n).mono (Ex.new sl))) .nil)) _ fun vs rv => a.nx _ _ _ _ k x2.s ((s.go x2).setV rv)
theorem ev_kget {a : Addr} {z : Str} {v : V} (hd : EvD K td ρ (.adr a)) (hk : ∃ es n, KDict K w a es n) (hy : EvD K ty ρ (.str z)) (g : KGot K w a z v) (r : ∀ S, Rd K S v x) : EvD K (tKGet K w td ty) ρ x := fun S H σ e vv Q q =>
  hd S H σ e vv _ fun u S1 H1 x1 r1 => by
    cases r1
    obtain ⟨es, n, D⟩ := hk
    exact ⟨a, es, n, rfl, D, hy S1 H1 σ x1.sub (vv.mono x1.s) _ fun u2 S2 H2 x2 r2 => by
      cases r2
      exact ⟨z, v, rfl, g, q v S2 H2 (x1.trans x2) (r S2)⟩⟩
/-- its items, each once -/
def nub : List Int → List Int
  | [] => []
  | a :: l => if a ∈ l then nub l else a :: nub l
theorem nub_mem : ∀ {l : List Int} {k : Int}, k ∈ nub l ↔ k ∈ l
  | [], _ => Iff.rfl
  | a :: l, k => by
    unfold nub
    by_cases h : a ∈ l
    · rw [if_pos h, nub_mem, List.mem_cons]
      exact ⟨.inr, fun z => z.elim (fun e => e ▸ h) id⟩
    · rw [if_neg h, List.mem_cons, List.mem_cons, nub_mem]
theorem nub_nodup : ∀ l : List Int, (nub l).Nodup
  | [] => List.nodup_nil
  | a :: l => by
    unfold nub
    by_cases h : a ∈ l
    · rw [if_pos h]
      exact nub_nodup l
    · rw [if_neg h]
      exact List.nodup_cons.mpr ⟨fun z => h (nub_mem.mp z), nub_nodup l⟩
theorem nub_le : ∀ l : List Int, (nub l).length ≤ l.length
  | [] => Nat.le_refl _
  | a :: l => by
    unfold nub
    have := nub_le l
    by_cases h : a ∈ l
    · rw [if_pos h, List.length_cons]
      omega
    · rw [if_neg h, List.length_cons, List.length_cons]
      omega
theorem nub_len : ∀ {l : List Int}, (nub l).length = l.length ↔ l.Nodup
  | [] => ⟨fun _ => List.nodup_nil, fun _ => rfl⟩
  | a :: l => by
    unfold nub
    have h1 := nub_le l
    by_cases h : a ∈ l
    · rw [if_pos h, List.length_cons, List.nodup_cons]
      exact ⟨fun z => absurd z (by omega), fun z => absurd h z.1⟩
    · rw [if_neg h, List.length_cons, List.length_cons, List.nodup_cons, ← nub_len (l := l)]
      exact ⟨fun z => ⟨h, by omega⟩, fun z => by rw [z.2]⟩
theorem ev_lenSet {ns : List Int} (h : EvD K te ρ (.lst (ns.map D.int))) (hl : ns.length ≤ 1000) : EvD K (tCB (rLenSet w) (tCons (tCB (Sx.rSetOf K w) (tCons te tNil)) tNil)) ρ (.int ((nub ns).length : Int)) := fun S H σ e v Q q =>
  h S H σ e v _ fun u S1 H1 x1 r1 => by
    cases r1 with
    | lst ha rl =>
      have z := rl.ints
      subst z
      refine ⟨_, ns, rfl, Evl.sq_of (x1.sub _ _ ha), hl, fun T ks p hp' nd hT hk => ?_⟩
      have el : ks.length = (nub ns).length := Nat.le_antisymm (List.Nodup.length_le_of_subset nd fun k hk' => nub_mem.mpr ((hk k).mp hk')) (List.Nodup.length_le_of_subset (nub_nodup ns) fun k hk' => (hk k).mpr (nub_mem.mp hk'))
      have hle := nub_le ns
      rw [el]
      exact ⟨p, T, (nub ns).length, rfl, upd_same, by omega, q _ S1 _ (x1.trans (Ext.hid x1.sub hp')) (.int _)⟩
theorem ok_lenSet {X : Cx} (hw : X.w = w) : CallR X (.builtin "len") (rLenSet w) := by subst hw; exact cr_lenSet
theorem ok_minT {X : Cx} (h : X.K = K) (hc : X.calm = true) (hu : X.A.units + 64 < cLine) : CallR X (.builtin "min") (rMinT K) := by subst h; exact cr_minT hc hu
theorem ok_maxT {X : Cx} (h : X.K = K) (hc : X.calm = true) (hu : X.A.units + 64 < cLine) : CallR X (.builtin "max") (rMaxT K) := by subst h; exact cr_maxT hc hu
theorem rc_minT2 {a b : Int} : RC K (rMinT K) [.tup [.int a, .int b]] (.int (min a b)) := fun S H vs e r Q q => by
  cases r with
  | cons h t =>
    cases t
    cases h with
    | tup ha rl =>
      have z := RdL.ints (ns := [a, b]) rl
      subst z
      exact ⟨_, a, [b], rfl, Evl.st_of (e _ _ ha), q _ S H (Ext.refl e) (.int _)⟩
theorem rc_maxT2 {a b : Int} : RC K (rMaxT K) [.tup [.int a, .int b]] (.int (max a b)) := fun S H vs e r Q q => by
  cases r with
  | cons h t =>
    cases t
    cases h with
    | tup ha rl =>
      have z := RdL.ints (ns := [a, b]) rl
      subst z
      exact ⟨_, a, [b], rfl, Evl.st_of (e _ _ ha), q _ S H (Ext.refl e) (.int _)⟩
/-! ### tuple(xs), {} -/
def rTupOf (K : PySem.W.Frag) : List V → Hp → VK → Prop := fun xs H Q => ∃ p ys, xs = [V.ref p] ∧ ((SqL K H p ys ∧ ∀ l, H l = none → Q (.ref l) (upd H l (.tup ys))) ∨ (SqT K H p ys ∧ Q (.ref p) H))
theorem ok_tupOf {X : Cx} (h : X.K = K) : CallR X (.type "tuple") (rTupOf K) := by subst h; exact call_tuple_of
theorem rc_tupL : RC K (rTupOf K) [.lst ds] (.tup ds) := fun S H vs e r Q q => by
  cases r with
  | cons h t =>
    cases t
    cases h with
    | lst ha rl => exact ⟨_, _, rfl, .inl ⟨Evl.sq_of (e _ _ ha), fun p hp => q (.ref p) (upd S p (.tup _)) (upd H p (.tup _)) (Ext.new e hp) (.tup upd_same (rl.mono (Ex.new (sub_none e hp))))⟩⟩
theorem ev_dnew : EvD K tDNewK ρ (.dc [] []) := fun S H σ e v Q q => fun p hp =>
  q (.ref p) (upd S p (.dK [])) (upd H p (.dK [])) (Ext.new e hp) (.dc (xs := []) upd_same rfl .nil)
/-! ### in a tuple of any data -/
theorem ok_inDT {X : Cx} (h : X.K = K) (hu : X.A.units + 65 < cLine) : OpR X (compareOp .In) (rInDT K) := by subst h; exact op_inDT hu
theorem ok_niDT {X : Cx} (h : X.K = K) (hu : X.A.units + 65 < cLine) : OpR X (compareOp .NotIn) (rNotInDT K) := by subst h; exact op_notInDT hu
theorem rv_inDT {b : Bool} (hx : x.okd 59 = true) (hds : ∀ d ∈ ds, d.okd 59 = true) (sx : x.sm 60 = true) (sds : ∀ d ∈ ds, d.sm 60 = true) (h : b = true ↔ x ∈ ds) : RV K (rInDT K) x (.tup ds) (.bl b) := fun S H v u e r1 r2 Q q => by
  have hx60 : x.okd 60 = true := okd_up hx
  have hL : (D.tup ds).okd 60 = true := List.all_eq_true.mpr hds
  have d2 := Rd.dp 60 _ _ hL (r2.mono e)
  have s2 := okd_shaped hL
  have ep : (D.tup ds).py = .tuple (ds.map D.py) := by rw [D.py, pyL_map]
  rw [ep] at d2 s2
  refine ⟨x.py, ds.map D.py, Rd.dp 60 _ _ hx60 (r1.mono e), d2, okd_shaped hx60, s2, ?_⟩
  have eb : ((ds.map D.py).any fun z => PyData.eqv z x.py) = b := Bool.eq_iff_iff.mpr ((any_eqv sx sds).trans h.symm)
  rw [eb]
  exact q _ S H (Ext.refl e) (.bl b)
theorem rv_niDT {b : Bool} (hx : x.okd 59 = true) (hds : ∀ d ∈ ds, d.okd 59 = true) (sx : x.sm 60 = true) (sds : ∀ d ∈ ds, d.sm 60 = true) (h : b = true ↔ x ∈ ds) : RV K (rNotInDT K) x (.tup ds) (.bl (!b)) := fun S H v u e r1 r2 Q q => by
  have hx60 : x.okd 60 = true := okd_up hx
  have hL : (D.tup ds).okd 60 = true := List.all_eq_true.mpr hds
  have d2 := Rd.dp 60 _ _ hL (r2.mono e)
  have s2 := okd_shaped hL
  have ep : (D.tup ds).py = .tuple (ds.map D.py) := by rw [D.py, pyL_map]
  rw [ep] at d2 s2
  refine ⟨x.py, ds.map D.py, Rd.dp 60 _ _ hx60 (r1.mono e), d2, okd_shaped hx60, s2, ?_⟩
  have eb : ((ds.map D.py).any fun z => PyData.eqv z x.py) = b := Bool.eq_iff_iff.mpr ((any_eqv sx sds).trans h.symm)
  rw [eb]
  exact q _ S H (Ext.refl e) (.bl (!b))
end
/-! ### a loop that raises -/
section
variable {K : PySem.W.Frag} {E : XK} {C : Addr} {t u : TS} {ρ : Rho} {ds : List D}
theorem Up.seqP {N : Rho → Prop} (h : T K t ρ { nx := N }) (k : ∀ ρ', N ρ' → Up K E C u ρ') : Up K E C (tSeq t u) ρ := fun S0 H0 S H σ Dd s q =>
  h S0 H0 S H σ _ s ⟨fun r S' H' σ' e _ s' => k r e S0 H0 S' H' σ' Dd s' q, fun _ _ _ _ z => z.elim, fun _ _ _ _ z => z.elim, fun _ _ _ _ z => z.elim, fun _ _ _ _ _ z => z.elim⟩
theorem Up.for {wi : TI} {g : TG} (hi : EvI K wi ρ ds) (Pv : Nat → Rho → Prop) (h0 : Pv 0 ρ) (hs : ∀ (i : Nat) (d : D) (ρ' : Rho), ds[i]? = some d → Pv i ρ' → ∃ ps, EvG K g d ps ∧ (T K t (setR ρ' ps) { nx := Pv (i + 1), ct := Pv (i + 1) } ∨ Up K E C t (setR ρ' ps)))
    (hd : ∀ ρ', ¬ Pv ds.length ρ') : Up K E C (tFor wi g t) ρ := fun S0 H0 S H σ Dd s q =>
  hi S H σ s.ext.sub s.env _ fun J S1 H1 x1 wk => by
    refine ⟨fun i m σ' H' => m = ds.length - i ∧ i ≤ ds.length ∧ ∃ ρ' S', Pv i ρ' ∧ Ex S1 S' ∧ Stt K S0 H0 ρ' S' H' σ', ⟨ds.length, by simp, Nat.zero_le _, ρ, S1, h0, Ex.refl S1, s.go x1⟩, ?_⟩
    rintro i m σ' H' ⟨rfl, hi, ρ', S', p, e, s'⟩
    by_cases hlt : i < ds.length
    · have hdd : ds[i]? = some ds[i] := List.getElem?_eq_getElem hlt
      obtain ⟨ps, hg, ht⟩ := hs i ds[i] ρ' hdd p
      refine .inr ⟨wk.go S' H' i e s'.ext.sub hlt, fun σ2 H2 => ∃ ρ2 S2, Pv (i + 1) ρ2 ∧ Ex S1 S2 ∧ Stt K S0 H0 ρ2 S2 H2 σ2, fun σ2 H2 z => ⟨ds.length - (i + 1), by omega, rfl, hlt, z⟩, fun xv H'' y => ?_⟩
      obtain ⟨S2, x2, r2⟩ := wk.yld S' H' i xv H'' ds[i] e s'.ext.sub hdd y
      refine hg S2 H'' σ' xv x2.sub r2 _ fun ws rw => ?_
      have e2 : Ex S1 S2 := e.trans x2.s
      rcases ht with ht | ht
      · exact ht S0 H0 S2 H'' _ _ ((s'.go x2).setV rw) ⟨fun ρ3 S3 H3 σ3 n e3 s3 => ⟨ρ3, S3, n, e2.trans e3, s3⟩, fun ρ3 S3 H3 σ3 n => n.elim, fun ρ3 S3 H3 σ3 n e3 s3 => ⟨ρ3, S3, n, e2.trans e3, s3⟩, fun _ _ _ _ z => z.elim, fun _ _ _ _ _ z => z.elim⟩
      · exact ht S0 H0 S2 H'' _ _ ((s'.go x2).setV rw) q
    · have e0 : i = ds.length := by omega
      subst e0
      exact absurd p (hd ρ')
end
/-! ### bars sorted -/
def barLe (a b : Int × Int) : Bool := decide (a.1 < b.1) || (decide (a.1 = b.1) && decide (a.2 ≤ b.2))
theorem barLe_iff {a b : Int × Int} : barLe a b = true ↔ a.1 < b.1 ∨ a.1 = b.1 ∧ a.2 ≤ b.2 := by
  unfold barLe
  rw [Bool.or_eq_true, Bool.and_eq_true, decide_eq_true_eq, decide_eq_true_eq, decide_eq_true_eq]
def sortB (l : List (Int × Int)) : List (Int × Int) := l.mergeSort barLe
theorem sortB_perm (l : List (Int × Int)) : (sortB l).Perm l := List.mergeSort_perm l barLe
theorem barLe_trans (a b c : Int × Int) (h1 : barLe a b = true) (h2 : barLe b c = true) : barLe a c = true := by
  rw [barLe_iff] at h1 h2 ⊢
  omega
theorem barLe_total (a b : Int × Int) : (barLe a b || barLe b a) = true := by
  rw [Bool.or_eq_true, barLe_iff, barLe_iff]
  omega
theorem sortB_rise (l : List (Int × Int)) : (sortB l).Pairwise fun a b => barLe a b = true := List.pairwise_mergeSort barLe_trans barLe_total l
theorem rise_uniq : ∀ {l m : List (Int × Int)}, l.Perm m → (l.Pairwise fun a b => barLe a b = true) → (m.Pairwise fun a b => barLe a b = true) → l = m := fun hp h1 h2 =>
  hp.eq_of_pairwise (fun a b _ _ z1 z2 => by
    rw [barLe_iff] at z1 z2
    exact Prod.ext (by omega) (by omega)) h1 h2
section
variable {K : PySem.W.Frag} {ρ : Rho}
theorem ok_sortPO {X : Cx} (h : X.K = K) : CallR X (.builtin "sorted") (rSortedPO K) := by subst h; exact cr_sortedPO
/-- what the heap says of a pair -/
noncomputable def pairAt (H : Hp) (v : V) : Int × Int := by
  classical
  exact if h : ∃ p : Int × Int, ∃ t, v = V.ref t ∧ H t = some (.tup [.int p.1, .int p.2]) then h.choose else (0, 0)
theorem pairAt_eq {H : Hp} {t : Addr} {a b : Int} (h : H t = some (.tup [.int a, .int b])) : pairAt H (.ref t) = (a, b) := by
  have hx : ∃ p : Int × Int, ∃ t', V.ref t = V.ref t' ∧ H t' = some (.tup [.int p.1, .int p.2]) := ⟨(a, b), t, rfl, h⟩
  unfold pairAt
  rw [dif_pos hx]
  obtain ⟨t', e, e2⟩ := hx.choose_spec
  cases e
  rw [h] at e2
  have e3 := Option.some.inj e2
  injection e3 with e3
  injection e3 with e4 e5
  injection e5 with e5 _
  injection e4 with e4
  injection e5 with e5
  exact Prod.ext e4.symm e5.symm
theorem rc_sortBars {bs : List (Int × Int)} : RCF K (rSortedPO K) [.lst (bs.map barD)] ((sortB bs).map barD) := fun S H vs e r Q q => by
  cases r with
  | cons h t =>
    cases t
    cases h with
    | lst ha rl =>
      rename_i a xs
      have one : ∀ {v : V} {c : Int × Int}, Rd K S v (barD c) → ∃ t, v = .ref t ∧ H t = some (.tup [.int c.1, .int c.2]) := fun {v c} r => by
        cases r with
        | tup hb rb =>
          have z := RdL.ints (ns := [c.1, c.2]) rb
          subst z
          exact ⟨_, rfl, e _ _ hb⟩
      have all : ∀ {xs : List V} {bs : List (Int × Int)}, RdL K S xs (bs.map barD) → xs.map (pairAt H) = bs ∧ ∀ x ∈ xs, Rd K S x (barD (pairAt H x)) := fun {xs bs} r => by
        induction bs generalizing xs with
        | nil => cases r; exact ⟨rfl, fun _ h => nomatch h⟩
        | cons b bs ih =>
          have r : RdL K S xs (barD b :: bs.map barD) := r
          cases r with
          | cons r1 r2 =>
            obtain ⟨t, rfl, ht⟩ := one r1
            obtain ⟨i1, i2⟩ := ih r2
            have ep : pairAt H (.ref t) = b := pairAt_eq ht
            refine ⟨by rw [List.map_cons, i1, ep], fun x hx => ?_⟩
            rcases List.mem_cons.mp hx with rfl | hx
            · rw [ep]
              exact r1
            · exact i2 x hx
      obtain ⟨a1, a2⟩ := all rl
      refine ⟨a, xs, pairAt H, rfl, Evl.sq_of (e _ _ ha), fun x hx => ?_, fun ys p hs hst hp => ?_⟩
      · exact one (a2 x hx)
      · have pm : ys.Perm xs := hst.perm
        have e1 : ys.map (pairAt H) = sortB bs := by
          refine rise_uniq ((pm.map _).trans (by rw [a1]; exact (sortB_perm bs).symm)) ?_ (sortB_rise bs)
          refine List.pairwise_map.mpr (hs.imp fun {x y} z => ?_)
          have z := SrtO.lexB_no.mp z
          rw [barLe_iff]
          omega
        have rl2 : RdL K S ys ((sortB bs).map barD) := by
          rw [← e1, List.map_map]
          have hall : ∀ x ∈ ys, Rd K S x (barD (pairAt H x)) := fun x hx => a2 x (pm.mem_iff.mp hx)
          clear hs hst pm e1
          induction ys with
          | nil => exact .nil
          | cons y ys ih => exact .cons (hall y List.mem_cons_self) (ih fun x hx => hall x (List.mem_cons_of_mem _ hx))
        exact q p ys S _ (Ext.hid e hp) hp (sub_none e hp) upd_same rl2
end
end Pl

/-! Steps: what each makes of the bars, which can be taken, plans that go. -/
namespace Pl
open PySem PySem.Spec PyProof.Rows L2
/-! ### what a written table says -/
def gotV : Option Int → V
  | some i => .int i
  | none => .non
def gotB (K : PySem.W.Frag) (a : Addr) (l : List (Str × Option Int)) : Bool := l.all fun p => match PySem.W.nsIn K a p.1, p.2 with
  | some (some (.int i _)), some j => decide (i = j)
  | some none, none => true
  | _, _ => false
theorem gotB_ok {K : PySem.W.Frag} {w : World} {a : Addr} {l : List (Str × Option Int)} (h : gotB K a l = true) (hd : ∃ es n, KDict K w a es n) : ∀ p ∈ l, KGot K w a p.1 (gotV p.2) := fun p hp => by
  obtain ⟨es, n, D⟩ := hd
  have z := List.all_eq_true.mp h p hp
  obtain ⟨x, o⟩ := p
  cases e : PySem.W.nsIn K a x with
  | none =>
    rw [e] at z
    cases z
  | some r =>
    rw [e] at z
    cases r with
    | none =>
      cases o with
      | none => exact ⟨es, n, none, D, e, rfl⟩
      | some j => cases z
    | some u =>
      cases o with
      | none => cases u <;> cases z
      | some j =>
        cases u with
        | int i t =>
          have z := of_decide_eq_true z
          subst z
          exact ⟨es, n, _, D, e, ⟨t, rfl⟩⟩
        | _ => cases z
/-! ### steps -/
def wordOf : Nat → Str
  | 2 => "bar"
  | 3 => "two"
  | _ => "three"
def stepD (js : List Nat) : D := .tup (.str (wordOf js.length) :: nD js)
def loB (a b : Nat) : Fr.Bar := (min a b, max a b)
def isJt (rows : List Fr.Bar) (k : Nat) : Bool := rows.any fun b => decide (b.1 = k) || decide (b.2 = k)
theorem isJt_iff {rows : List Fr.Bar} {k : Nat} : isJt rows k = true ↔ ∃ b ∈ rows, b.1 = k ∨ b.2 = k := by
  unfold isJt
  rw [List.any_eq_true]
  constructor
  · rintro ⟨b, hb, h⟩
    exact ⟨b, hb, by simpa using h⟩
  · rintro ⟨b, hb, h⟩
    exact ⟨b, hb, by simpa using h⟩
def jtsL (n : Nat) (rows : List Fr.Bar) : List Nat := (List.range n).filter (isJt rows)
theorem jtsL_mem {n : Nat} {rows : List Fr.Bar} {k : Nat} : k ∈ jtsL n rows ↔ k < n ∧ isJt rows k = true := by
  unfold jtsL
  rw [List.mem_filter, List.mem_range]
theorem jtsL_nodup {n : Nat} {rows : List Fr.Bar} : (jtsL n rows).Nodup := List.Pairwise.filter _ List.nodup_range
theorem jtsL_rise {n : Nat} {rows : List Fr.Bar} : (jtsL n rows).Pairwise (· < ·) := List.Pairwise.filter _ List.pairwise_lt_range
theorem jtsL_len {n : Nat} {rows : List Fr.Bar} : (jtsL n rows).length ≤ n := Nat.le_trans (List.length_filter_le _ _) (by rw [List.length_range]; exact Nat.le_refl n)
def okStep (n : Nat) (js : List Nat) : Bool := (decide (2 ≤ js.length) && decide (js.length ≤ 4)) && (js.all (fun k => decide (k < n)) && decide js.Nodup)
theorem okStep_iff {n : Nat} {js : List Nat} : okStep n js = true ↔ (2 ≤ js.length ∧ js.length ≤ 4) ∧ (∀ k ∈ js, k < n) ∧ js.Nodup := by
  unfold okStep
  rw [Bool.and_eq_true, Bool.and_eq_true, Bool.and_eq_true, decide_eq_true_eq, decide_eq_true_eq, decide_eq_true_eq, List.all_eq_true]
  constructor
  · exact fun h => ⟨h.1, fun k hk => of_decide_eq_true (h.2.1 k hk), h.2.2⟩
  · exact fun h => ⟨h.1, fun k hk => decide_eq_true (h.2.1 k hk), h.2.2⟩
def mayB (rows : List Fr.Bar) : List Nat → Bool
  | [_, _] => rows.isEmpty
  | [v, a, b] => !isJt rows v && (isJt rows a && isJt rows b)
  | [v, a, b, c] => (!isJt rows v && (isJt rows a && (isJt rows b && isJt rows c))) && decide (loB a b ∈ rows)
  | _ => false
def stepRows (rows : List Fr.Bar) : List Nat → List Fr.Bar
  | [a, b] => rows ++ [loB a b]
  | [v, a, b] => rows ++ [loB v a, loB v b]
  | [v, a, b, c] => rows.erase (loB a b) ++ [loB v a, loB v b, loB v c]
  | _ => rows
theorem loB_comm (a b : Nat) : loB a b = loB b a := by
  unfold loB
  rw [Nat.min_comm, Nat.max_comm]
theorem loB_ends {a b k : Nat} : ((loB a b).1 = k ∨ (loB a b).2 = k) ↔ k = a ∨ k = b := by
  unfold loB
  show min a b = k ∨ max a b = k ↔ _
  omega
theorem loB_ok {n a b : Nat} (ha : a < n) (hb : b < n) (ne : a ≠ b) : (loB a b).1 < n ∧ (loB a b).2 < n ∧ (loB a b).1 ≠ (loB a b).2 := by
  unfold loB
  show min a b < n ∧ max a b < n ∧ min a b ≠ max a b
  omega
theorem isJt_app {rs ss : List Fr.Bar} {k : Nat} : isJt (rs ++ ss) k = (isJt rs k || isJt ss k) := by
  unfold isJt
  rw [List.any_append]
theorem isJt_nil {k : Nat} : isJt [] k = false := rfl
theorem isJt_lo {ps : List (Nat × Nat)} {k : Nat} : isJt (ps.map fun p => loB p.1 p.2) k = true ↔ ∃ p ∈ ps, k = p.1 ∨ k = p.2 := by
  rw [isJt_iff]
  constructor
  · rintro ⟨b, hb, h⟩
    obtain ⟨p, hp, rfl⟩ := List.mem_map.mp hb
    exact ⟨p, hp, loB_ends.mp h⟩
  · rintro ⟨p, hp, h⟩
    exact ⟨_, List.mem_map_of_mem hp, loB_ends.mpr h⟩
/-- the joints after a step that can be taken: those ahead, and the step's own -/
theorem isJt_step {rows : List Fr.Bar} {js : List Nat} {k : Nat} (h : mayB rows js = true) : isJt (stepRows rows js) k = true ↔ isJt rows k = true ∨ k ∈ js := by
  unfold mayB at h
  unfold stepRows
  split at h
  · rename_i a b
    rw [List.isEmpty_iff] at h
    subst h
    rw [List.nil_append, (show isJt [loB a b] k = true ↔ _ from isJt_lo (ps := [(a, b)]))]
    simp [isJt_nil]
  · rename_i v a b
    simp only [isJt_app, Bool.or_eq_true, Bool.and_eq_true] at h ⊢
    rw [(show isJt [loB v a, loB v b] k = true ↔ _ from isJt_lo (ps := [(v, a), (v, b)]))]
    simp only [List.mem_cons, List.not_mem_nil, or_false, exists_eq_or_imp, exists_eq_left]
    constructor
    · rintro (h | h | h)
      · exact .inl h
      · exact .inr (by omega)
      · exact .inr (by omega)
    · rintro (h | h)
      · exact .inl h
      · exact .inr (by omega)
  · rename_i v a b c
    simp only [isJt_app, Bool.or_eq_true, Bool.and_eq_true] at h ⊢
    rw [(show isJt [loB v a, loB v b, loB v c] k = true ↔ _ from isJt_lo (ps := [(v, a), (v, b), (v, c)]))]
    simp only [List.mem_cons, List.not_mem_nil, or_false, exists_eq_or_imp, exists_eq_left]
    constructor
    · rintro (z | z | z | z)
      · obtain ⟨x, hx, e⟩ := isJt_iff.mp z
        exact .inl (isJt_iff.mpr ⟨x, List.mem_of_mem_erase hx, e⟩)
      · exact .inr (by omega)
      · exact .inr (by omega)
      · exact .inr (by omega)
    · rintro (z | z)
      · obtain ⟨x, hx, e⟩ := isJt_iff.mp z
        by_cases q : x = loB a b
        · subst q
          have := loB_ends.mp e
          exact .inr (by omega)
        · exact .inl (isJt_iff.mpr ⟨x, (List.mem_erase_of_ne q).mpr hx, e⟩)
      · exact .inr (by omega)
  · cases h
theorem ok_step {n : Nat} {rows : List Fr.Bar} {js : List Nat} (ok : Fr.Ok n rows) (h : okStep n js = true) : Fr.Ok n (stepRows rows js) := by
  obtain ⟨_, h2, h3⟩ := okStep_iff.mp h
  have pair : ∀ {a b}, a ∈ js → b ∈ js → a ≠ b → ∀ x ∈ [loB a b], x.1 < n ∧ x.2 < n ∧ x.1 ≠ x.2 := fun ha hb ne x hx => by
    rw [List.mem_singleton.mp hx]
    exact loB_ok (h2 _ ha) (h2 _ hb) ne
  unfold stepRows
  clear h
  split
  · rename_i a b _
    intro x hx
    rcases List.mem_append.mp hx with hx | hx
    · exact ok x hx
    · exact pair (a := a) (b := b) (by simp) (by simp) (by simpa using h3) x hx
  · rename_i v a b _
    simp only [List.nodup_cons, List.mem_cons, List.not_mem_nil, or_false, not_or, not_false_eq_true, List.nodup_nil, and_true] at h3
    intro x hx
    rcases List.mem_append.mp hx with hx | hx
    · exact ok x hx
    · simp only [List.mem_cons, List.not_mem_nil, or_false] at hx
      rcases hx with rfl | rfl
      · exact loB_ok (h2 _ (by simp)) (h2 _ (by simp)) h3.1.1
      · exact loB_ok (h2 _ (by simp)) (h2 _ (by simp)) h3.1.2
  · rename_i v a b c
    simp only [List.nodup_cons, List.mem_cons, List.not_mem_nil, or_false, not_or, not_false_eq_true, List.nodup_nil, and_true] at h3
    intro x hx
    rcases List.mem_append.mp hx with hx | hx
    · exact ok x (List.mem_of_mem_erase hx)
    · simp only [List.mem_cons, List.not_mem_nil, or_false] at hx
      rcases hx with rfl | rfl | rfl
      · exact loB_ok (h2 _ (by simp)) (h2 _ (by simp)) h3.1.1
      · exact loB_ok (h2 _ (by simp)) (h2 _ (by simp)) h3.1.2.1
      · exact loB_ok (h2 _ (by simp)) (h2 _ (by simp)) h3.1.2.2
  · exact ok
theorem step_len {rows : List Fr.Bar} {js : List Nat} : (stepRows rows js).length ≤ rows.length + 3 := by
  unfold stepRows
  split
  · rw [List.length_append]
    exact Nat.add_le_add_left (Nat.le_of_ble_eq_true rfl) _
  · rw [List.length_append]
    exact Nat.add_le_add_left (Nat.le_of_ble_eq_true rfl) _
  · rw [List.length_append]
    exact Nat.add_le_add_right List.length_erase_le _
  · omega
/-- a plan from these bars to those -/
inductive Goes (n : Nat) : List Fr.Bar → List (List Nat) → List Fr.Bar → Prop
  | nil {rows : List Fr.Bar} : Goes n rows [] rows
  | cons {rows out : List Fr.Bar} {js : List Nat} {r : List (List Nat)} (h1 : okStep n js = true) (h2 : mayB rows js = true) (h3 : Goes n (stepRows rows js) r out) : Goes n rows (js :: r) out
theorem Goes.app {n : Nat} {rows mid out : List Fr.Bar} {p q : List (List Nat)} (h : Goes n rows p mid) (h2 : Goes n mid q out) : Goes n rows (p ++ q) out := by
  induction h with
  | nil => exact h2
  | cons a b _ ih => exact .cons a b (ih h2)
theorem Goes.split {n : Nat} {out : List Fr.Bar} : ∀ {p q : List (List Nat)} {rows : List Fr.Bar}, Goes n rows (p ++ q) out → ∃ mid, Goes n rows p mid ∧ Goes n mid q out
  | [], q, rows, h => ⟨rows, .nil, h⟩
  | js :: p, q, rows, h => by
    have h : Goes n rows (js :: (p ++ q)) out := h
    cases h with
    | cons a b c =>
      obtain ⟨mid, z1, z2⟩ := Goes.split c
      exact ⟨mid, .cons a b z1, z2⟩
theorem Goes.ok {n : Nat} {rows out : List Fr.Bar} {p : List (List Nat)} (h : Goes n rows p out) (ok : Fr.Ok n rows) : Fr.Ok n out := by
  induction h with
  | nil => exact ok
  | cons a b _ ih => exact ih (ok_step ok a)
theorem Goes.len {n : Nat} {rows out : List Fr.Bar} {p : List (List Nat)} (h : Goes n rows p out) : out.length ≤ rows.length + 3 * p.length := by
  induction h with
  | nil => simp
  | cons a b _ ih =>
    rename_i rows out js r _
    have := step_len (rows := rows) (js := js)
    rw [List.length_cons]
    omega
theorem Goes.jt {n : Nat} {rows out : List Fr.Bar} {p : List (List Nat)} {k : Nat} (h : Goes n rows p out) : isJt out k = true ↔ isJt rows k = true ∨ ∃ js ∈ p, k ∈ js := by
  induction h with
  | nil => simp
  | cons a b _ ih =>
    rw [ih, isJt_step b]
    simp only [List.mem_cons, exists_eq_or_imp]
    rw [or_assoc]
theorem Goes.steps {n : Nat} {rows out : List Fr.Bar} {p : List (List Nat)} (h : Goes n rows p out) : ∀ js ∈ p, okStep n js = true := by
  induction h with
  | nil => exact fun _ h => nomatch h
  | cons a _ _ ih =>
    intro js hj
    rcases List.mem_cons.mp hj with rfl | hj
    · exact a
    · exact ih js hj
/-- one more joint by each step -/
theorem jts_step {n : Nat} {rows : List Fr.Bar} {js : List Nat} (h : mayB rows js = true) : (jtsL n (stepRows rows js)).length ≤ (jtsL n rows).length + (if rows = [] then 2 else 1) := by
  have sub : ∀ l : List Nat, (∀ k, k ∈ js → isJt rows k = true ∨ k ∈ l) → (jtsL n (stepRows rows js)).length ≤ (jtsL n rows).length + l.length := fun l hl => by
    rw [← List.length_append]
    refine List.Nodup.length_le_of_subset jtsL_nodup fun k hk => ?_
    obtain ⟨k1, k2⟩ := jtsL_mem.mp hk
    rcases (isJt_step h).mp k2 with k2 | k2
    · exact List.mem_append_left _ (jtsL_mem.mpr ⟨k1, k2⟩)
    · rcases hl k k2 with z | z
      · exact List.mem_append_left _ (jtsL_mem.mpr ⟨k1, z⟩)
      · exact List.mem_append_right _ z
  have h0 := h
  unfold mayB at h
  split at h
  · rename_i a b
    rw [List.isEmpty_iff] at h
    rw [if_pos h]
    exact sub [a, b] fun k hk => .inr hk
  · rename_i v a b
    simp only [Bool.and_eq_true] at h
    have hne : rows ≠ [] := fun z => by
      rw [z, isJt_nil] at h
      cases h.2.1
    rw [if_neg hne]
    exact sub [v] fun k hk => by
      simp only [List.mem_cons, List.not_mem_nil, or_false] at hk ⊢
      rcases hk with rfl | rfl | rfl
      · exact .inr rfl
      · exact .inl h.2.1
      · exact .inl h.2.2
  · rename_i v a b c
    simp only [Bool.and_eq_true] at h
    have hne : rows ≠ [] := fun z => by
      rw [z, isJt_nil] at h
      cases h.1.2.1
    rw [if_neg hne]
    exact sub [v] fun k hk => by
      simp only [List.mem_cons, List.not_mem_nil, or_false] at hk ⊢
      rcases hk with rfl | rfl | rfl | rfl
      · exact .inr rfl
      · exact .inl h.1.2.1
      · exact .inl h.1.2.2.1
      · exact .inl h.1.2.2.2
  · cases h
theorem stepRows_ne {rows : List Fr.Bar} {js : List Nat} (h : mayB rows js = true) : stepRows rows js ≠ [] := by
  unfold mayB at h
  unfold stepRows
  split at h
  · simp
  · simp
  · simp
  · cases h
theorem Goes.few {n : Nat} {rows out : List Fr.Bar} {p : List (List Nat)} (h : Goes n rows p out) : (jtsL n out).length ≤ (jtsL n rows).length + p.length + (if rows = [] then (if p = [] then 0 else 1) else 0) := by
  induction h with
  | nil => simp
  | cons a b c ih =>
    rename_i rows out js r
    have h1 := jts_step (n := n) b
    rw [if_neg (stepRows_ne b)] at ih
    rw [List.length_cons]
    by_cases z : rows = []
    · rw [if_pos z] at h1 ⊢
      rw [if_neg (by simp)]
      omega
    · rw [if_neg z] at h1 ⊢
      omega
theorem jtsL_nil {n : Nat} : jtsL n [] = [] := List.filter_eq_nil_iff.mpr fun _ _ => by simp [isJt_nil]
/-! ### what can't be taken -/
/-- whether a datum is a step -/
inductive StepD (n : Nat) : D → Bool → Prop
  | noTup {d : D} (h : d.kind = "NoneType" ∨ d.kind = "int" ∨ d.kind = "list") : StepD n d false
  | badWord {x : D} {ds : List D} (h : x.kind = "list" ∨ x = .dc [] []) (hl : ds.length ≤ 10) : StepD n (.tup (x :: ds)) false
  | badLen {x : Str} {o : Option Int} {ds : List D} (hx : (x, o) ∈ [(("bar" : Str), some (3 : Int)), ("two", some 4), ("three", some 5), ("Two", none)]) (h : o ≠ some (ds.length + 1 : Int)) (hl : ds.length ≤ 10) : StepD n (.tup (.str x :: ds)) false
  | joints {x : Str} {ds : List D} {bs : List Bool} (hx : (x, some (ds.length + 1 : Int)) ∈ [(("bar" : Str), some (3 : Int)), ("two", some 4), ("three", some 5)]) (hl : ds.length ≤ 10) (h : ds.length = bs.length) (hj : ∀ (i : Nat) (d : D) (b : Bool), ds[i]? = some d → bs[i]? = some b → JD (n : Int) d b) (hb : bs.all id = false) : StepD n (.tup (.str x :: ds)) false
  | nats {js : List Nat} (h1 : 2 ≤ js.length) (h2 : js.length ≤ 4) : StepD n (stepD js) (okStep n js)
/-- no step, or one that can't be taken there -/
def BadAt (n : Nat) (rows : List Fr.Bar) (d : D) : Prop := StepD n d false ∨ ∃ js, d = stepD js ∧ okStep n js = true ∧ mayB rows js = false
inductive Fails (n : Nat) : List Fr.Bar → List D → Prop
  | here {rows : List Fr.Bar} {d : D} {ds : List D} (h : BadAt n rows d) : Fails n rows (d :: ds)
  | next {rows : List Fr.Bar} {js : List Nat} {ds : List D} (h1 : okStep n js = true) (h2 : mayB rows js = true) (h3 : Fails n (stepRows rows js) ds) : Fails n rows (stepD js :: ds)
theorem Fails.after {n : Nat} {rows mid : List Fr.Bar} {p : List (List Nat)} {ds : List D} (h : Goes n rows p mid) (f : Fails n mid ds) : Fails n rows (p.map stepD ++ ds) := by
  induction h with
  | nil => exact f
  | cons a b _ ih => exact .next a b (ih f)
/-- steps either go, or fail -/
theorem goes_or {n : Nat} : ∀ {p : List (List Nat)} {rows : List Fr.Bar}, (∀ js ∈ p, okStep n js = true) → (∃ out, Goes n rows p out) ∨ Fails n rows (p.map stepD)
  | [], rows, _ => .inl ⟨rows, .nil⟩
  | js :: p, rows, h => by
    have h1 := h js List.mem_cons_self
    cases h2 : mayB rows js with
    | false => exact .inr (.here (.inr ⟨js, rfl, h1, h2⟩))
    | true =>
      rcases goes_or (p := p) (rows := stepRows rows js) fun x hx => h x (List.mem_cons_of_mem _ hx) with ⟨out, g⟩ | f
      · exact .inl ⟨out, .cons h1 h2 g⟩
      · exact .inr (.next h1 h2 f)
/-- the steps are refused: one of them can't be taken, or they build too few joints -/
inductive Rfs (n : Nat) : List D → Prop
  | fails {ds : List D} (h : Fails n [] ds) : Rfs n ds
  | few {p : List (List Nat)} {out : List Fr.Bar} (h : Goes n [] p out) (h1 : 1 < n) (h2 : (jtsL n out).length < n) : Rfs n (p.map stepD)
theorem rfs_short {n : Nat} {p : List (List Nat)} (h : ∀ js ∈ p, okStep n js = true) (h1 : 1 < n) (hl : p.length + 1 < n) : Rfs n (p.map stepD) := by
  rcases goes_or (rows := []) h with ⟨out, g⟩ | f
  · refine .few g h1 ?_
    have := g.few
    rw [jtsL_nil, if_pos rfl] at this
    by_cases z : p = []
    · rw [if_pos z, List.length_nil] at this
      omega
    · rw [if_neg z, List.length_nil] at this
      omega
  · exact .fails f
/-- a step that was just taken can't be taken again -/
theorem may_again {rows : List Fr.Bar} {js : List Nat} (h : mayB rows js = true) : mayB (stepRows rows js) js = false := by
  have k := fun k => (isJt_step (k := k) h)
  have hne := stepRows_ne h
  have h0 := h
  unfold mayB at h0
  split at h0
  · unfold mayB
    rw [← Bool.not_eq_true, List.isEmpty_iff]
    exact hne
  · rename_i v a b
    have := (k v).mpr (.inr (by simp))
    show (!isJt (stepRows rows [v, a, b]) v && _) = false
    rw [this]
    rfl
  · rename_i v a b c
    have := (k v).mpr (.inr (by simp))
    show ((!isJt (stepRows rows [v, a, b, c]) v && _) && _) = false
    rw [this]
    rfl
  · cases h0
end Pl

/-! min and max of two, not xs, a tuple as a test, steps as data, three texts as one. -/
namespace Pl
open PySem PySem.Spec PyProof.Rows L2
open Evl (Ex)
section
variable {K : PySem.W.Frag} {ρ : Rho} {te t1 t2 t3 : TE} {ds : List D}
abbrev rMin2 : List V → Hp → VK → Prop := fun xs H Q => ∃ i j, xs = [V.int i, V.int j] ∧ Q (.int (if j < i then j else i)) H
abbrev rMax2 : List V → Hp → VK → Prop := fun xs H Q => ∃ i j, xs = [V.int i, V.int j] ∧ Q (.int (if j > i then j else i)) H
theorem rc_min2 {i j : Int} : RC K rMin2 [.int i, .int j] (.int (min i j)) := fun S H vs e r Q q => by
  cases r with
  | cons h t =>
    cases t with
    | cons h2 t2 =>
      cases t2
      cases h
      cases h2
      refine ⟨i, j, rfl, ?_⟩
      have : (if j < i then j else i) = min i j := by
        by_cases h : j < i
        · rw [if_pos h]; omega
        · rw [if_neg h]; omega
      rw [this]
      exact q _ S H (Ext.refl e) (.int _)
theorem rc_max2 {i j : Int} : RC K rMax2 [.int i, .int j] (.int (max i j)) := fun S H vs e r Q q => by
  cases r with
  | cons h t =>
    cases t with
    | cons h2 t2 =>
      cases t2
      cases h
      cases h2
      refine ⟨i, j, rfl, ?_⟩
      have : (if j > i then j else i) = max i j := by
        by_cases h : j > i
        · rw [if_pos h]; omega
        · rw [if_neg h]; omega
      rw [this]
      exact q _ S H (Ext.refl e) (.int _)
theorem rc_isiDc {ks : List L2.Key} {T : String} {b : Bool} (h : kitB "dict" T = some b) : RC K (rIsi K) [.dc ks ds, .ty T] (.bl b) := fun S H vs e r Q q => by
  cases r with
  | cons h1 t1 =>
    cases t1 with
    | cons h2 t2 =>
      cases t2
      cases h2
      cases h1 with
      | dc ha _ _ => exact ⟨_, _, .type "dict", _, b, rfl, .ty T, .base (.dK (e _ _ ha)), kit_ty h, q _ S H (Ext.refl e) (.bl b)⟩
theorem ok_notT {X : Cx} {a : Expr} {ta : TE} {pos : Pos} (h : X.K = K) (ha : PE X a ta) : PE X (.UnaryOp .Not a pos) (tNotT K ta) := by subst h; exact pe_notT ha
theorem ev_notL (h : EvD K te ρ (.lst ds)) : EvD K (tNotT K te) ρ (.bl ds.isEmpty) := fun S H σ e v Q q =>
  h S H σ e v _ fun w S1 H1 x1 r1 => by
    cases r1 with
    | lst ha rl =>
      refine ⟨!ds.isEmpty, .inl ⟨_, Evl.sq_of (x1.sub _ _ ha), ?_⟩, ?_⟩
      · cases rl <;> rfl
      · rw [Bool.not_not]
        exact q _ S1 H1 x1 (.bl _)
theorem et_truT (h : EvD K te ρ (.tup ds)) : EvT K (fun σ H Q => te σ H fun x H' => ∃ k, TruV K x H' k ∧ Q k H') ρ (!ds.isEmpty) := fun S H σ e v Q q =>
  h S H σ e v _ fun w S1 H1 x1 r1 => by
    cases r1 with
    | tup ha rl =>
      refine ⟨!ds.isEmpty, .inr (.inl ⟨_, Evl.st_of (x1.sub _ _ ha), ?_⟩), q S1 H1 x1⟩
      cases rl <;> rfl
theorem loB_bar (a b : Nat) : D.tup [.int (min (a : Int) (b : Int)), .int (max (a : Int) (b : Int))] = barD (bI (loB a b)) := by
  have h1 : min (a : Int) (b : Int) = ((min a b : Nat) : Int) := by omega
  have h2 : max (a : Int) (b : Int) = ((max a b : Nat) : Int) := by omega
  rw [h1, h2]
  rfl
/-- (min(x, y), max(x, y)) -/
theorem ev_loB {a b : Nat} (h1 : EvD K t1 ρ (.int (a : Int))) (h2 : EvD K t2 ρ (.int (b : Int))) : EvD K (tTup (tCons (tCB rMin2 (tCons t1 (tCons t2 tNil))) (tCons (tCB rMax2 (tCons t1 (tCons t2 tNil))) tNil))) ρ (barD (bI (loB a b))) :=
  EvD.to (ev_tup (ea_cons (ev_cb (ea_cons h1 (ea_cons h2 ea_nil)) rc_min2) (ea_cons (ev_cb (ea_cons h1 (ea_cons h2 ea_nil)) rc_max2) ea_nil)) (Nat.le_of_ble_eq_true rfl)) (loB_bar a b)
theorem rv_eqStr {x y : Str} (hx : PyData.strOk x = true) (hy : PyData.strOk y = true) : RV K (rEqD K) (.str x) (.str y) (.bl (decide (x = y))) := rv_eqS hx hy rfl rfl (by rw [decide_eq_true_eq]; exact ⟨congrArg D.str, fun e => D.str.inj e⟩)
/-- f'..{i}..' as an argument: some text -/
theorem ev_fstr {x y : Str} {i : Int} (h1 : EvD K t1 ρ (.str x)) (h2 : EvD K t2 ρ (.int i)) (h3 : EvD K t3 ρ (.str y)) (hi : i.natAbs.log2 < 1920) (a1 : (Str.empty ++ x).length ≤ sizeLine) (a2 : (Str.empty ++ x ++ toString i).length ≤ sizeLine) (a3 : (Str.empty ++ x ++ toString i ++ y).length ≤ sizeLine) :
    EvD K (fun σ H Q => tJs [t1, tFmt t2, t3] Str.empty σ H fun out H1 => Q (.str out) H1) ρ (.str (Str.empty ++ x ++ toString i ++ y)) := fun S H σ e v Q q =>
  h1 S H σ e v _ fun w1 S1 H1 x1 r1 => by
    cases r1
    refine ⟨x, rfl, a1, h2 S1 H1 σ x1.sub (v.mono x1.s) _ fun w2 S2 H2 x2 r2 => ?_⟩
    cases r2
    refine .inr ⟨i, rfl, hi, toString i, rfl, a2, h3 S2 H2 σ x2.sub (v.mono (x1.s.trans x2.s)) _ fun w3 S3 H3 x3 r3 => ?_⟩
    cases r3
    exact ⟨y, rfl, a3, q _ S3 H3 ((x1.trans x2).trans x3) (.str _)⟩
end
section
variable {K : PySem.W.Frag} {E : XK} {C : Addr} {ρ : Rho} {te : TE} {d : D}
theorem Up.raiseE (h : EvD K te ρ d) : Up K E C (fun _ σ H => te σ H fun _ H1 => E (.ref C) none H1) ρ := fun S0 H0 S H σ Dd s q =>
  h S H σ s.ext.sub s.env _ fun v S' H' x r => q S' H' (s.ext.trans x)
end
/-! ### steps as data -/
theorem wordOf_ok (k : Nat) : PyData.strOk (wordOf k) = true := by
  unfold wordOf
  split <;> decide +kernel
theorem stepD_okd (js : List Nat) (n : Nat) : (stepD js).okd (n + 1) = true := List.all_eq_true.mpr fun d hd => by
  rcases List.mem_cons.mp hd with rfl | hd
  · cases n <;> exact wordOf_ok _
  · obtain ⟨i, _, rfl⟩ := List.mem_map.mp hd
    cases n <;> rfl
theorem stepD_sm (js : List Nat) (n : Nat) : (stepD js).sm (n + 1) = true := List.all_eq_true.mpr fun d hd => by
  rcases List.mem_cons.mp hd with rfl | hd
  · cases n <;> rfl
  · obtain ⟨i, _, rfl⟩ := List.mem_map.mp hd
    cases n <;> rfl
theorem nD_inj {a b : List Nat} (h : nD a = nD b) : a = b := by
  have : a.map (fun k : Nat => (k : Int)) = b.map fun k : Nat => (k : Int) := by
    rw [nD_kI, nD_kI] at h
    exact map_int_inj.mp h
  exact (List.map_inj_right (fun x y e => by omega)).mp this
theorem stepD_inj {a b : List Nat} (h : stepD a = stepD b) : a = b := by
  unfold stepD at h
  injection h with h
  injection h with _ h
  exact nD_inj h
theorem steps_okd (p : List (List Nat)) : (D.lst (p.map stepD)).okd 60 = true := List.all_eq_true.mpr fun d hd => by
  obtain ⟨js, _, rfl⟩ := List.mem_map.mp hd
  exact stepD_okd js 58
theorem steps_sm (p : List (List Nat)) : (D.lst (p.map stepD)).sm 60 = true := List.all_eq_true.mpr fun d hd => by
  obtain ⟨js, _, rfl⟩ := List.mem_map.mp hd
  exact stepD_sm js 58
theorem okStep_cases {n : Nat} {js : List Nat} (h : okStep n js = true) : (∃ a b, js = [a, b]) ∨ (∃ v a b, js = [v, a, b]) ∨ ∃ v a b c, js = [v, a, b, c] := by
  obtain ⟨⟨h1, h2⟩, _⟩ := okStep_iff.mp h
  match js, h1, h2 with
  | [a, b], _, _ => exact .inl ⟨a, b, rfl⟩
  | [v, a, b], _, _ => exact .inr (.inl ⟨v, a, b, rfl⟩)
  | [v, a, b, c], _, _ => exact .inr (.inr ⟨v, a, b, c, rfl⟩)
theorem may_cases {rows : List Fr.Bar} {js : List Nat} (h : mayB rows js = true) : (∃ a b, js = [a, b] ∧ rows = []) ∨ (∃ v a b, js = [v, a, b] ∧ isJt rows v = false ∧ isJt rows a = true ∧ isJt rows b = true) ∨ ∃ v a b c, js = [v, a, b, c] ∧ isJt rows v = false ∧ isJt rows a = true ∧ isJt rows b = true ∧ isJt rows c = true ∧ loB a b ∈ rows := by
  unfold mayB at h
  split at h
  · exact .inl ⟨_, _, rfl, List.isEmpty_iff.mp h⟩
  · rename_i v a b
    simp only [Bool.and_eq_true, Bool.not_eq_true'] at h
    exact .inr (.inl ⟨v, a, b, rfl, h.1, h.2.1, h.2.2⟩)
  · rename_i v a b c
    simp only [Bool.and_eq_true, Bool.not_eq_true', decide_eq_true_eq] at h
    exact .inr (.inr ⟨v, a, b, c, rfl, h.1.1, h.1.2.1, h.1.2.2.1, h.1.2.2.2, h.2⟩)
  · cases h
theorem jt_lt {n : Nat} {rows : List Fr.Bar} (ok : Fr.Ok n rows) {k : Nat} (h : isJt rows k = true) : k < n := by
  obtain ⟨b, hb, e⟩ := isJt_iff.mp h
  obtain ⟨o1, o2, _⟩ := ok b hb
  omega
end Pl

/-! Parts of tuples. -/
namespace Pl
open PySem PySem.Spec PyProof.Rows L2
section
variable {K : PySem.W.Frag} {ρ : Rho} {te t1 t2 : TE} {ds : List D} {a b : Nat}
theorem ev_slFrom (h : EvD K te ρ (.tup ds)) (h1 : EvD K t1 ρ (.int (a : Int))) (ha : 0 < a) (hd : 0 < ds.length) : EvD K (tSl (rSl K) te (tPart t1) tNoPart) ρ (.tup (ds.drop a)) :=
  EvD.to (ev_slT h (eo_some h1) eo_no (fun z => by rw [HT.sIx_nat] at z; omega)) (by rw [cut_from])
theorem ev_slTo (h : EvD K te ρ (.tup ds)) (h1 : EvD K t1 ρ (.int (b : Int))) (hb : b < ds.length) : EvD K (tSl (rSl K) te tNoPart (tPart t1)) ρ (.tup (ds.take b)) :=
  EvD.to (ev_slT h eo_no (eo_some h1) (fun z => by rw [HT.sIx_nat] at z; omega)) (by rw [cut_to])
theorem cut_mid (xs : List D) (a b : Nat) (hb : b ≤ xs.length) (hab : a ≤ b) : cutD xs (some (a : Int)) (some (b : Int)) = (xs.drop a).take (b - a) := by
  unfold cutD
  rw [HT.sIx_nat, HT.sIx_nat, Nat.min_eq_left hb, Nat.min_eq_left (by omega)]
theorem ev_slMid (h : EvD K te ρ (.tup ds)) (h1 : EvD K t1 ρ (.int (a : Int))) (h2 : EvD K t2 ρ (.int (b : Int))) (ha : 0 < a) (hab : a ≤ b) (hb : b ≤ ds.length) (hd : 0 < ds.length) : EvD K (tSl (rSl K) te (tPart t1) (tPart t2)) ρ (.tup ((ds.drop a).take (b - a))) :=
  EvD.to (ev_slT h (eo_some h1) (eo_some h2) (fun z => by rw [HT.sIx_nat] at z; omega)) (by rw [cut_mid _ _ _ hb hab])
theorem sIx_last (n d : Nat) (h : 0 < n) : HT.sIx n d (some (-1)) = n - 1 := by
  unfold HT.sIx
  simp only []
  first
    | (rw [if_pos (by omega)]; omega)
    | omega
theorem ev_slLast (h : EvD K te ρ (.tup ds)) (h1 : EvD K t1 ρ (.int (-1))) (hd : 0 < ds.length) : EvD K (tSl (rSl K) te tNoPart (tPart t1)) ρ (.tup (ds.take (ds.length - 1))) :=
  EvD.to (ev_slT h eo_no (eo_some h1) (fun z => by rw [sIx_last _ _ hd] at z; omega)) (by
    unfold cutD
    rw [HT.sIx_none, sIx_last _ _ hd, List.drop_zero, Nat.sub_zero])
/-- (min(xs), max(xs)) of a list of two, of a tuple of two -/
theorem ev_loL {x y : Nat} (h : EvD K te ρ (.lst (nD [x, y]))) : EvD K (tTup (tCons (tCB (rMin K) (tCons te tNil)) (tCons (tCB (rMax K) (tCons te tNil)) tNil))) ρ (barD (bI (loB x y))) := by
  have h : EvD K te ρ (.lst ([(x : Int), (y : Int)].map D.int)) := h
  refine EvD.to (ev_tup (ea_cons (ev_cb (ea_cons h ea_nil) (rc_min (m := min (x : Int) (y : Int)) ?_ ?_)) (ea_cons (ev_cb (ea_cons h ea_nil) (rc_max (m := max (x : Int) (y : Int)) ?_ ?_)) ea_nil)) (Nat.le_of_ble_eq_true rfl)) (loB_bar x y)
  · simp only [List.mem_cons, List.not_mem_nil, or_false]; omega
  · simp only [List.mem_cons, List.not_mem_nil, or_false]; intro z hz; omega
  · simp only [List.mem_cons, List.not_mem_nil, or_false]; omega
  · simp only [List.mem_cons, List.not_mem_nil, or_false]; intro z hz; omega
theorem ev_loT {x y : Nat} (h : EvD K te ρ (.tup (nD [x, y]))) : EvD K (tTup (tCons (tCB (rMinT K) (tCons te tNil)) (tCons (tCB (rMaxT K) (tCons te tNil)) tNil))) ρ (barD (bI (loB x y))) :=
  EvD.to (ev_tup (ea_cons (ev_cb (ea_cons (show EvD K te ρ (.tup [.int (x : Int), .int (y : Int)]) from h) ea_nil) rc_minT2) (ea_cons (ev_cb (ea_cons (show EvD K te ρ (.tup [.int (x : Int), .int (y : Int)]) from h) ea_nil) rc_maxT2) ea_nil)) (Nat.le_of_ble_eq_true rfl)) (loB_bar x y)
end
end Pl

/-! Plans as they are drawn. -/
namespace Pl
open PySem PySem.Spec PyProof.Rows L2
abbrev loP (p : Fr.Bar) : Fr.Bar := loB p.1 p.2
/-- a drawn plan of the first k joints of L: its bars as drawn, as told -/
structure PI (n : Nat) (L : List Nat) (k : Nat) (plan : List (List Nat)) (ub rows : List Fr.Bar) : Prop where
  g : Goes n [] plan rows
  pm : (ub.map loP).Perm rows
  pl : plan.length + 1 = k
  ul : ub.length + 3 = 2 * k
  jt : ∀ x, isJt rows x = true ↔ x ∈ L.take k
section
variable {n k : Nat} {L : List Nat} {plan : List (List Nat)} {ub rows : List Fr.Bar}
theorem pi_ok (h : PI n L k plan ub rows) : Fr.Ok n rows := h.g.ok fun _ h => nomatch h
theorem pi_bar (h : PI n L k plan ub rows) {p : Fr.Bar} (hp : p ∈ ub) : loP p ∈ rows ∧ p.1 ∈ L.take k ∧ p.2 ∈ L.take k ∧ p.1 ≠ p.2 := by
  have h1 : loP p ∈ rows := h.pm.mem_iff.mp (List.mem_map_of_mem hp)
  obtain ⟨_, _, o3⟩ := pi_ok h _ h1
  refine ⟨h1, (h.jt _).mp (isJt_iff.mpr ⟨_, h1, loB_ends.mpr (.inl rfl)⟩), (h.jt _).mp (isJt_iff.mpr ⟨_, h1, loB_ends.mpr (.inr rfl)⟩), fun e => o3 ?_⟩
  show min p.1 p.2 = max p.1 p.2
  omega
theorem take_next (nd : L.Nodup) (hk : k < L.length) : L.take (k + 1) = L.take k ++ [L.getD k 0] ∧ L.getD k 0 ∉ L.take k ∧ L.getD k 0 ∈ L := by
  have e : L.getD k 0 = L[k] := by rw [List.getD_eq_getElem?_getD, List.getElem?_eq_getElem hk]; rfl
  have e2 : L.take (k + 1) = L.take k ++ [L[k]] := by rw [List.take_add_one, List.getElem?_eq_getElem hk]; rfl
  rw [e]
  refine ⟨e2, fun z => ?_, List.getElem_mem hk⟩
  have nd2 : (L.take (k + 1)).Nodup := nd.sublist (List.take_sublist _ _)
  rw [e2] at nd2
  exact (List.nodup_append.mp nd2).2.2 _ z _ List.mem_cons_self rfl
theorem pi_start (nd : L.Nodup) (low : ∀ x ∈ L, x < n) (hl : 2 ≤ L.length) : PI n L 2 [[L.getD 0 0, L.getD 1 0]] [(L.getD 0 0, L.getD 1 0)] [loB (L.getD 0 0) (L.getD 1 0)] := by
  match L, hl with
  | a :: b :: r, _ =>
    have ne : a ≠ b := fun e => by
      subst e
      simp at nd
    have ok : okStep n [a, b] = true := okStep_iff.mpr ⟨⟨Nat.le_refl _, by simp⟩, fun x hx => by
      simp only [List.mem_cons, List.not_mem_nil, or_false] at hx
      rcases hx with rfl | rfl <;> exact low _ (by simp), by simpa using ne⟩
    exact ⟨.cons ok rfl .nil, List.Perm.refl _, rfl, rfl, fun x => by
      show isJt (stepRows [] [a, b]) x = true ↔ _
      rw [isJt_step rfl]
      simp [isJt_nil]⟩
theorem pi_three (h : PI n L k plan ub rows) (nd : L.Nodup) (low : ∀ x ∈ L, x < n) (hk : k < L.length) {p : Fr.Bar} (hp : p ∈ ub) {t : Nat} (ht : t ∈ L.take k) (t1 : t ≠ p.1) (t2 : t ≠ p.2) :
    PI n L (k + 1) (plan ++ [[L.getD k 0, p.1, p.2, t]]) ((ub.erase p ++ [(t, L.getD k 0)]) ++ [(p.1, L.getD k 0), (L.getD k 0, p.2)]) (stepRows rows [L.getD k 0, p.1, p.2, t]) := by
  obtain ⟨b1, b2, b3, b4⟩ := pi_bar h hp
  obtain ⟨e1, e2, e3⟩ := take_next nd hk
  generalize L.getD k 0 = v at *
  have lt : ∀ x ∈ L.take k, x < n := fun x hx => low x (List.mem_of_mem_take hx)
  have nv : ∀ x ∈ L.take k, x ≠ v := fun x hx e => e2 (e ▸ hx)
  have jv : isJt rows v = false := by
    cases q : isJt rows v with
    | false => rfl
    | true => exact absurd ((h.jt v).mp q) e2
  have ok : okStep n [v, p.1, p.2, t] = true := okStep_iff.mpr ⟨⟨by simp, by simp⟩, fun x hx => by
    simp only [List.mem_cons, List.not_mem_nil, or_false] at hx
    rcases hx with rfl | rfl | rfl | rfl
    · exact low _ e3
    · exact lt _ b2
    · exact lt _ b3
    · exact lt _ ht, by
    have n1 := nv _ b2
    have n2 := nv _ b3
    have n3 := nv _ ht
    simp only [List.nodup_cons, List.mem_cons, List.not_mem_nil, or_false, not_or, not_false_eq_true, List.nodup_nil, and_true]
    exact ⟨⟨fun e => n1 e.symm, fun e => n2 e.symm, fun e => n3 e.symm⟩, ⟨b4, fun e => t1 e.symm⟩, fun e => t2 e.symm⟩⟩
  have may : mayB rows [v, p.1, p.2, t] = true := by
    show ((!isJt rows v && (isJt rows p.1 && (isJt rows p.2 && isJt rows t))) && decide (loB p.1 p.2 ∈ rows)) = true
    rw [jv, (h.jt _).mpr b2, (h.jt _).mpr b3, (h.jt _).mpr ht, decide_eq_true b1]
    rfl
  refine ⟨h.g.app (.cons ok may .nil), ?_, by rw [List.length_append]; have := h.pl; show plan.length + 1 + 1 = k + 1; omega, ?_, fun x => ?_⟩
  · show (((ub.erase p ++ [(t, v)]) ++ [(p.1, v), (v, p.2)]).map loP).Perm (rows.erase (loP p) ++ [loB v p.1, loB v p.2, loB v t])
    have pe : ((ub.erase p).map loP).Perm (rows.erase (loP p)) := by
      have z : (loP p :: (ub.erase p).map loP).Perm rows := ((List.perm_cons_erase hp).map loP).symm.trans h.pm
      have := z.erase (loP p)
      rwa [List.erase_cons_head] at this
    rw [List.map_append, List.map_append, List.append_assoc]
    refine pe.append ?_
    show [loB t v, loB p.1 v, loB v p.2].Perm [loB v p.1, loB v p.2, loB v t]
    rw [loB_comm t v, loB_comm p.1 v]
    exact (List.Perm.swap _ _ _).trans ((List.Perm.swap _ _ _).cons _)
  · have := h.ul
    have l1 := List.length_erase_of_mem hp
    have l2 : 0 < ub.length := List.length_pos_of_mem hp
    rw [List.length_append, List.length_append, l1]
    show ub.length - 1 + 1 + 2 + 3 = _
    omega
  · rw [isJt_step may, h.jt, e1, List.mem_append, List.mem_singleton]
    simp only [List.mem_cons, List.not_mem_nil, or_false]
    constructor
    · rintro (z | rfl | rfl | rfl | rfl)
      · exact .inl z
      · exact .inr rfl
      · exact .inl b2
      · exact .inl b3
      · exact .inl ht
    · rintro (z | z)
      · exact .inl z
      · exact .inr (.inl z)
theorem pi_two (h : PI n L k plan ub rows) (nd : L.Nodup) (low : ∀ x ∈ L, x < n) (hk : k < L.length) {a b : Nat} (ha : a ∈ L.take k) (hb : b ∈ L.take k) (ne : a ≠ b) :
    PI n L (k + 1) (plan ++ [[L.getD k 0, b, a]]) (ub ++ [(a, L.getD k 0), (L.getD k 0, b)]) (stepRows rows [L.getD k 0, b, a]) := by
  obtain ⟨e1, e2, e3⟩ := take_next nd hk
  generalize L.getD k 0 = v at *
  have lt : ∀ x ∈ L.take k, x < n := fun x hx => low x (List.mem_of_mem_take hx)
  have nv : ∀ x ∈ L.take k, x ≠ v := fun x hx e => e2 (e ▸ hx)
  have jv : isJt rows v = false := by
    cases q : isJt rows v with
    | false => rfl
    | true => exact absurd ((h.jt v).mp q) e2
  have ok : okStep n [v, b, a] = true := okStep_iff.mpr ⟨⟨by simp, by simp⟩, fun x hx => by
    simp only [List.mem_cons, List.not_mem_nil, or_false] at hx
    rcases hx with rfl | rfl | rfl
    · exact low _ e3
    · exact lt _ hb
    · exact lt _ ha, by
    have n1 := nv _ ha
    have n2 := nv _ hb
    simp only [List.nodup_cons, List.mem_cons, List.not_mem_nil, or_false, not_or, not_false_eq_true, List.nodup_nil, and_true]
    exact ⟨⟨fun e => n2 e.symm, fun e => n1 e.symm⟩, fun e => ne e.symm⟩⟩
  have may : mayB rows [v, b, a] = true := by
    show (!isJt rows v && (isJt rows b && isJt rows a)) = true
    rw [jv, (h.jt _).mpr ha, (h.jt _).mpr hb]
    rfl
  refine ⟨h.g.app (.cons ok may .nil), ?_, by rw [List.length_append]; have := h.pl; show plan.length + 1 + 1 = k + 1; omega, ?_, fun x => ?_⟩
  · show ((ub ++ [(a, v), (v, b)]).map loP).Perm (rows ++ [loB v b, loB v a])
    rw [List.map_append]
    refine h.pm.append ?_
    show [loB a v, loB v b].Perm [loB v b, loB v a]
    rw [loB_comm a v]
    exact List.Perm.swap _ _ _
  · have := h.ul
    rw [List.length_append]
    show ub.length + 2 + 3 = _
    omega
  · rw [isJt_step may, h.jt, e1, List.mem_append, List.mem_singleton]
    simp only [List.mem_cons, List.not_mem_nil, or_false]
    constructor
    · rintro (z | rfl | rfl | rfl)
      · exact .inl z
      · exact .inr rfl
      · exact .inl hb
      · exact .inl ha
    · rintro (z | z)
      · exact .inl z
      · exact .inr (.inl z)
theorem pi_end (h : PI n L n plan ub rows) (hl : L.length = n) (all : ∀ x, x < n → x ∈ L) : (jtsL n rows).length = n := by
  refine Nat.le_antisymm jtsL_len ?_
  have : (List.range n).length ≤ (jtsL n rows).length := List.Nodup.length_le_of_subset List.nodup_range fun x hx => jtsL_mem.mpr ⟨List.mem_range.mp hx, (h.jt x).mpr (by
    rw [List.take_of_length_le (by omega)]
    exact all x (List.mem_range.mp hx))⟩
  rwa [List.length_range] at this
end
end Pl

open PySem PySem.Spec PyProof.Rows L2 Pl
local macro_rules | `(tactic| walk_at "ev") => `(tactic| first
  | exact ev_var rfl | exact ev_int | exact ev_bl | exact ev_non | exact ev_str | exact ev_ty | exact ea_nil | exact et_yes
  | (with_reducible refine' ev_op ?_ ?_ ?_ <;> walk_at "ev")
  | (with_reducible refine' ev_cb ?_ ?_ <;> walk_at "ev")
  | (with_reducible refine' ev_call ?_ ?_ <;> walk_at "ev")
  | (with_reducible refine' ev_neg ?_ <;> walk_at "ev")
  | (with_reducible refine' ev_not ?_ <;> walk_at "ev")
  | (with_reducible refine' ev_tup ?_ (Nat.le_of_ble_eq_true rfl) <;> walk_at "ev")
  | (with_reducible refine' ea_cons ?_ ?_ <;> walk_at "ev")
  | (with_reducible refine' et_test ?_ <;> walk_at "ev")
  | (with_reducible refine' et_B ?_ <;> walk_at "ev")
  | (with_reducible refine' et_not ?_ <;> walk_at "ev")
  | exact rv_plusI | exact rv_sub | exact rv_lt | exact rv_le | exact rv_gt | exact rv_ge | exact rv_eqI | exact rv_neI | exact rv_eqB | exact rv_neB | exact rv_inL | exact rv_inT | exact rv_eqInts | exact rv_neInts | exact rv_eqBars | exact rv_neBars
  | refine' rv_mul ?_ | refine' rv_div ?_ ?_ | refine' rv_mod ?_ ?_ | refine' rv_ixL ?_ | refine' rv_ixT ?_ | refine' rv_ixR ?_ | refine' rv_plusT ?_ ?_
  | exact RCF.data rc_listL | exact RCF.data rc_listT | exact RCF.data rc_listR | exact rc_lenL | exact rc_lenT | exact rc_lenR | exact rc_isiK "int" rfl (by decide +kernel) (by decide) | exact rc_isiK "bool" rfl (by decide +kernel) (by decide) | exact rc_isiK "list" rfl (by decide +kernel) (by decide) | exact rc_isiK "tuple" rfl (by decide +kernel) (by decide) | exact rc_isiK "NoneType" rfl (by decide +kernel) (by decide) | exact rc_isiK "str" rfl (by decide +kernel) (by decide) | exact rc_all
  | (with_reducible refine' ev_lst ?_ (Nat.le_of_ble_eq_true rfl) <;> walk_at "ev")
  | (with_reducible refine' ev_cbF ?_ ?_ <;> walk_at "ev") | exact rc_listL | exact rc_listT | exact rc_listR
  | (with_reducible refine' ev_callF ?_ ?_ <;> walk_at "ev")
  | (with_reducible refine' ev_opF ?_ ?_ (rvF_plus ?_) <;> walk_at "ev")
  | (with_reducible refine' EvF.data ?_ <;> walk_at "ev")
  | refine RVF.data (rvF_plus ?_)
  | skip)
local macro_rules | `(tactic| walk_at "view") => `(tactic| first
  | exact View.nil
  | (refine View.root (by first | exact List.Mem.head _ | exact List.Mem.tail _ (List.Mem.head _) | exact List.Mem.tail _ (List.Mem.tail _ (List.Mem.head _))) ?_; walk_at "view")
  | (refine View.own ?_; walk_at "view")
  | (refine View.same ?_; walk_at "view"))
namespace A
open PySem PySem.Spec PyProof.Rows L2 Pl
open Evl (Ex)
def top (i : Nat) : Stmt := PySem.Challenge.pw_stiffbars_k08_built_or_no_steps.main.body.getD i (.Pass ⟨0, 0, 0, 0⟩)
abbrev FnP (K : PySem.W.Frag) (x : Str) (st : Stmt) (f : Addr) (fd : FuncData) : Prop := FunD K x x (defArgs st) (defBody st) (defScope st) [] [] f fd
def keys_LENGTHS : List (Str × Option Int) := [("bar", some 3), ("two", some 4), ("three", some 5), ("Two", none)]
structure Mods (K : PySem.W.Frag) (mg : Str → Option Value) (w : World) : Prop where
  k_LENGTHS : mg "LENGTHS" = some (.ref (He.ga K "LENGTHS"))
  d_LENGTHS : ∃ es n, KDict K w (He.ga K "LENGTHS") es n
  l_LENGTHS : ∀ p ∈ keys_LENGTHS, KGot K w (He.ga K "LENGTHS") p.1 (gotV p.2)
  g_FrameError : mg "FrameError" = some (.ref (He.ga K "FrameError"))
  g_BadCount : mg "BadCount" = some (.ref (He.ga K "BadCount"))
  g_BadBar : mg "BadBar" = some (.ref (He.ga K "BadBar"))
  g_NoBar : mg "NoBar" = some (.ref (He.ga K "NoBar"))
  g_Full : mg "Full" = some (.ref (He.ga K "Full"))
  g_NotLean : mg "NotLean" = some (.ref (He.ga K "NotLean"))
  g_Loose : mg "Loose" = some (.ref (He.ga K "Loose"))
  g_BadStep : mg "BadStep" = some (.ref (He.ga K "BadStep"))
  x_BadStep : PySem.W.excIn K (He.ga K "BadStep") He.veBase "ValueError.__new__" = true ∧ PySem.W.keepIn K (.ref (He.ga K "BadStep")) = true ∧ PySem.W.subIn K (.ref (He.ga K "BadStep")) (.type "BaseException") = some true ∧ PySem.W.typeIn K (.ref (He.ga K "BadStep")) = some (.type "type")
  n_BadStep : PySem.W.exmOne K (.ref (He.ga K "BadStep")) (.ref (He.ga K "FrameError")) = some true
  q_BadStep : Kind "BadStep" (kinds7 "BadStep") K
  m_ValueError : mg "ValueError" = none
  m_all : mg "all" = none
  m_bool : mg "bool" = none
  m_enumerate : mg "enumerate" = none
  m_int : mg "int" = none
  m_isinstance : mg "isinstance" = none
  m_len : mg "len" = none
  m_list : mg "list" = none
  m_max : mg "max" = none
  m_min : mg "min" = none
  m_range : mg "range" = none
  m_set : mg "set" = none
  m_sorted : mg "sorted" = none
  m_str : mg "str" = none
  m_tuple : mg "tuple" = none
  k_MOST_JOINTS : ∃ t, mg "MOST_JOINTS" = some (.int 16 t)
/-! ### is_number -/
abbrev s_is_number : Stmt := top 13
theorem sc_is_number : FnScope ["value"] ["value"] (defScope s_is_number) := ⟨rfl, rfl, rfl, by decide +kernel, rfl, by decide +kernel, by decide +kernel⟩
inductive R_is_number : List D → D → Prop
  | int (i : Int) : R_is_number [.int i] (.bl true)
  | no (d : D) (h : Dull d) : R_is_number [d] (.bl false)

section
variable {P : Program} {w : World} {K : PySem.W.Frag} {mg : Str → Option Value} {base : Heap}
theorem ok_is_number {f : Addr} {fd : FuncData} (F : FnP K "is_number" s_is_number f fd) (g : mg "is_number" = some (.ref f)) (M : Mods K mg w)  : Cal P w K mg base CX0 1 "is_number" ["value"] (spD K R_is_number) := by
  refine ⟨f, fd, F.ok sc_is_number (spD_len fun ds d r => by cases r <;> rfl) (fun cdv A outer s H vs Q E hr h => ?_), g, F.kp, F.bindsN fun _ _ _ _ _ _ us hl => match us, hl with | [_], _ => rfl⟩
  have hu := hr.units
  refine ⟨_, PSs.nox (pss_one (ps_ret (pe_and (pe_callB (ok_isi (K := K) rfl) (by rfl) M.m_isinstance (by decide +kernel) (pa_cons (pv 0) (pa_cons (pe_bltn (v := .ty "int") (by rfl) M.m_int (by decide +kernel) rfl) pa_nil))) (pe_one (pe_not (pe_callB (ok_isi (K := K) rfl) (by rfl) M.m_isinstance (by decide +kernel) (pa_cons (pv 0) (pa_cons (pe_bltn (v := .ty "bool") (by rfl) M.m_bool (by decide +kernel) rfl) pa_nil)))))))), ?_⟩
  refine T.fin (K := K) h fun ds d rel => ?_
  cases rel with
  | int i =>
    refine T.ret (d := .bl (true && !false)) (ev_and (by walk_at "ev") fun _ => ?_) rfl
    walk_at "ev"
  | no d hd =>
    obtain ⟨a, b, h1, h2, h3⟩ := dull_isi (K := K) hd
    refine T.ret (d := .bl (a && !b)) (ev_and (ev_cb (ea_cons (ev_var rfl) (ea_cons ev_ty ea_nil)) h1) fun _ => ev_not (ev_cb (ea_cons (ev_var rfl) (ea_cons ev_ty ea_nil)) h2)) ?_
    rw [h3]
    rfl
end
/-! ### check_count -/
abbrev s_check_count : Stmt := top 11
theorem sc_check_count : FnScope ["count"] ["count"] (defScope s_check_count) := ⟨rfl, rfl, rfl, by decide +kernel, rfl, by decide +kernel, by decide +kernel⟩
inductive R_check_count : List D → D → Prop
  | int (c : Int) (h1 : 1 ≤ c) (h2 : c ≤ 16) : R_check_count [.int c] .non

section
variable {P : Program} {w : World} {K : PySem.W.Frag} {mg : Str → Option Value} {base : Heap}
theorem ok_check_count {f : Addr} {fd : FuncData} (F : FnP K "check_count" s_check_count f fd) (g : mg "check_count" = some (.ref f)) (M : Mods K mg w) (C_is_number : Cal P w K mg base CX0 1 "is_number" ["value"] (spD K R_is_number)) : Cal P w K mg base CX0 2 "check_count" ["count"] (spD K R_check_count) := by
  obtain ⟨t_MOST_JOINTS, k_MOST_JOINTS⟩ := M.k_MOST_JOINTS
  refine ⟨f, fd, F.ok sc_check_count (spD_len fun ds d r => by cases r <;> rfl) (fun cdv A outer s H vs Q E hr h => ?_), g, F.kp, F.bindsN fun _ _ _ _ _ _ us hl => match us, hl with | [_], _ => rfl⟩
  have hu := hr.units
  refine ⟨_, PSs.nox (pss_one (ps_if (PW.pt (pw_or (pt_not (pt_val (pe_cal C_is_number hr (by decide) pass0 (pa_cons (pv 0) pa_nil)))) (pw_or1 (pt_not (pt_chain op_le op_le pe_int (pv 0) (pe_glob (v := .int 16) rfl k_MOST_JOINTS ⟨_, rfl⟩)))))) (pss_one ps_never) pss_nil)), ?_⟩
  refine T.fin (K := K) h fun ds d rel => ?_
  cases rel with | int c h1 h2 =>
  refine T.ifS (b := !true || !(decide (1 ≤ c) && decide (c ≤ 16))) (et_or (et_not (et_B (ev_call (by walk_at "ev") (.int c)))) fun _ => et_not (et_test (ev_chain (by walk_at "ev") (by walk_at "ev") rv_le fun _ => ⟨.int 16, by walk_at "ev", rv_le⟩))) (fun b => ?_) fun _ => T.next rfl
  rw [decide_eq_true h1, decide_eq_true h2] at b
  cases b
end
/-! ### is_joint -/
abbrev s_is_joint : Stmt := top 12
theorem sc_is_joint : FnScope ["count", "joint"] ["count", "joint"] (defScope s_is_joint) := ⟨rfl, rfl, rfl, by decide +kernel, rfl, by decide +kernel, by decide +kernel⟩
inductive R_is_joint : List D → D → Prop
  | int (c j : Int) : R_is_joint [.int c, .int j] (.bl (decide (0 ≤ j) && decide (j < c)))
  | no (c : Int) (d : D) (h : Dull d) : R_is_joint [.int c, d] (.bl false)
theorem R_is_joint.of {c : Int} {d : D} {b : Bool} (h : JD c d b) : R_is_joint [.int c, d] (.bl b) := by
  cases h with
  | int j => exact .int c j
  | no h => exact .no c d h

section
variable {P : Program} {w : World} {K : PySem.W.Frag} {mg : Str → Option Value} {base : Heap}
theorem ok_is_joint {f : Addr} {fd : FuncData} (F : FnP K "is_joint" s_is_joint f fd) (g : mg "is_joint" = some (.ref f)) (M : Mods K mg w) (C_is_number : Cal P w K mg base CX0 1 "is_number" ["value"] (spD K R_is_number)) : Cal P w K mg base CX0 2 "is_joint" ["count", "joint"] (spD K R_is_joint) := by
  refine ⟨f, fd, F.ok sc_is_joint (spD_len fun ds d r => by cases r <;> rfl) (fun cdv A outer s H vs Q E hr h => ?_), g, F.kp, F.bindsN fun _ _ _ _ _ _ us hl => match us, hl with | [_, _], _ => rfl⟩
  have hu := hr.units
  refine ⟨_, PSs.nox (pss_one (ps_ret (pe_and (pe_cal C_is_number hr (by decide) pass0 (pa_cons (pv 1) pa_nil)) (pe_one (pe_chain op_le op_lt pe_int (pv 1) (pv 0)))))), ?_⟩
  refine T.fin (K := K) h fun ds d rel => ?_
  cases rel with
  | int c j =>
    refine T.ret (d := .bl (true && (decide (0 ≤ j) && decide (j < c)))) (ev_and (ev_call (by walk_at "ev") (.int j)) fun _ => ?_) rfl
    exact ev_chain (by walk_at "ev") (by walk_at "ev") rv_le fun _ => ⟨.int c, by walk_at "ev", rv_lt⟩
  | no c d hd =>
    exact T.ret (d := .bl (false && false)) (ev_and (ev_call (ea_cons (ev_var rfl) ea_nil) (.no d hd)) fun z => by cases z) rfl
end
/-! ### joints_of -/
abbrev s_joints_of : Stmt := top 14
theorem sc_joints_of : FnScope ["bars", "bar", "joint"] ["bars"] (defScope s_joints_of) := ⟨rfl, rfl, rfl, by decide +kernel, rfl, by decide +kernel, by decide +kernel⟩
inductive R_joints_of : List D → List D → Prop
  | mk (bs : List (Int × Int)) (ms : List Int) (hp : ms.Pairwise (· < ·)) (hl : ms.length < 64) (hm : ∀ k, k ∈ ms ↔ ∃ b ∈ bs, k ∈ [b.1, b.2]) : R_joints_of [.lst (bs.map barD)] (ms.map D.int)
def tupL : D → List D
  | .tup ds => ds
  | _ => []

section
variable {P : Program} {w : World} {K : PySem.W.Frag} {mg : Str → Option Value} {base : Heap}
theorem ok_joints_of {f : Addr} {fd : FuncData} (F : FnP K "joints_of" s_joints_of f fd) (g : mg "joints_of" = some (.ref f)) (M : Mods K mg w)  : Cal P w K mg base CX0 1 "joints_of" ["bars"] (spF K R_joints_of) := by
  refine ⟨f, fd, F.ok sc_joints_of (spF_len fun ds d r => by cases r <;> rfl) (fun cdv A outer s H vs Q E hr h => ?_), g, F.kp, F.bindsN fun _ _ _ _ _ _ us hl => match us, hl with | [_], _ => rfl⟩
  have hu := hr.units
  refine ⟨_, PSs.nox (pss_one (ps_ret (pe_callB (ok_sset (w := w) rfl rfl) (by rfl) M.m_sorted (by decide +kernel) (pa_cons (Sc.pe_sc2 (w := w) (own := [("bar", 1), ("joint", 2)]) (vs1 := [2]) (g := (gName 1)) (g1 := (gName 2)) rfl rfl sc_joints_of.nd (ok_ilist (K := K) rfl (pv 0)) (blkOk_by (N := ["bars", "bar", "joint"]) (sc := defScope s_joints_of) (by decide +kernel)) (by decide) (fun _ _ _ _ _ => (pg_name (i := 1) sc_joints_of.nd rfl (Or.inl rfl))) (fun _ _ _ _ _ => (ok_itup (K := K) rfl (pv 1))) (fun _ _ _ _ _ => (pg_name (i := 2) sc_joints_of.nd rfl (Or.inl rfl))) (fun _ _ _ _ _ => (pv 2))) pa_nil)))), ?_⟩
  refine T.finF (K := K) h fun ds d rel => ?_
  cases rel with | mk bs ms hp hl hm =>
  refine T.retF (evF_sortedSc2 (ei_list (by walk_at "ev")) (fun d => [(1, d)]) tupL (fun _ e => [(2, e)]) (fun _ e => numI e) ms (fun d _ => eg_name) (fun d _ p hp => ?_) (fun d hd => ?_) (fun d _ e _ => eg_name) (fun d _ e _ p hp => ?_) (fun d hd e he => ?_) hp hl fun k => ?_) rfl
  · rw [List.mem_singleton.mp hp]
    simp
  · obtain ⟨b, _, rfl⟩ := List.mem_map.mp hd
    exact ei_tup (ds := [.int b.1, .int b.2]) (ev_var rfl)
  · rw [List.mem_singleton.mp hp]
    simp
  · obtain ⟨b, _, rfl⟩ := List.mem_map.mp hd
    have he : e ∈ [D.int b.1, D.int b.2] := he
    rcases List.mem_cons.mp he with rfl | he
    · exact ev_var rfl
    · rw [List.mem_singleton.mp he]
      exact ev_var rfl
  · rw [hm k]
    constructor
    · rintro ⟨b, hb, hk⟩
      refine ⟨barD b, List.mem_map_of_mem hb, ?_⟩
      rcases List.mem_cons.mp hk with h | h
      · exact ⟨.int b.1, List.mem_cons_self, h.symm⟩
      · exact ⟨.int b.2, List.mem_cons_of_mem _ List.mem_cons_self, (List.mem_singleton.mp h).symm⟩
    · rintro ⟨d, hd, e, he, hk⟩
      obtain ⟨b, hb, rfl⟩ := List.mem_map.mp hd
      have he : e ∈ [D.int b.1, D.int b.2] := he
      refine ⟨b, hb, ?_⟩
      rcases List.mem_cons.mp he with rfl | he
      · rw [← hk]
        exact List.mem_cons_self
      · rw [List.mem_singleton.mp he] at hk
        rw [← hk]
        exact List.mem_cons_of_mem _ List.mem_cons_self
end
/-! ### lesser_first -/
abbrev s_lesser_first : Stmt := top 21
theorem sc_lesser_first : FnScope ["one", "other"] ["one", "other"] (defScope s_lesser_first) := ⟨rfl, rfl, rfl, by decide +kernel, rfl, by decide +kernel, by decide +kernel⟩
inductive R_lesser_first : List D → D → Prop
  | mk (a b : Nat) : R_lesser_first [.int (a : Int), .int (b : Int)] (barD (bI (loB a b)))

section
variable {P : Program} {w : World} {K : PySem.W.Frag} {mg : Str → Option Value} {base : Heap}
theorem ok_lesser_first {f : Addr} {fd : FuncData} (F : FnP K "lesser_first" s_lesser_first f fd) (g : mg "lesser_first" = some (.ref f)) (M : Mods K mg w)  : Cal P w K mg base CX0 1 "lesser_first" ["one", "other"] (spD K R_lesser_first) := by
  refine ⟨f, fd, F.ok sc_lesser_first (spD_len fun ds d r => by cases r <;> rfl) (fun cdv A outer s H vs Q E hr h => ?_), g, F.kp, F.bindsN fun _ _ _ _ _ _ us hl => match us, hl with | [_, _], _ => rfl⟩
  have hu := hr.units
  refine ⟨_, PSs.nox (pss_one (ps_ret (pe_tup (pa_cons (pe_callB (call_min2 rfl) (by rfl) M.m_min (by decide +kernel) (pa_cons (pv 0) (pa_cons (pv 1) pa_nil))) (pa_cons (pe_callB (call_max2 rfl) (by rfl) M.m_max (by decide +kernel) (pa_cons (pv 0) (pa_cons (pv 1) pa_nil))) pa_nil))))), ?_⟩
  refine T.fin (K := K) h fun ds d rel => ?_
  cases rel with | mk a b => exact T.ret (ev_loB (ev_var rfl) (ev_var rfl)) rfl
end
/-! ### after -/
abbrev s_after : Stmt := top 20
theorem sc_after : FnScope ["rows", "step", "word", "joint", "ends", "kept", "end"] ["rows", "step"] (defScope s_after) := ⟨rfl, rfl, rfl, by decide +kernel, rfl, by decide +kernel, by decide +kernel⟩
inductive R_after : List D → List D → Prop
  | mk (n : Nat) (rows : List Fr.Bar) (js : List Nat) (hm : mayB rows js = true) (hl : rows.length ≤ 60) : R_after [.lst (brs rows), stepD js] (brs (stepRows rows js))
theorem brs_fun (v : Nat) (l : List Nat) : l.map (fun k => barD (bI (loB v k))) = brs (l.map (loB v)) := by
  unfold brs
  rw [List.map_map, List.map_map]
  rfl
/-- kept + [lesser_first(joint, end) for end in ends] -/
theorem ev_ends {K : PySem.W.Frag} {ρ : Rho} {wi : TI} {te t1 : TE} {v j : Nat} {vs rest : List Nat} {kl : List Fr.Bar} (hk : EvD K t1 ρ (.lst (brs kl))) (hi : EvI K wi ρ (rest.map fun k : Nat => D.int (k : Int))) (hj : j ∈ vs) (he : ∀ k : Nat, EvD K te (setR (wipeR ρ vs) [(j, .int (k : Int))]) (barD (bI (loB v k)))) (h1 : kl.length ≤ 100) (h2 : rest.length ≤ 10) :
    EvF K (tOp (rPlus K) t1 (tLc wi (gName j) tYes te vs)) ρ (brs (kl ++ rest.map (loB v))) :=
  EvF.to (ev_opF (x := .lst (brs kl)) (y := .lst (brs (rest.map (loB v)))) hk (EvF.data (EvF.to (evF_lcM (α := Nat) (xs := rest) (gd := fun k : Nat => D.int (k : Int)) hi (fun k => [(j, .int (k : Int))]) (fun _ => true) (fun k => barD (bI (loB v k))) (fun k _ => eg_name) (fun k _ p hp => by rw [List.mem_singleton.mp hp]; exact hj) (fun k _ => et_yes) (fun k _ _ => he k) (by omega)) (by rw [List.filter_eq_self.mpr fun _ _ => rfl, brs_fun])))
    (rvF_plus (by rw [brs_len, brs_len, List.length_map]; omega))) (brs_app _ _).symm

section
variable {P : Program} {w : World} {K : PySem.W.Frag} {mg : Str → Option Value} {base : Heap}
theorem ok_after {f : Addr} {fd : FuncData} (F : FnP K "after" s_after f fd) (g : mg "after" = some (.ref f)) (M : Mods K mg w) (C_lesser_first : Cal P w K mg base CX0 1 "lesser_first" ["one", "other"] (spD K R_lesser_first)) : Cal P w K mg base CX0 2 "after" ["rows", "step"] (spF K R_after) := by
  refine ⟨f, fd, F.ok sc_after (spF_len fun ds d r => by cases r <;> rfl) (fun cdv A outer s H vs Q E hr h => ?_), g, F.kp, F.bindsN fun _ _ _ _ _ _ us hl => match us, hl with | [_, _], _ => rfl⟩
  have hu := hr.units
  refine ⟨_, PSs.nox (pss_cons (ps_asg (pv 1) (pg_star (K := K) (i := 2) rfl rfl (pgs_cons (pg_name (i := 2) sc_after.nd rfl (Or.inl rfl)) (pgs_cons (pg_name (i := 3) sc_after.nd rfl (Or.inr rfl)) (pgs_star (pg_name (i := 4) sc_after.nd rfl (Or.inl rfl)) pgs_nil)))))
      (pss_cons (ps_set (i := 5) sc_after.nd rfl (Or.inl rfl) (pe_callTy (ok_list (K := K) rfl) (by rfl) M.m_list (by decide +kernel) (pa_cons (pv 0) pa_nil)))
      (pss_cons (ps_if (pt_cmpR (ok_eq (K := K) rfl hu) (pv 2) pe_str (nomark _)) (pss_one (ps_expr (pe_bm PySem.F.plainAttrs_list PySem.F.slot_list_remove PySem.F.type_list_remove (mt_remD (K := K) rfl hu) (pv 5) (pa_cons (pe_cal C_lesser_first hr (by decide) pass0 (pa_cons (pe_ix (ok_ix (K := K) rfl) (pv 4) pe_int (fun _ _ => rfl)) (pa_cons (pe_ix (ok_ix (K := K) rfl) (pv 4) pe_int (fun _ _ => rfl)) pa_nil))) pa_nil)))) pss_nil)
      (pss_one (ps_ret (pe_op (ok_plus (K := K) rfl) (pv 5) (pe_lc (own := [("end", 6)]) (g := (gName 6)) (tt := tYes) rfl sc_after.nd (ok_ilist (K := K) rfl (pv 4)) (blkOk_by (N := ["rows", "step", "word", "joint", "ends", "kept", "end"]) (sc := defScope s_after) (by decide +kernel)) (fun _ _ _ _ _ => (pg_name (i := 6) sc_after.nd rfl (Or.inl rfl))) (fun _ _ _ _ _ => pts_nil) (fun _ _ _ _ _ => (pe_cal C_lesser_first hr (by decide) pass0 (pa_cons (pv 3) (pa_cons (pv 6) pa_nil))))))))))), ?_⟩
  refine T.finF (K := K) h fun ds d rel => ?_
  cases rel with | mk n rows js hm hl =>
  rcases may_cases hm with ⟨a, b, rfl, rfl⟩ | ⟨v, a, b, rfl, _⟩ | ⟨v, a, b, c, rfl, _, _, _, _, hab⟩
  · refine T.seq (ρ1 := [.k (.lst (brs [])), .k (stepD [a, b]), .k (.str "bar"), .k (.int (a : Int)), .k (.lst [.int (b : Int)]), .u, .u]) (T.asgStar (n := 2) (ds := .str "bar" :: nD [a, b]) (ev_var rfl) (Nat.le_of_ble_eq_true rfl) (Nat.le_of_ble_eq_true rfl) (show EvGs K _ [.str "bar", .int (a : Int), .lst [.int (b : Int)]] _ from egs_cons eg_name (egs_cons eg_name (egs_cons eg_name egs_nil))) rfl) ?_
    refine T.seq (ρ1 := [.k (.lst (brs [])), .k (stepD [a, b]), .k (.str "bar"), .k (.int (a : Int)), .k (.lst [.int (b : Int)]), .o (brs []), .u]) (T.asgF (ev_cbF (ea_cons (ev_var rfl) ea_nil) rc_listL) rfl) ?_
    refine T.seq (ρ1 := [.k (.lst (brs [])), .k (stepD [a, b]), .k (.str "bar"), .k (.int (a : Int)), .k (.lst [.int (b : Int)]), .o (brs []), .u]) (T.ifS (b := decide (("bar" : Str) = "three")) (et_test (ev_op (ev_var rfl) ev_str (rv_eqStr (by decide +kernel) (by decide +kernel)))) (fun hb => absurd (of_decide_eq_true hb) (by decide +kernel)) fun _ => T.next rfl) ?_
    exact T.freeze (i := 5) rfl (T.retF (ev_ends (rest := [b]) (ev_var rfl) (ei_list (ev_var rfl)) (by simp) (fun k => ev_call (ea_cons (ev_var rfl) (ea_cons (ev_var rfl) ea_nil)) (.mk a k)) (by simp) (by simp)) rfl)
  · refine T.seq (ρ1 := [.k (.lst (brs rows)), .k (stepD [v, a, b]), .k (.str "two"), .k (.int (v : Int)), .k (.lst [.int (a : Int), .int (b : Int)]), .u, .u]) (T.asgStar (n := 2) (ds := .str "two" :: nD [v, a, b]) (ev_var rfl) (Nat.le_of_ble_eq_true rfl) (Nat.le_of_ble_eq_true rfl) (show EvGs K _ [.str "two", .int (v : Int), .lst [.int (a : Int), .int (b : Int)]] _ from egs_cons eg_name (egs_cons eg_name (egs_cons eg_name egs_nil))) rfl) ?_
    refine T.seq (ρ1 := [.k (.lst (brs rows)), .k (stepD [v, a, b]), .k (.str "two"), .k (.int (v : Int)), .k (.lst [.int (a : Int), .int (b : Int)]), .o (brs rows), .u]) (T.asgF (ev_cbF (ea_cons (ev_var rfl) ea_nil) rc_listL) rfl) ?_
    refine T.seq (ρ1 := [.k (.lst (brs rows)), .k (stepD [v, a, b]), .k (.str "two"), .k (.int (v : Int)), .k (.lst [.int (a : Int), .int (b : Int)]), .o (brs rows), .u]) (T.ifS (b := decide (("two" : Str) = "three")) (et_test (ev_op (ev_var rfl) ev_str (rv_eqStr (by decide +kernel) (by decide +kernel)))) (fun hb => absurd (of_decide_eq_true hb) (by decide +kernel)) fun _ => T.next rfl) ?_
    exact T.freeze (i := 5) rfl (T.retF (ev_ends (rest := [a, b]) (ev_var rfl) (ei_list (ev_var rfl)) (by simp) (fun k => ev_call (ea_cons (ev_var rfl) (ea_cons (ev_var rfl) ea_nil)) (.mk v k)) (by omega) (by simp)) rfl)
  · obtain ⟨i, k1, k2, k3⟩ := brs_erase hab
    refine T.seq (ρ1 := [.k (.lst (brs rows)), .k (stepD [v, a, b, c]), .k (.str "three"), .k (.int (v : Int)), .k (.lst [.int (a : Int), .int (b : Int), .int (c : Int)]), .u, .u]) (T.asgStar (n := 2) (ds := .str "three" :: nD [v, a, b, c]) (ev_var rfl) (Nat.le_of_ble_eq_true rfl) (Nat.le_of_ble_eq_true rfl) (show EvGs K _ [.str "three", .int (v : Int), .lst [.int (a : Int), .int (b : Int), .int (c : Int)]] _ from egs_cons eg_name (egs_cons eg_name (egs_cons eg_name egs_nil))) rfl) ?_
    refine T.seq (ρ1 := [.k (.lst (brs rows)), .k (stepD [v, a, b, c]), .k (.str "three"), .k (.int (v : Int)), .k (.lst [.int (a : Int), .int (b : Int), .int (c : Int)]), .o (brs rows), .u]) (T.asgF (ev_cbF (ea_cons (ev_var rfl) ea_nil) rc_listL) rfl) ?_
    refine T.seq (ρ1 := [.k (.lst (brs rows)), .k (stepD [v, a, b, c]), .k (.str "three"), .k (.int (v : Int)), .k (.lst [.int (a : Int), .int (b : Int), .int (c : Int)]), .o (brs (rows.erase (loB a b))), .u]) (T.ifS (b := decide (("three" : Str) = "three")) (et_test (ev_op (ev_var rfl) ev_str (rv_eqStr (by decide +kernel) (by decide +kernel)))) (fun _ => ?_) fun hb => absurd rfl (of_decide_eq_false hb)) ?_
    · exact T.removeD (k := i) (d := barD (bI (loB a b))) rfl (ev_call (ea_cons (ev_op (ev_var rfl) ev_int (rv_ixL (atI_int (Int.le_refl 0) rfl))) (ea_cons (ev_op (ev_var rfl) ev_int (rv_ixL (atI_int (show (0 : Int) ≤ 1 by decide) rfl))) ea_nil)) (.mk a b)) rfl brs_okd rfl brs_sm k1 k2 (by rw [k3]; rfl)
    have hle := List.length_erase_le (l := rows) (a := loB a b)
    exact T.freeze (i := 5) rfl (T.retF (ev_ends (rest := [a, b, c]) (ev_var rfl) (ei_list (ev_var rfl)) (by simp) (fun k => ev_call (ea_cons (ev_var rfl) (ea_cons (ev_var rfl) ea_nil)) (.mk v k)) (by omega) (by simp)) rfl)
end
/-! ### is_step -/
abbrev s_is_step : Stmt := top 18
theorem sc_is_step : FnScope ["count", "step", "word", "joints", "joint"] ["count", "step"] (defScope s_is_step) := ⟨rfl, rfl, rfl, by decide +kernel, rfl, by decide +kernel, by decide +kernel⟩
inductive R_is_step : List D → D → Prop
  | mk (n : Nat) (d : D) (b : Bool) (h16 : n ≤ 16) (h : StepD n d b) : R_is_step [.int (n : Int), d] (.bl b)
def optD : Option Int → D
  | some i => .int i
  | none => .non
theorem rd_gotV {K : PySem.W.Frag} (o : Option Int) (S : Hp) : Rd K S (gotV o) (optD o) := by
  cases o with
  | none => exact .non
  | some i => exact .int i
theorem nats_all (n : Nat) (js : List Nat) : js.all (fun k => decide (0 ≤ (k : Int)) && decide ((k : Int) < (n : Int))) = js.all fun k => decide (k < n) := by
  congr 1
  funext k
  rw [decide_eq_true (show (0 : Int) ≤ (k : Int) by omega), Bool.true_and]
  exact decide_eq_decide.mpr (by omega)
theorem rv_neLen {K : PySem.W.Frag} (o : Option Int) (d : D) (ds : List D) : RV K (rNeD K) (optD o) (.int ((d :: ds).length : Int)) (.bl (!decide (o = some (ds.length + 1 : Int)))) :=
  rv_neS (by cases o <;> rfl) rfl (by cases o <;> rfl) rfl (by
    rw [decide_eq_true_eq]
    cases o with
    | none => exact ⟨fun z => (by cases z), fun z => (by cases z)⟩
    | some i =>
      show some i = some _ ↔ D.int i = D.int _
      rw [Option.some.injEq, D.int.injEq, List.length_cons]
      omega)

section
variable {P : Program} {w : World} {K : PySem.W.Frag} {mg : Str → Option Value} {base : Heap}
theorem ok_is_step {f : Addr} {fd : FuncData} (F : FnP K "is_step" s_is_step f fd) (g : mg "is_step" = some (.ref f)) (M : Mods K mg w) (C_is_joint : Cal P w K mg base CX0 2 "is_joint" ["count", "joint"] (spD K R_is_joint)) : Cal P w K mg base CX0 3 "is_step" ["count", "step"] (spD K R_is_step) := by
  refine ⟨f, fd, F.ok sc_is_step (spD_len fun ds d r => by cases r <;> rfl) (fun cdv A outer s H vs Q E hr h => ?_), g, F.kp, F.bindsN fun _ _ _ _ _ _ us hl => match us, hl with | [_, _], _ => rfl⟩
  have hu := hr.units
  refine ⟨_, PSs.nox (pss_cons (ps_if (PW.pt (pw_or (pt_not (pt_val (pe_callB (ok_isi (K := K) rfl) (by rfl) M.m_isinstance (by decide +kernel) (pa_cons (pv 1) (pa_cons (pe_bltn (v := .ty "tuple") (by rfl) M.m_tuple (by decide +kernel) rfl) pa_nil))))) (pw_or1 (pt_not (pt_truth (pv 1) (by intro _; rfl)))))) (pss_one (ps_ret pe_bl)) pss_nil)
      (pss_cons (ps_asg (pv 1) (pg_star (K := K) (i := 1) rfl rfl (pgs_cons (pg_name (i := 2) sc_is_step.nd rfl (Or.inl rfl)) (pgs_star (pg_name (i := 3) sc_is_step.nd rfl (Or.inl rfl)) pgs_nil))))
      (pss_cons (ps_if (PW.pt (pw_or (pt_not (pt_val (pe_callB (ok_isi (K := K) rfl) (by rfl) M.m_isinstance (by decide +kernel) (pa_cons (pv 2) (pa_cons (pe_bltn (v := .ty "str") (by rfl) M.m_str (by decide +kernel) rfl) pa_nil))))) (pw_or1 (pt_cmpR (ok_ne (K := K) rfl hu) (pe_kget (K := K) (w := w) rfl rfl (pe_glob (v := .ref (He.ga K "LENGTHS")) rfl M.k_LENGTHS rfl) (pv 2) ⟨rfl, rfl, rfl, rfl⟩) (pe_callB (ok_len (K := K) rfl) (by rfl) M.m_len (by decide +kernel) (pa_cons (pv 1) pa_nil)) (nomark _))))) (pss_one (ps_ret pe_bl)) pss_nil)
      (pss_one (ps_ret (pe_and (pe_callB (ok_all (K := K) rfl rfl) (by rfl) M.m_all (by decide +kernel) (pa_cons (pe_lc (own := [("joint", 4)]) (g := (gName 4)) (tt := tYes) rfl sc_is_step.nd (ok_ilist (K := K) rfl (pv 3)) (blkOk_by (N := ["count", "step", "word", "joints", "joint"]) (sc := defScope s_is_step) (by decide +kernel)) (fun _ _ _ _ _ => (pg_name (i := 4) sc_is_step.nd rfl (Or.inl rfl))) (fun _ _ _ _ _ => pts_nil) (fun _ _ _ _ _ => (pe_cal C_is_joint hr (by decide) pass0 (pa_cons (pv 0) (pa_cons (pv 4) pa_nil))))) pa_nil)) (pe_one (pe_cmpR (ok_eq (K := K) rfl hu) (pe_callB (ok_lenSet (w := w) rfl) (by rfl) M.m_len (by decide +kernel) (pa_cons (pe_callTy (ok_set (K := K) (w := w) rfl rfl rfl) (by rfl) M.m_set (by decide +kernel) (pa_cons (pv 3) pa_nil)) pa_nil)) (pe_callB (ok_len (K := K) rfl) (by rfl) M.m_len (by decide +kernel) (pa_cons (pv 3) pa_nil)) (nomark _))))))))), ?_⟩
  refine T.fin (K := K) h fun ds d rel => ?_
  cases rel with | mk n d b h16 h =>
  have kg : ∀ {x : Str} {o : Option Int}, (x, o) ∈ [(("bar" : Str), some (3 : Int)), ("two", some 4), ("three", some 5), ("Two", none)] → KGot K w (He.ga K "LENGTHS") x (gotV o) := fun {x o} h => M.l_LENGTHS (x, o) h
  have okx : ∀ {x : Str} {o : Option Int}, (x, o) ∈ [(("bar" : Str), some (3 : Int)), ("two", some 4), ("three", some 5), ("Two", none)] → PyData.strOk x = true := fun {x o} h => by
    simp only [List.mem_cons, List.not_mem_nil, or_false, Prod.mk.injEq] at h
    rcases h with ⟨rfl, _⟩ | ⟨rfl, _⟩ | ⟨rfl, _⟩ | ⟨rfl, _⟩ <;> decide +kernel
  have kd := M.d_LENGTHS
  cases h with
  | noTup h =>
    refine T.guard (b := !false || false) (et_or (et_not (et_B (ev_cb (ea_cons (ev_var rfl) (ea_cons ev_ty ea_nil)) ?_))) fun hb => by cases hb) (fun _ => T.ret (d := .bl false) ev_bl (show D.bl false = D.bl false from rfl)) fun hb => by cases hb
    rcases h with h | h | h
    · exact rc_isi (by rw [h]; decide +kernel) (by rw [h]; decide)
    · exact rc_isi (by rw [h]; decide +kernel) (by rw [h]; decide)
    · exact rc_isi (by rw [h]; decide +kernel) (by rw [h]; decide)
  | @badWord x ds h hl =>
    refine T.guard (b := !true || !(!(x :: ds).isEmpty)) (et_or (et_not (et_B (ev_cb (ea_cons (ev_var rfl) (ea_cons ev_ty ea_nil)) (rc_isiK "tuple" rfl (by decide +kernel) (by decide))))) fun _ => et_not (et_truT (ds := x :: ds) (ev_var rfl))) (fun hb => by cases hb) fun _ => ?_
    refine T.seq (ρ1 := [.k (.int (n : Int)), .k (.tup (x :: ds)), .k x, .k (.lst ds), .u]) (T.asgStar (n := 1) (ds := x :: ds) (ev_var rfl) (by simp) (by simp; omega) (show EvGs K _ [x, .lst ds] _ from egs_cons eg_name (egs_cons eg_name egs_nil)) rfl) ?_
    refine T.guard (b := !false || false) (et_or (et_not (et_B (ev_cb (ea_cons (ev_var rfl) (ea_cons ev_ty ea_nil)) ?_))) fun hb => by cases hb) (fun _ => T.ret (d := .bl false) ev_bl (show D.bl false = D.bl false from rfl)) fun hb => by cases hb
    rcases h with h | h
    · exact rc_isi (by rw [h]; decide +kernel) (by rw [h]; decide)
    · rw [h]
      exact rc_isiDc (by decide +kernel)
  | @badLen x o ds hx h hl =>
    refine T.guard (b := !true || !(!(D.str x :: ds).isEmpty)) (et_or (et_not (et_B (ev_cb (ea_cons (ev_var rfl) (ea_cons ev_ty ea_nil)) (rc_isiK "tuple" rfl (by decide +kernel) (by decide))))) fun _ => et_not (et_truT (ds := D.str x :: ds) (ev_var rfl))) (fun hb => by cases hb) fun _ => ?_
    refine T.seq (ρ1 := [.k (.int (n : Int)), .k (.tup (.str x :: ds)), .k (.str x), .k (.lst ds), .u]) (T.asgStar (n := 1) (ds := .str x :: ds) (ev_var rfl) (by rw [List.length_cons]; omega) (by rw [List.length_cons]; omega) (show EvGs K _ [.str x, .lst ds] _ from egs_cons eg_name (egs_cons eg_name egs_nil)) rfl) ?_
    refine T.guard (b := !true || !decide (o = some ((ds).length + 1 : Int))) (et_or (et_not (et_B (ev_cb (ea_cons (ev_var rfl) (ea_cons ev_ty ea_nil)) (rc_isiK "str" rfl (by decide +kernel) (by decide))))) fun _ => et_test (ev_op (ev_kget (x := optD (o)) (v := gotV (o)) ev_adr kd (ev_var rfl) (kg hx) (rd_gotV _)) (ev_cb (ea_cons (ev_var rfl) ea_nil) rc_lenT) (rv_neLen _ _ _))) (fun hb => ?_) fun hb => ?_
    · exact T.ret (d := .bl false) ev_bl (show D.bl false = D.bl false from rfl)
    · rw [decide_eq_false h] at hb
      cases hb
  | @joints x ds bs hx hl h hj hbs =>
    have hx' : (x, some (ds.length + 1 : Int)) ∈ [(("bar" : Str), some (3 : Int)), ("two", some 4), ("three", some 5), ("Two", none)] := List.mem_append_left [(("Two" : Str), (none : Option Int))] hx
    refine T.guard (b := !true || !(!(D.str x :: ds).isEmpty)) (et_or (et_not (et_B (ev_cb (ea_cons (ev_var rfl) (ea_cons ev_ty ea_nil)) (rc_isiK "tuple" rfl (by decide +kernel) (by decide))))) fun _ => et_not (et_truT (ds := D.str x :: ds) (ev_var rfl))) (fun hb => by cases hb) fun _ => ?_
    refine T.seq (ρ1 := [.k (.int (n : Int)), .k (.tup (.str x :: ds)), .k (.str x), .k (.lst ds), .u]) (T.asgStar (n := 1) (ds := .str x :: ds) (ev_var rfl) (by rw [List.length_cons]; omega) (by rw [List.length_cons]; omega) (show EvGs K _ [.str x, .lst ds] _ from egs_cons eg_name (egs_cons eg_name egs_nil)) rfl) ?_
    refine T.guard (b := !true || !decide (some (ds.length + 1 : Int) = some ((ds).length + 1 : Int))) (et_or (et_not (et_B (ev_cb (ea_cons (ev_var rfl) (ea_cons ev_ty ea_nil)) (rc_isiK "str" rfl (by decide +kernel) (by decide))))) fun _ => et_test (ev_op (ev_kget (x := optD (some (ds.length + 1 : Int))) (v := gotV (some (ds.length + 1 : Int))) ev_adr kd (ev_var rfl) (kg hx') (rd_gotV _)) (ev_cb (ea_cons (ev_var rfl) ea_nil) rc_lenT) (rv_neLen _ _ _))) (fun hb => ?_) fun hb => ?_
    · rw [decide_eq_true rfl] at hb
      cases hb
    refine T.ret (d := .bl (bs.all id && false)) (ev_and (ev_cb (ea_cons (EvF.data (EvF.to (evF_lcM (α := D × Bool) (xs := ds.zip bs) (gd := Prod.fst) (ei_list (EvD.to (ev_var rfl) (by rw [List.map_fst_zip (by omega)]))) (fun p => [(4, p.1)]) (fun _ => true) (fun p => D.bl p.2) (fun p _ => eg_name) (fun p _ q hq => by rw [List.mem_singleton.mp hq]; simp) (fun p _ => et_yes) (fun p hp _ => ev_call (ea_cons (ev_var rfl) (ea_cons (ev_var rfl) ea_nil)) (R_is_joint.of ?_)) (by rw [List.length_zip]; omega)) (by rw [List.filter_eq_self.mpr fun _ _ => rfl]; exact (List.map_map (f := Prod.snd) (g := D.bl) (l := ds.zip bs)).symm.trans (congrArg (List.map D.bl) (List.map_snd_zip (by omega)))))) ea_nil) rc_all) fun z => by rw [hbs] at z; cases z) ?_
    · obtain ⟨i, hi, e⟩ := List.mem_iff_getElem.mp hp
      have hi2 : i < ds.length ∧ i < bs.length := by rw [List.length_zip] at hi; omega
      rw [List.getElem_zip] at e
      subst e
      exact hj i _ _ (List.getElem?_eq_getElem hi2.1) (List.getElem?_eq_getElem hi2.2)
    · rw [hbs]
      rfl
  | @nats js h1 h2 =>
    have hx : (wordOf js.length, some ((nD js).length + 1 : Int)) ∈ [(("bar" : Str), some (3 : Int)), ("two", some 4), ("three", some 5), ("Two", none)] := by
      rw [nD_len]
      have : js.length = 2 ∨ js.length = 3 ∨ js.length = 4 := by omega
      rcases this with e | e | e <;> rw [e] <;> simp [wordOf]
    have hnl : (nD js).length ≤ 10 := by rw [nD_len]; omega
    refine T.guard (b := !true || !(!(D.str (wordOf js.length) :: (nD js)).isEmpty)) (et_or (et_not (et_B (ev_cb (ea_cons (ev_var rfl) (ea_cons ev_ty ea_nil)) (rc_isiK "tuple" rfl (by decide +kernel) (by decide))))) fun _ => et_not (et_truT (ds := D.str (wordOf js.length) :: (nD js)) (ev_var rfl))) (fun hb => by cases hb) fun _ => ?_
    refine T.seq (ρ1 := [.k (.int (n : Int)), .k (.tup (.str (wordOf js.length) :: (nD js))), .k (.str (wordOf js.length)), .k (.lst (nD js)), .u]) (T.asgStar (n := 1) (ds := .str (wordOf js.length) :: (nD js)) (ev_var rfl) (by rw [List.length_cons]; omega) (by rw [List.length_cons]; omega) (show EvGs K _ [.str (wordOf js.length), .lst (nD js)] _ from egs_cons eg_name (egs_cons eg_name egs_nil)) rfl) ?_
    refine T.guard (b := !true || !decide (some ((nD js).length + 1 : Int) = some (((nD js)).length + 1 : Int))) (et_or (et_not (et_B (ev_cb (ea_cons (ev_var rfl) (ea_cons ev_ty ea_nil)) (rc_isiK "str" rfl (by decide +kernel) (by decide))))) fun _ => et_test (ev_op (ev_kget (x := optD (some ((nD js).length + 1 : Int))) (v := gotV (some ((nD js).length + 1 : Int))) ev_adr kd (ev_var rfl) (kg hx) (rd_gotV _)) (ev_cb (ea_cons (ev_var rfl) ea_nil) rc_lenT) (rv_neLen _ _ _))) (fun hb => ?_) fun hb => ?_
    · rw [decide_eq_true rfl] at hb
      cases hb
    refine T.ret (d := .bl (js.all (fun k => decide (0 ≤ (k : Int)) && decide ((k : Int) < (n : Int))) && decide (((nub (kI js)).length : Int) = ((nD js).length : Int)))) (ev_and (EvD.to (ev_cb (ea_cons (EvF.data (EvF.to (evF_lcM (α := Nat) (xs := js) (gd := fun k : Nat => D.int (k : Int)) (ei_list (ev_var rfl)) (fun k => [(4, .int (k : Int))]) (fun _ => true) (fun k => D.bl (decide (0 ≤ (k : Int)) && decide ((k : Int) < (n : Int)))) (fun k _ => eg_name) (fun k _ q hq => by rw [List.mem_singleton.mp hq]; simp) (fun k _ => et_yes) (fun k _ _ => ev_call (ea_cons (ev_var rfl) (ea_cons (ev_var rfl) ea_nil)) (.int (n : Int) (k : Int))) (by omega)) (by rw [List.filter_eq_self.mpr fun _ _ => rfl]; exact (List.map_map (f := fun k : Nat => decide (0 ≤ (k : Int)) && decide ((k : Int) < (n : Int))) (g := D.bl)).symm))) ea_nil) rc_all) (by rw [List.all_map]; rfl)) fun _ => ev_op (ev_lenSet (ns := kI js) (EvD.to (ev_var rfl) (by rw [nD_kI])) (by rw [kI_len]; omega)) (ev_cb (ea_cons (ev_var rfl) ea_nil) rc_lenL) rv_eqI) ?_
    show D.bl _ = D.bl (okStep n js)
    rw [nats_all]
    unfold okStep
    rw [decide_eq_true h1, decide_eq_true h2]
    show D.bl _ = D.bl (js.all (fun k => decide (k < n)) && decide js.Nodup)
    have e : decide (((nub (kI js)).length : Int) = ((nD js).length : Int)) = decide js.Nodup := decide_eq_decide.mpr (by
      have z := nub_len (l := kI js)
      rw [kI_len] at z
      rw [nD_len]
      refine (show _ ↔ (nub (kI js)).length = js.length by omega).trans (z.trans ?_)
      unfold kI
      exact ⟨fun h => (List.pairwise_map.mp h).imp fun {a b} ne e => ne (by rw [e]), fun h => List.pairwise_map.mpr (h.imp fun {a b} ne e => ne (by omega))⟩)
    rw [e]
end
/-! ### may_follow -/
abbrev s_may_follow : Stmt := top 19
theorem sc_may_follow : FnScope ["rows", "step", "word", "joint", "ends", "there", "end"] ["rows", "step"] (defScope s_may_follow) := ⟨rfl, rfl, rfl, by decide +kernel, rfl, by decide +kernel, by decide +kernel⟩
inductive R_may_follow : List D → D → Prop
  | mk (n : Nat) (rows : List Fr.Bar) (js : List Nat) (h16 : n ≤ 16) (ok : Fr.Ok n rows) (hs : okStep n js = true) (hl : rows.length ≤ 60) : R_may_follow [.lst (brs rows), stepD js] (.bl (mayB rows js))
theorem brs_empty (rows : List Fr.Bar) : (brs rows).isEmpty = rows.isEmpty := by cases rows <;> rfl
theorem R_joints_of.jts {n : Nat} {rows : List Fr.Bar} (h16 : n ≤ 16) (ok : Fr.Ok n rows) : R_joints_of [.lst (brs rows)] ((kI (jtsL n rows)).map D.int) := by
  refine .mk (rows.map bI) (kI (jtsL n rows)) (kI_lt jtsL_rise) (by rw [kI_len]; have := jtsL_len (n := n) (rows := rows); omega) fun k => ?_
  constructor
  · intro hk
    obtain ⟨i, hi, rfl⟩ := List.mem_map.mp hk
    obtain ⟨b, hb, e⟩ := isJt_iff.mp (jtsL_mem.mp hi).2
    refine ⟨bI b, List.mem_map_of_mem hb, ?_⟩
    unfold bI
    rcases e with rfl | rfl <;> simp
  · rintro ⟨c, hc, hk⟩
    obtain ⟨b, hb, rfl⟩ := List.mem_map.mp hc
    obtain ⟨o1, o2, _⟩ := ok b hb
    unfold bI at hk
    simp only [List.mem_cons, List.not_mem_nil, or_false] at hk
    rcases hk with rfl | rfl
    · exact kI_mem.mpr (jtsL_mem.mpr ⟨o1, isJt_iff.mpr ⟨b, hb, .inl rfl⟩⟩)
    · exact kI_mem.mpr (jtsL_mem.mpr ⟨o2, isJt_iff.mpr ⟨b, hb, .inr rfl⟩⟩)
theorem jts_dec {n : Nat} {rows : List Fr.Bar} (ok : Fr.Ok n rows) (k : Nat) : decide ((k : Int) ∈ kI (jtsL n rows)) = isJt rows k := by
  cases h : isJt rows k with
  | true => exact decide_eq_true (kI_mem.mpr (jtsL_mem.mpr ⟨jt_lt ok h, h⟩))
  | false =>
    refine decide_eq_false fun z => ?_
    have := (jtsL_mem.mp (kI_mem.mp z)).2
    rw [h] at this
    cases this
/-- all([end in there for end in ends]) -/
theorem ev_allIn {K : PySem.W.Frag} {ρ : Rho} {wi : TI} {te : TE} {j : Nat} {vs rest : List Nat} {f : Nat → Bool} (hi : EvI K wi ρ (rest.map fun k : Nat => D.int (k : Int))) (hj : j ∈ vs) (he : ∀ k : Nat, EvD K te (setR (wipeR ρ vs) [(j, .int (k : Int))]) (.bl (f k))) (h2 : rest.length ≤ 10) :
    EvD K (tCB (rAll K) (tCons (tLc wi (gName j) tYes te vs) tNil)) ρ (.bl (rest.all f)) :=
  EvD.to (ev_cb (ea_cons (EvF.data (EvF.to (evF_lcM (α := Nat) (xs := rest) (gd := fun k : Nat => D.int (k : Int)) hi (fun k => [(j, .int (k : Int))]) (fun _ => true) (fun k => D.bl (f k)) (fun k _ => eg_name) (fun k _ p hp => by rw [List.mem_singleton.mp hp]; exact hj) (fun k _ => et_yes) (fun k _ _ => he k) (by omega)) (by rw [List.filter_eq_self.mpr fun _ _ => rfl]; exact (List.map_map (f := f) (g := D.bl)).symm))) ea_nil) rc_all) (by rw [List.all_map]; rfl)

section
variable {P : Program} {w : World} {K : PySem.W.Frag} {mg : Str → Option Value} {base : Heap}
theorem ok_may_follow {f : Addr} {fd : FuncData} (F : FnP K "may_follow" s_may_follow f fd) (g : mg "may_follow" = some (.ref f)) (M : Mods K mg w) (C_joints_of : Cal P w K mg base CX0 1 "joints_of" ["bars"] (spF K R_joints_of)) (C_lesser_first : Cal P w K mg base CX0 1 "lesser_first" ["one", "other"] (spD K R_lesser_first)) : Cal P w K mg base CX0 2 "may_follow" ["rows", "step"] (spD K R_may_follow) := by
  refine ⟨f, fd, F.ok sc_may_follow (spD_len fun ds d r => by cases r <;> rfl) (fun cdv A outer s H vs Q E hr h => ?_), g, F.kp, F.bindsN fun _ _ _ _ _ _ us hl => match us, hl with | [_, _], _ => rfl⟩
  have hu := hr.units
  have h65 := units65 hr
  refine ⟨_, PSs.nox (pss_cons (ps_asg (pv 1) (pg_star (K := K) (i := 2) rfl rfl (pgs_cons (pg_name (i := 2) sc_may_follow.nd rfl (Or.inl rfl)) (pgs_cons (pg_name (i := 3) sc_may_follow.nd rfl (Or.inl rfl)) (pgs_star (pg_name (i := 4) sc_may_follow.nd rfl (Or.inl rfl)) pgs_nil)))))
      (pss_cons (ps_if (pt_cmpR (ok_eq (K := K) rfl hu) (pv 2) pe_str (nomark _)) (pss_one (ps_ret (ok_notT (K := K) rfl (pv 0)))) pss_nil)
      (pss_cons (ps_set (i := 5) sc_may_follow.nd rfl (Or.inr rfl) (pe_cal C_joints_of hr (by decide) pass0 (pa_cons (pv 0) pa_nil)))
      (pss_cons (ps_if (PW.pt (pw_or (pt_cmpR (ok_in (K := K) rfl) (pv 3) (pv 5) (by with_unfolding_all rfl)) (pw_or1 (pt_not (pt_val (pe_callB (ok_all (K := K) rfl rfl) (by rfl) M.m_all (by decide +kernel) (pa_cons (pe_lc (own := [("end", 6)]) (g := (gName 6)) (tt := tYes) rfl sc_may_follow.nd (ok_ilist (K := K) rfl (pv 4)) (blkOk_by (N := ["rows", "step", "word", "joint", "ends", "there", "end"]) (sc := defScope s_may_follow) (by decide +kernel)) (fun _ _ _ _ _ => (pg_name (i := 6) sc_may_follow.nd rfl (Or.inl rfl))) (fun _ _ _ _ _ => pts_nil) (fun _ _ _ _ _ => (pe_cmpR (ok_in (K := K) rfl) (pv 6) (pv 5) (by with_unfolding_all rfl)))) pa_nil))))))) (pss_one (ps_ret pe_bl)) pss_nil)
      (pss_one (ps_ret (pe_or (pe_cmpR (ok_eq (K := K) rfl hu) (pv 2) pe_str (nomark _)) (pe_one (pe_cmpR (ok_inD (K := K) rfl h65) (pe_cal C_lesser_first hr (by decide) pass0 (pa_cons (pe_ix (ok_ix (K := K) rfl) (pv 4) pe_int (fun _ _ => rfl)) (pa_cons (pe_ix (ok_ix (K := K) rfl) (pv 4) pe_int (fun _ _ => rfl)) pa_nil))) (pv 0) (by with_unfolding_all rfl)))))))))), ?_⟩
  refine T.fin (K := K) h fun ds d rel => ?_
  cases rel with | mk n rows js h16 ok hs hl =>
  rcases okStep_cases hs with ⟨a, b, rfl⟩ | ⟨v, a, b, rfl⟩ | ⟨v, a, b, c, rfl⟩
  · refine T.seq (ρ1 := [.k (.lst (brs rows)), .k (stepD [a, b]), .k (.str "bar"), .k (.int (a : Int)), .k (.lst [.int (b : Int)]), .u, .u]) (T.asgStar (n := 2) (ds := .str "bar" :: nD [a, b]) (ev_var rfl) (Nat.le_of_ble_eq_true rfl) (Nat.le_of_ble_eq_true rfl) (show EvGs K _ [.str "bar", .int (a : Int), .lst [.int (b : Int)]] _ from egs_cons eg_name (egs_cons eg_name (egs_cons eg_name egs_nil))) rfl) ?_
    exact T.guard (b := decide (("bar" : Str) = "bar")) (et_test (ev_op (ev_var rfl) ev_str (rv_eqStr (by decide +kernel) (by decide +kernel)))) (fun _ => T.ret (ev_notL (ev_var rfl)) (by rw [brs_empty]; rfl)) fun hb => absurd rfl (of_decide_eq_false hb)
  · refine T.seq (ρ1 := [.k (.lst (brs rows)), .k (stepD [v, a, b]), .k (.str "two"), .k (.int (v : Int)), .k (.lst (nD [a, b])), .u, .u]) (T.asgStar (n := 2) (ds := .str "two" :: nD [v, a, b]) (ev_var rfl) (Nat.le_of_ble_eq_true rfl) (Nat.le_of_ble_eq_true rfl) (show EvGs K _ [.str "two", .int (v : Int), .lst (nD [a, b])] _ from egs_cons eg_name (egs_cons eg_name (egs_cons eg_name egs_nil))) rfl) ?_
    refine T.guard (b := decide (("two" : Str) = "bar")) (et_test (ev_op (ev_var rfl) ev_str (rv_eqStr (by decide +kernel) (by decide +kernel)))) (fun hb => absurd (of_decide_eq_true hb) (by decide +kernel)) fun _ => ?_
    refine T.seq (ρ1 := [.k (.lst (brs rows)), .k (stepD [v, a, b]), .k (.str "two"), .k (.int (v : Int)), .k (.lst (nD [a, b])), .k (.lst ((kI (jtsL n rows)).map D.int)), .u]) (T.asg (EvF.data (ev_callF (ea_cons (ev_var rfl) ea_nil) (R_joints_of.jts h16 ok))) rfl) ?_
    refine T.guard (b := isJt rows v || !([a, b].all (isJt rows))) (et_or (EvT.to (et_test (ev_op (ev_var rfl) (ev_var rfl) rv_inL)) (jts_dec ok v)) fun _ => et_not (et_B (ev_allIn (rest := [a, b]) (ei_list (ev_var rfl)) (by simp) (fun k => EvD.to (ev_op (ev_var rfl) (ev_var rfl) rv_inL) (congrArg D.bl (jts_dec ok k))) (by simp)))) (fun hb => T.ret ev_bl ?_) fun hb => ?_
    · show D.bl false = D.bl (mayB rows [v, a, b])
      revert hb
      unfold mayB
      simp only [List.all_cons, List.all_nil, Bool.and_true]
      cases isJt rows v <;> cases isJt rows a <;> cases isJt rows b <;> intro hb <;> first | rfl | exact absurd hb (by decide)
    · refine T.ret (d := .bl (decide (("two" : Str) = "two") || false)) (ev_or (ev_op (ev_var rfl) ev_str (rv_eqStr (by decide +kernel) (by decide +kernel))) fun hb => absurd rfl (of_decide_eq_false hb)) ?_
      show D.bl true = D.bl (mayB rows [v, a, b])
      revert hb
      unfold mayB
      simp only [List.all_cons, List.all_nil, Bool.and_true]
      cases isJt rows v <;> cases isJt rows a <;> cases isJt rows b <;> intro hb <;> first | rfl | exact absurd hb (by decide)
  · refine T.seq (ρ1 := [.k (.lst (brs rows)), .k (stepD [v, a, b, c]), .k (.str "three"), .k (.int (v : Int)), .k (.lst (nD [a, b, c])), .u, .u]) (T.asgStar (n := 2) (ds := .str "three" :: nD [v, a, b, c]) (ev_var rfl) (Nat.le_of_ble_eq_true rfl) (Nat.le_of_ble_eq_true rfl) (show EvGs K _ [.str "three", .int (v : Int), .lst (nD [a, b, c])] _ from egs_cons eg_name (egs_cons eg_name (egs_cons eg_name egs_nil))) rfl) ?_
    refine T.guard (b := decide (("three" : Str) = "bar")) (et_test (ev_op (ev_var rfl) ev_str (rv_eqStr (by decide +kernel) (by decide +kernel)))) (fun hb => absurd (of_decide_eq_true hb) (by decide +kernel)) fun _ => ?_
    refine T.seq (ρ1 := [.k (.lst (brs rows)), .k (stepD [v, a, b, c]), .k (.str "three"), .k (.int (v : Int)), .k (.lst (nD [a, b, c])), .k (.lst ((kI (jtsL n rows)).map D.int)), .u]) (T.asg (EvF.data (ev_callF (ea_cons (ev_var rfl) ea_nil) (R_joints_of.jts h16 ok))) rfl) ?_
    refine T.guard (b := isJt rows v || !([a, b, c].all (isJt rows))) (et_or (EvT.to (et_test (ev_op (ev_var rfl) (ev_var rfl) rv_inL)) (jts_dec ok v)) fun _ => et_not (et_B (ev_allIn (rest := [a, b, c]) (ei_list (ev_var rfl)) (by simp) (fun k => EvD.to (ev_op (ev_var rfl) (ev_var rfl) rv_inL) (congrArg D.bl (jts_dec ok k))) (by simp)))) (fun hb => T.ret ev_bl ?_) fun hb => ?_
    · show D.bl false = D.bl (mayB rows [v, a, b, c])
      revert hb
      unfold mayB
      simp only [List.all_cons, List.all_nil, Bool.and_true]
      cases isJt rows v <;> cases isJt rows a <;> cases isJt rows b <;> cases isJt rows c <;> cases decide (loB a b ∈ rows) <;> intro hb <;> first | rfl | exact absurd hb (by decide)
    · refine T.ret (d := .bl (decide (("three" : Str) = "two") || decide (loB a b ∈ rows))) (ev_or (ev_op (ev_var rfl) ev_str (rv_eqStr (by decide +kernel) (by decide +kernel))) fun _ => ev_op (ev_call (ea_cons (ev_op (ev_var rfl) ev_int (rv_ixL (atI_int (Int.le_refl 0) rfl))) (ea_cons (ev_op (ev_var rfl) ev_int (rv_ixL (atI_int (show (0 : Int) ≤ 1 by decide) rfl))) ea_nil)) (.mk a b)) (ev_var rfl) (rv_inD rfl (fun d hd => brs_okd d hd) rfl (fun d hd => brs_sm d hd) ?_)) ?_
      · rw [decide_eq_true_eq]
        exact ⟨fun h => List.mem_map_of_mem (List.mem_map_of_mem h), fun h => by
          obtain ⟨x, hx, e⟩ := brs_mem h
          exact barI_inj _ _ e ▸ hx⟩
      · show D.bl (decide (("three" : Str) = "two") || decide (loB a b ∈ rows)) = D.bl (mayB rows [v, a, b, c])
        rw [decide_eq_false (show ¬ ("three" : Str) = "two" by decide +kernel)]
        revert hb
        unfold mayB
        simp only [List.all_cons, List.all_nil, Bool.and_true]
        cases isJt rows v <;> cases isJt rows a <;> cases isJt rows b <;> cases isJt rows c <;> cases decide (loB a b ∈ rows) <;> intro hb <;> first | rfl | exact absurd hb (by decide)
end
/-! ### built -/
abbrev s_built : Stmt := top 17
theorem sc_built : FnScope ["count", "steps", "rows", "place", "step"] ["count", "steps"] (defScope s_built) := ⟨rfl, rfl, rfl, by decide +kernel, rfl, by decide +kernel, by decide +kernel⟩
theorem step_fits (i : Nat) (h : i < 21) : (Str.empty ++ ("step " : Str)).length ≤ 100 ∧ (Str.empty ++ ("step " : Str) ++ toString (i : Int)).length ≤ 100 ∧ (Str.empty ++ ("step " : Str) ++ toString (i : Int) ++ (" is none that can be taken there" : Str)).length ≤ 100 := by
  revert i
  decide +kernel
inductive R_built : List D → List D → Prop
  | mk (n : Nat) (plan : List (List Nat)) (rows : List Fr.Bar) (h1 : 1 ≤ n) (h16 : n ≤ 16) (g : Goes n [] plan rows) (hl : plan.length ≤ 16) (hf : n ≤ 1 ∨ (jtsL n rows).length = n) : R_built [.int (n : Int), .lst (plan.map stepD)] ((sortB (rows.map bI)).map barD)
inductive Rx_built : List D → Prop
  | noList (n : Nat) (d : D) (h1 : 1 ≤ n) (h16 : n ≤ 16) (h : d.kind = "NoneType" ∨ d.kind = "str" ∨ d.kind = "tuple") : Rx_built [.int (n : Int), d]
  | rfs (n : Nat) (ds : List D) (h1 : 1 ≤ n) (h16 : n ≤ 16) (h : Rfs n ds) (hl : ds.length ≤ 18) : Rx_built [.int (n : Int), .lst ds]

section
variable {P : Program} {w : World} {K : PySem.W.Frag} {mg : Str → Option Value} {base : Heap}
theorem ok_built {f : Addr} {fd : FuncData} (F : FnP K "built" s_built f fd) (g : mg "built" = some (.ref f)) (M : Mods K mg w) (C_check_count : Cal P w K mg base CX0 2 "check_count" ["count"] (spD K R_check_count)) (C_after : Cal P w K mg base CX0 2 "after" ["rows", "step"] (spF K R_after)) (C_is_step : Cal P w K mg base CX0 3 "is_step" ["count", "step"] (spD K R_is_step)) (C_may_follow : Cal P w K mg base CX0 2 "may_follow" ["rows", "step"] (spD K R_may_follow)) (C_joints_of : Cal P w K mg base CX0 1 "joints_of" ["bars"] (spF K R_joints_of)) : Cal P w K mg base CX0 4 "built" ["count", "steps"] (spF K R_built) := by
  refine ⟨f, fd, F.ok sc_built (spF_len fun ds d r => by cases r <;> rfl) (fun cdv A outer s H vs Q E hr h => ?_), g, F.kp, F.bindsN fun _ _ _ _ _ _ us hl => match us, hl with | [_, _], _ => rfl⟩
  have hu := hr.units
  refine ⟨_, PSs.nox (pss_cons (ps_expr (pe_cal C_check_count hr (by decide) pass0 (pa_cons (pv 0) pa_nil)))
      (pss_cons (ps_if (pt_not (pt_val (pe_callB (ok_isi (K := K) rfl) (by rfl) M.m_isinstance (by decide +kernel) (pa_cons (pv 1) (pa_cons (pe_bltn (v := .ty "list") (by rfl) M.m_list (by decide +kernel) rfl) pa_nil))))) (pss_one ps_never) pss_nil)
      (pss_cons (ps_set (i := 2) sc_built.nd rfl (Or.inl rfl) (pe_lst pa_nil))
      (pss_cons (ps_for PassesOwn.never rfl (ok_ienum (K := K) rfl (by rfl) M.m_enumerate (pa_cons (pv 1) pa_nil)) (ok_tup (K := K) rfl rfl (pgs_cons (pg_name (i := 3) sc_built.nd rfl (Or.inl rfl)) (pgs_cons (pg_name (i := 4) sc_built.nd rfl (Or.inl rfl)) pgs_nil))) (pss_cons (ps_if (PW.pt (pw_or (pt_not (pt_val (pe_cal C_is_step hr (by decide) pass0 (pa_cons (pv 0) (pa_cons (pv 4) pa_nil))))) (pw_or1 (pt_not (pt_val (pe_cal C_may_follow hr (by decide) pass0 (pa_cons (pv 2) (pa_cons (pv 4) pa_nil)))))))) (pss_one ps_never) pss_nil)
      (pss_one (ps_set (i := 2) sc_built.nd rfl (Or.inl rfl) (pe_cal C_after hr (by decide) pass0 (pa_cons (pv 2) (pa_cons (pv 4) pa_nil)))))))
      (pss_cons (ps_if (PW.pt (pw_and (pt_cmpR op_gt (pv 0) pe_int (nomark _)) (pw_and1 (pt_cmpR op_lt (pe_callB (ok_len (K := K) rfl) (by rfl) M.m_len (by decide +kernel) (pa_cons (pe_cal C_joints_of hr (by decide) pass0 (pa_cons (pv 2) pa_nil)) pa_nil)) (pv 0) (nomark _))))) (pss_one ps_never) pss_nil)
      (pss_one (ps_ret (pe_callB (ok_sortPO (K := K) rfl) (by rfl) M.m_sorted (by decide +kernel) (pa_cons (pv 2) pa_nil))))))))), ?_⟩
  refine T.finF (K := K) h fun ds d rel => ?_
  cases rel with | mk n plan rows h1 h16 g hl hf =>
  refine T.seq (ρ1 := [.k (.int (n : Int)), .k (.lst (plan.map stepD)), .u, .u, .u]) (T.drop (ev_call (ea_cons (ev_var rfl) ea_nil) (.int (n : Int) (by omega) (by omega))) rfl) ?_
  refine T.guard (b := !true) (et_not (et_B (ev_cb (ea_cons (ev_var rfl) (ea_cons ev_ty ea_nil)) (rc_isiK "list" rfl (by decide +kernel) (by decide))))) (fun hb => by cases hb) fun _ => ?_
  refine T.seq (ρ1 := [.k (.int (n : Int)), .k (.lst (plan.map stepD)), .k (.lst (brs [])), .u, .u]) (T.asg (EvF.data (ev_lst ea_nil (Nat.zero_le _))) rfl) ?_
  refine T.seqP (N := fun r => ∃ s3 s4 : Sl, r = [.k (.int (n : Int)), .k (.lst (plan.map stepD)), .k (.lst (brs rows)), s3, s4])
    (T.forE (xs := plan) (gd := stepD) (ei_enum (ea_cons (ev_var rfl) ea_nil)) (fun i r => ∃ (mid : List Fr.Bar) (s3 s4 : Sl), r = [.k (.int (n : Int)), .k (.lst (plan.map stepD)), .k (.lst (brs mid)), s3, s4] ∧ Goes n [] (plan.take i) mid ∧ Goes n mid (plan.drop i) rows) ⟨[], _, _, rfl, .nil, g⟩ ?_ ?_) ?_
  · rintro i js r hjs ⟨mid, s3, s4, rfl, g1, g2⟩
    refine ⟨_, eg_tup (egs_cons eg_name (egs_cons eg_name egs_nil)) rfl, ?_⟩
    obtain ⟨hi, e⟩ := List.getElem?_eq_some_iff.mp hjs
    have ed : plan.drop i = js :: plan.drop (i + 1) := by rw [List.drop_eq_getElem_cons hi, e]
    have et : plan.take (i + 1) = plan.take i ++ [js] := by rw [List.take_add_one, hjs]; rfl
    rw [ed] at g2
    cases g2 with
    | cons a1 a2 a3 =>
      have okm : Fr.Ok n mid := g1.ok fun _ h => nomatch h
      have ml := g1.len
      rw [List.length_take, List.length_nil] at ml
      have st := StepD.nats (n := n) (okStep_iff.mp a1).1.1 (okStep_iff.mp a1).1.2
      rw [a1] at st
      have R1 := R_may_follow.mk n mid js h16 okm a1 (by omega)
      rw [a2] at R1
      refine T.guard (b := !true || !true) (et_or (et_not (et_B (ev_call (ea_cons (ev_var rfl) (ea_cons (ev_var rfl) ea_nil)) (.mk n _ true h16 st)))) fun _ => et_not (et_B (ev_call (ea_cons (ev_var rfl) (ea_cons (ev_var rfl) ea_nil)) R1))) (fun hb => by cases hb) fun _ => ?_
      exact T.asg (EvF.data (ev_callF (ea_cons (ev_var rfl) (ea_cons (ev_var rfl) ea_nil)) (.mk n mid js a2 (by omega)))) ⟨stepRows mid js, _, _, rfl, by rw [et]; exact g1.app (.cons a1 a2 .nil), a3⟩
  · rintro r ⟨mid, s3, s4, rfl, g1, g2⟩
    rw [List.drop_length] at g2
    cases g2
    exact ⟨s3, s4, rfl⟩
  rintro r ⟨s3, s4, rfl⟩
  have okr : Fr.Ok n rows := g.ok fun _ h => nomatch h
  refine T.guard (b := decide ((1 : Int) < (n : Int)) && decide (((jtsL n rows).length : Int) < (n : Int))) (et_and (et_test (ev_op (ev_var rfl) ev_int rv_gt)) fun _ => et_test (ev_op (EvD.to (ev_cb (ea_cons (EvF.data (ev_callF (ea_cons (ev_var rfl) ea_nil) (R_joints_of.jts h16 okr))) ea_nil) rc_lenL) (by rw [List.length_map, kI_len])) (ev_var rfl) rv_lt)) (fun hb => ?_) fun _ => T.retF (ev_cbF (ea_cons (ev_var rfl) ea_nil) rc_sortBars) rfl
  rw [Bool.and_eq_true, decide_eq_true_eq, decide_eq_true_eq] at hb
  exact absurd hb (by omega)
theorem okx_built {f : Addr} {fd : FuncData} (F : FnP K "built" s_built f fd) (g : mg "built" = some (.ref f)) (M : Mods K mg w) (C_check_count : Cal P w K mg base CX0 2 "check_count" ["count"] (spD K R_check_count)) (C_after : Cal P w K mg base CX0 2 "after" ["rows", "step"] (spF K R_after)) (C_is_step : Cal P w K mg base CX0 3 "is_step" ["count", "step"] (spD K R_is_step)) (C_may_follow : Cal P w K mg base CX0 2 "may_follow" ["rows", "step"] (spD K R_may_follow)) (C_joints_of : Cal P w K mg base CX0 1 "joints_of" ["bars"] (spF K R_joints_of)) : Cal P w K mg base (L2N.CX P w) 4 "built" ["count", "steps"] (spX K (He.ga K "BadStep") Rx_built) := by
  refine ⟨f, fd, F.ok sc_built (spX_len fun ds r => by cases r <;> rfl) (fun cdv A outer s H vs Q E hr h => ?_), g, F.kp, F.bindsN fun _ _ _ _ _ _ us hl => match us, hl with | [_, _], _ => rfl⟩
  have hu := hr.units
  refine ⟨_, (pss_cons (ps_expr (pe_cal C_check_count hr (by decide) pass0 (pa_cons (pv 0) pa_nil)))
      (pss_cons (ps_if (pt_not (pt_val (pe_callB (ok_isi (K := K) rfl) (by rfl) M.m_isinstance (by decide +kernel) (pa_cons (pv 1) (pa_cons (pe_bltn (v := .ty "list") (by rfl) M.m_list (by decide +kernel) rfl) pa_nil))))) (pss_one (L2N.ps_raise rfl (L2N.takes_of rfl rfl rfl rfl) (L2N.pmk_own PySem.F.excBase_ValueError M.x_BadStep.1 M.g_BadStep M.x_BadStep.2.1 (raises_own M.x_BadStep.2.2.1 M.x_BadStep.2.2.2) rfl))) pss_nil)
      (pss_cons (ps_set (i := 2) sc_built.nd rfl (Or.inl rfl) (pe_lst pa_nil))
      (pss_cons (ps_for (passes_of rfl) rfl (ok_ienum (K := K) rfl (by rfl) M.m_enumerate (pa_cons (pv 1) pa_nil)) (ok_tup (K := K) rfl rfl (pgs_cons (pg_name (i := 3) sc_built.nd rfl (Or.inl rfl)) (pgs_cons (pg_name (i := 4) sc_built.nd rfl (Or.inl rfl)) pgs_nil))) (pss_cons (ps_if (PW.pt (pw_or (pt_not (pt_val (pe_cal C_is_step hr (by decide) pass0 (pa_cons (pv 0) (pa_cons (pv 4) pa_nil))))) (pw_or1 (pt_not (pt_val (pe_cal C_may_follow hr (by decide) pass0 (pa_cons (pv 2) (pa_cons (pv 4) pa_nil)))))))) (pss_one (L2N.ps_raise rfl (L2N.takes_of rfl rfl rfl rfl) (L2N.pmk_ownE PySem.F.excBase_ValueError M.x_BadStep.1 M.g_BadStep M.x_BadStep.2.1 (raises_own M.x_BadStep.2.2.1 M.x_BadStep.2.2.2) rfl (pe_joined (.cons pe_str (.cons (pe_fmt (pv 3)) (.cons pe_str .nil))))))) pss_nil)
      (pss_one (ps_set (i := 2) sc_built.nd rfl (Or.inl rfl) (pe_cal C_after hr (by decide) pass0 (pa_cons (pv 2) (pa_cons (pv 4) pa_nil)))))))
      (pss_cons (ps_if (PW.pt (pw_and (pt_cmpR op_gt (pv 0) pe_int (nomark _)) (pw_and1 (pt_cmpR op_lt (pe_callB (ok_len (K := K) rfl) (by rfl) M.m_len (by decide +kernel) (pa_cons (pe_cal C_joints_of hr (by decide) pass0 (pa_cons (pv 2) pa_nil)) pa_nil)) (pv 0) (nomark _))))) (pss_one (L2N.ps_raise rfl (L2N.takes_of rfl rfl rfl rfl) (L2N.pmk_own PySem.F.excBase_ValueError M.x_BadStep.1 M.g_BadStep M.x_BadStep.2.1 (raises_own M.x_BadStep.2.2.1 M.x_BadStep.2.2.2) rfl))) pss_nil)
      (pss_one (ps_ret (pe_callB (ok_sortPO (K := K) rfl) (by rfl) M.m_sorted (by decide +kernel) (pa_cons (pv 2) pa_nil))))))))), ?_⟩
  refine Up.fin (K := K) h fun ds rel => ?_
  have ck : ∀ {n : Nat} {d : D}, 1 ≤ n → n ≤ 16 → T K (tDrop (tCall (spD K R_check_count) [] E (tCons (tVar 0) tNil))) [.k (.int (n : Int)), .k d, .u, .u, .u] { nx := fun r => r = [.k (.int (n : Int)), .k d, .u, .u, .u] } := fun {n d} h1 h16 => T.drop (ev_call (ea_cons (ev_var rfl) ea_nil) (.int (n : Int) (by omega) (by omega))) rfl
  cases rel with
  | noList n d h1 h16 h =>
    refine Up.seq (ck h1 h16) (Up.first (Up.if (EvT.to (b := !false) (et_not (et_B (ev_cb (ea_cons (ev_var rfl) (ea_cons ev_ty ea_nil)) ?_))) rfl) Up.raise))
    rcases h with h | h | h
    · exact rc_isi (by rw [h]; decide +kernel) (by rw [h]; decide)
    · exact rc_isi (by rw [h]; decide +kernel) (by rw [h]; decide)
    · exact rc_isi (by rw [h]; decide +kernel) (by rw [h]; decide)
  | rfs n ds h1 h16 h hl =>
    refine Up.seq (ck h1 h16) ?_
    refine Up.seq (ρ1 := [.k (.int (n : Int)), .k (.lst ds), .u, .u, .u]) (T.ifS (b := !true) (et_not (et_B (ev_cb (ea_cons (ev_var rfl) (ea_cons ev_ty ea_nil)) (rc_isiK "list" rfl (by decide +kernel) (by decide))))) (fun hb => by cases hb) fun _ => T.next rfl) ?_
    refine Up.seq (ρ1 := [.k (.int (n : Int)), .k (.lst ds), .k (.lst (brs [])), .u, .u]) (T.asg (EvF.data (ev_lst ea_nil (Nat.zero_le _))) rfl) ?_
    have good : ∀ {mid : List Fr.Bar} {js : List Nat} {i : Nat} {F : FE} {t : TS}, Fr.Ok n mid → mid.length ≤ 60 → okStep n js = true → mayB mid js = true → F.nx [.k (.int (n : Int)), .k (.lst ds), .k (.lst (brs (stepRows mid js))), .k (.int (i : Int)), .k (stepD js)] →
        T K (tSeq (tIfS (tOr (tNot (tB (tCall (spD K R_is_step) [] E (tCons (tVar 0) (tCons (tVar 4) tNil))))) (tNot (tB (tCall (spD K R_may_follow) [] E (tCons (tVar 2) (tCons (tVar 4) tNil)))))) t tNext) (tAsg (tCall (spF K R_after) [] E (tCons (tVar 2) (tCons (tVar 4) tNil))) (gName 2))) [.k (.int (n : Int)), .k (.lst ds), .k (.lst (brs mid)), .k (.int (i : Int)), .k (stepD js)] F := fun {mid js i F t} okm ml a1 a2 hF => by
      have st := StepD.nats (n := n) (okStep_iff.mp a1).1.1 (okStep_iff.mp a1).1.2
      rw [a1] at st
      have R1 := R_may_follow.mk n mid js h16 okm a1 ml
      rw [a2] at R1
      refine T.guard (b := !true || !true) (et_or (et_not (et_B (ev_call (ea_cons (ev_var rfl) (ea_cons (ev_var rfl) ea_nil)) (.mk n _ true h16 st)))) fun _ => et_not (et_B (ev_call (ea_cons (ev_var rfl) (ea_cons (ev_var rfl) ea_nil)) R1))) (fun hb => by cases hb) fun _ => ?_
      exact T.asg (EvF.data (ev_callF (ea_cons (ev_var rfl) (ea_cons (ev_var rfl) ea_nil)) (.mk n mid js a2 ml))) hF
    cases h with
    | fails h =>
      refine Up.first (Up.for (ds := enumD ds) (ei_enum (ea_cons (ev_var rfl) ea_nil)) (fun i r => ∃ (mid : List Fr.Bar) (s3 s4 : Sl), r = [.k (.int (n : Int)), .k (.lst ds), .k (.lst (brs mid)), s3, s4] ∧ Fr.Ok n mid ∧ mid.length ≤ 3 * i ∧ Fails n mid (ds.drop i)) ⟨[], _, _, rfl, (fun _ h => nomatch h), Nat.le_refl _, h⟩ ?_ ?_)
      · rintro i e r he ⟨mid, s3, s4, rfl, okm, ml, f⟩
        obtain ⟨d, hd, rfl⟩ := enumD_get he
        obtain ⟨hi, e⟩ := List.getElem?_eq_some_iff.mp hd
        have ed : ds.drop i = d :: ds.drop (i + 1) := by rw [List.drop_eq_getElem_cons hi, e]
        rw [ed] at f
        refine ⟨_, eg_tup (egs_cons eg_name (egs_cons eg_name egs_nil)) rfl, ?_⟩
        generalize hz : d :: ds.drop (i + 1) = z at f
        cases f with
        | here hb =>
          injection hz with hz _
          subst hz
          obtain ⟨f1, f2, f3⟩ := step_fits i (by omega)
          have sl := sizeLine_eq
          have hlog : ((i : Int)).natAbs.log2 < 1920 := by
            by_cases z : (i : Int).natAbs = 0
            · rw [z]
              decide +kernel
            · have h5 : (i : Int).natAbs.log2 < 5 := (Nat.log2_lt z).mpr (by omega)
              omega
          refine .inr (Up.first ?_)
          rcases hb with hb | ⟨js, rfl, a1, a2⟩
          · exact Up.if (EvT.to (b := !false || false) (et_or (et_not (et_B (ev_call (ea_cons (ev_var rfl) (ea_cons (ev_var rfl) ea_nil)) (.mk n d false h16 hb)))) fun hb => by cases hb) rfl) (Up.raiseE (ev_fstr ev_str (ev_var rfl) ev_str hlog (by omega) (by omega) (by omega)))
          · have st := StepD.nats (n := n) (okStep_iff.mp a1).1.1 (okStep_iff.mp a1).1.2
            rw [a1] at st
            have R1 := R_may_follow.mk n mid js h16 okm a1 (by omega)
            rw [a2] at R1
            exact Up.if (EvT.to (b := !true || !false) (et_or (et_not (et_B (ev_call (ea_cons (ev_var rfl) (ea_cons (ev_var rfl) ea_nil)) (.mk n _ true h16 st)))) fun _ => et_not (et_B (ev_call (ea_cons (ev_var rfl) (ea_cons (ev_var rfl) ea_nil)) R1))) rfl) (Up.raiseE (ev_fstr ev_str (ev_var rfl) ev_str hlog (by omega) (by omega) (by omega)))
        | @next _ js rest a1 a2 a3 =>
          injection hz with hz hr
          subst hz
          refine .inl (good okm (by omega) a1 a2 ⟨_, _, _, rfl, ok_step okm a1, ?_, by rw [hr]; exact a3⟩)
          have := step_len (rows := mid) (js := js)
          omega
      · rintro r ⟨mid, s3, s4, rfl, okm, ml, f⟩
        rw [enumD_len, List.drop_length] at f
        cases f
    | @few p out g hn hj =>
      rw [List.length_map] at hl
      refine Up.seqP (N := fun r => ∃ s3 s4 : Sl, r = [.k (.int (n : Int)), .k (.lst (p.map stepD)), .k (.lst (brs out)), s3, s4])
        (T.forE (xs := p) (gd := stepD) (ei_enum (ea_cons (ev_var rfl) ea_nil)) (fun i r => ∃ (mid : List Fr.Bar) (s3 s4 : Sl), r = [.k (.int (n : Int)), .k (.lst (p.map stepD)), .k (.lst (brs mid)), s3, s4] ∧ Goes n [] (p.take i) mid ∧ Goes n mid (p.drop i) out) ⟨[], _, _, rfl, .nil, g⟩ ?_ ?_) ?_
      · rintro i js r hjs ⟨mid, s3, s4, rfl, g1, g2⟩
        refine ⟨_, eg_tup (egs_cons eg_name (egs_cons eg_name egs_nil)) rfl, ?_⟩
        obtain ⟨hi, e⟩ := List.getElem?_eq_some_iff.mp hjs
        have ed : p.drop i = js :: p.drop (i + 1) := by rw [List.drop_eq_getElem_cons hi, e]
        have et : p.take (i + 1) = p.take i ++ [js] := by rw [List.take_add_one, hjs]; rfl
        rw [ed] at g2
        cases g2 with
        | cons a1 a2 a3 =>
          have okm : Fr.Ok n mid := g1.ok fun _ h => nomatch h
          have ml := g1.len
          rw [List.length_take, List.length_nil] at ml
          exact good okm (by omega) a1 a2 ⟨stepRows mid js, _, _, rfl, by rw [et]; exact g1.app (.cons a1 a2 .nil), a3⟩
      · rintro r ⟨mid, s3, s4, rfl, g1, g2⟩
        rw [List.drop_length] at g2
        cases g2
        exact ⟨s3, s4, rfl⟩
      rintro r ⟨s3, s4, rfl⟩
      have okr : Fr.Ok n out := g.ok fun _ h => nomatch h
      refine Up.first (Up.if (EvT.to (b := decide ((1 : Int) < (n : Int)) && decide (((jtsL n out).length : Int) < (n : Int))) (et_and (et_test (ev_op (ev_var rfl) ev_int rv_gt)) fun _ => et_test (ev_op (EvD.to (ev_cb (ea_cons (EvF.data (ev_callF (ea_cons (ev_var rfl) ea_nil) (R_joints_of.jts h16 okr))) ea_nil) rc_lenL) (by rw [List.length_map, kI_len])) (ev_var rfl) rv_lt)) ?_) Up.raise)
      rw [decide_eq_true (show (1 : Int) < (n : Int) by omega), decide_eq_true (show ((jtsL n out).length : Int) < (n : Int) by omega)]
      rfl
end
/-! ### l_cell_at -/
abbrev s_l_cell_at : Stmt := top 23
theorem sc_l_cell_at : FnScope ["_law_script", "_law_k"] ["_law_script", "_law_k"] (defScope s_l_cell_at) := ⟨rfl, rfl, rfl, by decide +kernel, rfl, by decide +kernel, by decide +kernel⟩
def cell (ns : List Int) (k : Int) : Int := ns.getD k.toNat 0
inductive R_l_cell_at : List D → D → Prop
  | mk (ns : List Int) (k : Int) (h : 0 ≤ k) : R_l_cell_at [.ro ns, .int k] (.int (cell ns k))

section
variable {P : Program} {w : World} {K : PySem.W.Frag} {mg : Str → Option Value} {base : Heap}
theorem ok_l_cell_at {f : Addr} {fd : FuncData} (F : FnP K "_law_cell_at" s_l_cell_at f fd) (g : mg "_law_cell_at" = some (.ref f)) (M : Mods K mg w)  : Cal P w K mg base CX0 1 "_law_cell_at" ["_law_script", "_law_k"] (spD K R_l_cell_at) := by
  refine ⟨f, fd, F.ok sc_l_cell_at (spD_len fun ds d r => by cases r <;> rfl) (fun cdv A outer s H vs Q E hr h => ?_), g, F.kp, F.bindsN fun _ _ _ _ _ _ us hl => match us, hl with | [_, _], _ => rfl⟩
  have hu := hr.units
  refine ⟨_, PSs.nox (pss_cons (ps_if (pt_cmpR op_lt (pv 1) (pe_callB (ok_len (K := K) rfl) (by rfl) M.m_len (by decide +kernel) (pa_cons (pv 0) pa_nil)) (nomark _)) (pss_one (ps_ret (pe_ix (ok_ix (K := K) rfl) (pv 0) (pv 1) (fun _ _ => rfl)))) pss_nil)
      (pss_one (ps_ret pe_int))), ?_⟩
  refine T.fin (K := K) h fun ds d rel => ?_
  cases rel with | mk ns k h0 =>
  refine T.guard (b := decide (k < (ns.length : Int))) (by walk_at "ev") (fun b => T.ret (d := .int (cell ns k)) (ev_op (ev_var rfl) (ev_var rfl) (rv_ixR ?_)) rfl) fun b => T.ret (d := .int 0) (by walk_at "ev") ?_
  · have hk : k.toNat < ns.length := by have := of_decide_eq_true b; omega
    refine atI_int h0 ?_
    unfold cell
    simp [List.getD, hk]
  · have hk : ¬ k < (ns.length : Int) := of_decide_eq_false b
    have hk2 : ns.length ≤ k.toNat := by omega
    show D.int 0 = D.int (cell ns k)
    unfold cell
    simp [List.getD, hk2]
end
/-! ### l_whole -/
abbrev s_l_whole : Stmt := top 24
theorem sc_l_whole : FnScope ["_law_found"] ["_law_found"] (defScope s_l_whole) := ⟨rfl, rfl, rfl, by decide +kernel, rfl, by decide +kernel, by decide +kernel⟩
inductive R_l_whole : List D → D → Prop
  | int (i : Int) : R_l_whole [.int i] (.bl true)

section
variable {P : Program} {w : World} {K : PySem.W.Frag} {mg : Str → Option Value} {base : Heap}
theorem ok_l_whole {f : Addr} {fd : FuncData} (F : FnP K "_law_whole" s_l_whole f fd) (g : mg "_law_whole" = some (.ref f)) (M : Mods K mg w)  : Cal P w K mg base CX0 1 "_law_whole" ["_law_found"] (spD K R_l_whole) := by
  refine ⟨f, fd, F.ok sc_l_whole (spD_len fun ds d r => by cases r <;> rfl) (fun cdv A outer s H vs Q E hr h => ?_), g, F.kp, F.bindsN fun _ _ _ _ _ _ us hl => match us, hl with | [_], _ => rfl⟩
  have hu := hr.units
  refine ⟨_, PSs.nox (pss_one (ps_ret (pe_and (pe_callB (ok_isi (K := K) rfl) (by rfl) M.m_isinstance (by decide +kernel) (pa_cons (pv 0) (pa_cons (pe_bltn (v := .ty "int") (by rfl) M.m_int (by decide +kernel) rfl) pa_nil))) (pe_one (pe_not (pe_callB (ok_isi (K := K) rfl) (by rfl) M.m_isinstance (by decide +kernel) (pa_cons (pv 0) (pa_cons (pe_bltn (v := .ty "bool") (by rfl) M.m_bool (by decide +kernel) rfl) pa_nil)))))))), ?_⟩
  refine T.fin (K := K) h fun ds d rel => ?_
  cases rel with | int i =>
  refine T.ret (d := .bl (true && !false)) (ev_and (by walk_at "ev") fun _ => ?_) rfl
  walk_at "ev"
end
/-! ### l_mixed -/
abbrev s_l_mixed : Stmt := top 25
theorem sc_l_mixed : FnScope ["_law_cell", "_law_k", "_law_found"] ["_law_cell", "_law_k"] (defScope s_l_mixed) := ⟨rfl, rfl, rfl, by decide +kernel, rfl, by decide +kernel, by decide +kernel⟩
def mixed (c k : Int) : Int :=
  (c % 1000000007 + 7919 * k + 11) * 48271 % 2147483647 * ((c % 1000000007 + 7919 * k + 11) * 48271 % 2147483647 % 65521 + 3) % 2147483629
theorem mixed_nn (c k : Int) : 0 ≤ mixed c k := Int.emod_nonneg _ (by decide)
theorem mixed_lt (c k : Int) : mixed c k < 2147483629 := Int.emod_lt_of_pos _ (by decide)
inductive R_l_mixed : List D → D → Prop
  | mk (c k : Int) : R_l_mixed [.int c, .int k] (.int (mixed c k))

section
variable {P : Program} {w : World} {K : PySem.W.Frag} {mg : Str → Option Value} {base : Heap}
theorem ok_l_mixed {f : Addr} {fd : FuncData} (F : FnP K "_law_mixed" s_l_mixed f fd) (g : mg "_law_mixed" = some (.ref f)) (M : Mods K mg w)  : Cal P w K mg base CX0 1 "_law_mixed" ["_law_cell", "_law_k"] (spD K R_l_mixed) := by
  refine ⟨f, fd, F.ok sc_l_mixed (spD_len fun ds d r => by cases r <;> rfl) (fun cdv A outer s H vs Q E hr h => ?_), g, F.kp, F.bindsN fun _ _ _ _ _ _ us hl => match us, hl with | [_, _], _ => rfl⟩
  have hu := hr.units
  refine ⟨_, PSs.nox (pss_cons (ps_set (i := 2) sc_l_mixed.nd rfl (Or.inl rfl) (pe_op op_modN (pe_op op_mul (pe_op (ok_plus (K := K) rfl) (pe_op (ok_plus (K := K) rfl) (pe_op op_modN (pv 0) pe_int) (pe_op op_mul pe_int (pv 1))) pe_int) pe_int) pe_int))
      (pss_one (ps_ret (pe_op op_modN (pe_op op_mul (pv 2) (pe_op (ok_plus (K := K) rfl) (pe_op op_modN (pv 2) pe_int) pe_int)) pe_int)))), ?_⟩
  refine T.fin (K := K) h fun ds d rel => ?_
  cases rel with | mk c k =>
  refine T.seq (T.asg (d := .int ((c % 1000000007 + 7919 * k + 11) * 48271 % 2147483647)) ?_ rfl) (T.ret (d := .int (mixed c k)) ?_ rfl)
  · walk_at "ev"
    all_goals first | decide | (exact Or.inl ⟨by decide, by decide⟩) | (exact Or.inr ⟨by decide, by decide⟩)
  · unfold mixed
    have f1 : 0 ≤ (c % 1000000007 + 7919 * k + 11) * 48271 % 2147483647 := Int.emod_nonneg _ (by decide)
    have f2 : (c % 1000000007 + 7919 * k + 11) * 48271 % 2147483647 < 2147483647 := Int.emod_lt_of_pos _ (by decide)
    walk_at "ev"
    all_goals first | decide | (refine Or.inl ⟨?_, ?_⟩ <;> omega)
end
/-! ### l_order -/
abbrev s_l_order : Stmt := top 26
theorem sc_l_order : FnScope ["_law_cell", "_law_count", "_law_left", "_law_found"] ["_law_cell", "_law_count"] (defScope s_l_order) := ⟨rfl, rfl, rfl, by decide +kernel, rfl, by decide +kernel, by decide +kernel⟩
inductive R_l_order : List D → List D → Prop
  | mk (c : Int) (n : Nat) (h : n ≤ 1000) : R_l_order [.int c, .int (n : Int)] ((orderL c n).map D.int)

section
variable {P : Program} {w : World} {K : PySem.W.Frag} {mg : Str → Option Value} {base : Heap}
theorem ok_l_order {f : Addr} {fd : FuncData} (F : FnP K "_law_order" s_l_order f fd) (g : mg "_law_order" = some (.ref f)) (M : Mods K mg w)  : Cal P w K mg base CX0 1 "_law_order" ["_law_cell", "_law_count"] (spF K R_l_order) := by
  refine ⟨f, fd, F.ok sc_l_order (spF_len fun ds d r => by cases r <;> rfl) (fun cdv A outer s H vs Q E hr h => ?_), g, F.kp, F.bindsN fun _ _ _ _ _ _ us hl => match us, hl with | [_, _], _ => rfl⟩
  have hu := hr.units
  refine ⟨_, PSs.nox (pss_cons (ps_set (i := 2) sc_l_order.nd rfl (Or.inl rfl) (pe_listRg rfl (by rfl) M.m_list (prg_1 (by rfl) M.m_range (pv 1))))
      (pss_cons (ps_set (i := 3) sc_l_order.nd rfl (Or.inl rfl) (pe_lst pa_nil))
      (pss_cons (ps_while PassesOwn.never (pt_cmpR op_gt (pe_callB (ok_len (K := K) rfl) (by rfl) M.m_len (by decide +kernel) (pa_cons (pv 2) pa_nil)) pe_int (nomark _)) (pss_cons (ps_expr (pe_bm PySem.F.plainAttrs_list PySem.F.slot_list_append PySem.F.type_list_append mt_append (pv 3) (pa_cons (pe_bm PySem.F.plainAttrs_list PySem.F.slot_list_pop PySem.F.type_list_pop mt_popAt (pv 2) (pa_cons (pe_op op_modN (pv 0) (pe_callB (ok_len (K := K) rfl) (by rfl) M.m_len (by decide +kernel) (pa_cons (pv 2) pa_nil))) pa_nil)) pa_nil)))
      (pss_one (ps_set (i := 0) sc_l_order.nd rfl (Or.inl rfl) (pe_op op_fdivN (pv 0) (pe_op (ok_plus (K := K) rfl) (pe_callB (ok_len (K := K) rfl) (by rfl) M.m_len (by decide +kernel) (pa_cons (pv 2) pa_nil)) pe_int))))))
      (pss_one (ps_ret (pv 3)))))), ?_⟩
  refine T.finF (K := K) h fun ds d rel => ?_
  cases rel with | mk c n h =>
  refine T.seq (ρ1 := [.k (.int c), .k (.int (n : Int)), .o (((List.range n).map fun k : Nat => (k : Int)).map D.int), .u]) (T.asgF (es := (kI (List.range n)).map D.int) (evF_listRg (ev_var rfl) (by omega)) rfl) ?_
  refine T.seq (ρ1 := [.k (.int c), .k (.int (n : Int)), .o (((List.range n).map fun k : Nat => (k : Int)).map D.int), .o []]) (T.asgF (es := []) (by walk_at "ev") rfl) ?_
  refine T.seqP (N := fun r => ∃ s0 s2, r = [s0, .k (.int (n : Int)), s2, .o ((orderL c n).map D.int)])
    (T.whileV (fun m r => ∃ c1 left found, r = [.k (.int c1), .k (.int (n : Int)), .o (left.map D.int), .o (found.map D.int)] ∧ m = left.length ∧ left.length + found.length = n ∧ orderGo left.length c1 left found = orderL c n) (m0 := n)
      ⟨c, _, [], rfl, by simp, by simp, by simp [orderL]⟩ ?_) ?_
  · rintro m r ⟨c1, left, found, rfl, rfl, hn, he⟩
    refine ⟨decide ((0 : Int) < ((left.map D.int).length : Int)), et_test (ev_op (ev_cb (ea_cons (ev_var rfl) ea_nil) rc_lenL) ev_int rv_gt), fun hb => ?_, fun hb => ?_⟩
    · have hl : 0 < left.length := by
        have := of_decide_eq_true hb
        rw [List.length_map] at this
        omega
      obtain ⟨k, hk⟩ : ∃ k, left.length = k + 1 := ⟨left.length - 1, by omega⟩
      have m1 := Int.emod_nonneg c1 (show (left.length : Int) ≠ 0 by omega)
      have m2 := Int.emod_lt_of_pos c1 (show (0 : Int) < (left.length : Int) by omega)
      generalize hi : (c1 % (left.length : Int)).toNat = i at *
      have hil : i < left.length := by omega
      have hii : ((i : Nat) : Int) = c1 % (left.length : Int) := by omega
      refine T.seq (ρ1 := [.k (.int c1), .k (.int (n : Int)), .o ((left.eraseIdx i).map D.int), .o ((found ++ [left.getD i 0]).map D.int)]) (T.appendPop (k := i) (i := 3) (j := 2) (ds := found.map D.int) (es := left.map D.int) (d := .int (left.getD i 0)) rfl rfl (by decide) ?_ ?_ ?_ ?_ ?_) ?_
      · rw [hii]
        refine EvD.to (ev_op (ev_var rfl) (ev_cb (ea_cons (ev_var rfl) ea_nil) rc_lenL) (rv_mod (by rw [List.length_map]; omega) (by omega))) ?_
        rw [List.length_map]
      · rw [List.getElem?_map, List.getElem?_eq_getElem hil]
        simp [List.getD, hil]
      · rw [List.length_map]
        omega
      · rw [List.length_map]
        omega
      · have ee : ∀ (l : List Int) (q : Nat), (l.map D.int).eraseIdx q = (l.eraseIdx q).map D.int := fun l => by
          induction l with
          | nil => intro q; cases q <;> rfl
          | cons y l ih =>
            intro q
            cases q with
            | zero => rfl
            | succ q => exact congrArg (D.int y :: ·) (ih q)
        show _ = _
        rw [ee, List.map_append]
        rfl
      · refine T.asgV (d := .int (c1 / (left.length : Int))) (EvD.to (ev_op (ev_var rfl) (ev_op (ev_cb (ea_cons (ev_var rfl) ea_nil) rc_lenL) ev_int rv_plusI) (rv_div ?_ (by omega))) ?_) eg_name (fun _ h => by rw [List.mem_singleton.mp h]; rfl) ?_
        · rw [List.length_map, List.length_eraseIdx_of_lt hil]
          exact ⟨by omega, by omega⟩
        · rw [List.length_map, List.length_eraseIdx_of_lt hil]
          have : (((left.length - 1 : Nat) : Int) + 1) = (left.length : Int) := by omega
          rw [this]
        · refine ⟨k, by omega, c1 / (left.length : Int), left.eraseIdx i, found ++ [left.getD i 0], rfl, ?_, ?_, ?_⟩
          · rw [List.length_eraseIdx_of_lt hil]; omega
          · rw [List.length_eraseIdx_of_lt hil, List.length_append]; simp; omega
          · rw [← he, List.length_eraseIdx_of_lt hil, hk]
            show orderGo k _ _ _ = orderGo k _ _ _
            rw [hi, hk]
    · have hl : left = [] := by
        have := of_decide_eq_false hb
        rw [List.length_map] at this
        exact List.length_eq_zero_iff.mp (by omega)
      subst hl
      refine ⟨.k (.int c1), .o ([].map D.int), ?_⟩
      rw [← he]
      rfl
  · rintro r ⟨s0, s2, rfl⟩
    exact T.retO rfl rfl
end
/-! ### l_kind -/
abbrev s_l_kind : Stmt := top 27
theorem sc_l_kind : FnScope ["_law_error", "_law_kinds", "_law_words", "_law_word", "_law_fits"] ["_law_error"] (defScope s_l_kind) := ⟨rfl, rfl, rfl, by decide +kernel, rfl, by decide +kernel, by decide +kernel⟩
inductive R_l_kind (K : PySem.W.Frag) : List D → List D → Prop
  | mk (x : Str) (h : Kind x (kinds7 x) K) : R_l_kind K [.er (He.ga K x)] ((classes7.filter fun p => p.1 == x).map fun p => .str p.2)
def wordD (x : Str) (p : Str × Str) : D := .tup [.str p.2, .bl (p.1 == x)]
def fitD : D → Bool
  | .tup [_, .bl b] => b
  | _ => false
def wrdD : D → D
  | .tup [w, _] => w
  | _ => .non

section
variable {P : Program} {w : World} {K : PySem.W.Frag} {mg : Str → Option Value} {base : Heap}
theorem ok_l_kind {f : Addr} {fd : FuncData} (F : FnP K "_law_kind" s_l_kind f fd) (g : mg "_law_kind" = some (.ref f)) (M : Mods K mg w)  : ∀ base, Ex0.CalE P w K mg base 1 "_law_kind" ["_law_error"] (spF K (R_l_kind K)) := by
  refine fun base => ⟨f, fd, Ex0.fnE_of F sc_l_kind (spF_len fun ds d r => by cases r <;> rfl) (fun cdv A outer s H vs Q p hr hot h => ?_), g, F.kp, F.bindsN fun _ _ _ _ _ _ us hl => match us, hl with | [_], _ => rfl⟩
  have hu := roomH_units hr
  refine ⟨_, PSs.nox (pss_cons (ps_set (i := 1) sc_l_kind.nd rfl (Or.inl rfl) (pe_lst (pa_cons (pe_tup (pa_cons pe_str (pa_cons (pe_callB (ok_isEr (K := K) rfl) (by rfl) M.m_isinstance (by decide +kernel) (pa_cons (pv 0) (pa_cons (pe_glob (v := .ref (He.ga K "BadCount")) rfl M.g_BadCount rfl) pa_nil))) pa_nil))) (pa_cons (pe_tup (pa_cons pe_str (pa_cons (pe_callB (ok_isEr (K := K) rfl) (by rfl) M.m_isinstance (by decide +kernel) (pa_cons (pv 0) (pa_cons (pe_glob (v := .ref (He.ga K "BadBar")) rfl M.g_BadBar rfl) pa_nil))) pa_nil))) pa_nil))))
      (pss_cons (ps_set (i := 1) sc_l_kind.nd rfl (Or.inl rfl) (pe_op (ok_plus (K := K) rfl) (pv 1) (pe_lst (pa_cons (pe_tup (pa_cons pe_str (pa_cons (pe_callB (ok_isEr (K := K) rfl) (by rfl) M.m_isinstance (by decide +kernel) (pa_cons (pv 0) (pa_cons (pe_glob (v := .ref (He.ga K "NoBar")) rfl M.g_NoBar rfl) pa_nil))) pa_nil))) (pa_cons (pe_tup (pa_cons pe_str (pa_cons (pe_callB (ok_isEr (K := K) rfl) (by rfl) M.m_isinstance (by decide +kernel) (pa_cons (pv 0) (pa_cons (pe_glob (v := .ref (He.ga K "Full")) rfl M.g_Full rfl) pa_nil))) pa_nil))) pa_nil)))))
      (pss_cons (ps_set (i := 1) sc_l_kind.nd rfl (Or.inl rfl) (pe_op (ok_plus (K := K) rfl) (pv 1) (pe_lst (pa_cons (pe_tup (pa_cons pe_str (pa_cons (pe_callB (ok_isEr (K := K) rfl) (by rfl) M.m_isinstance (by decide +kernel) (pa_cons (pv 0) (pa_cons (pe_glob (v := .ref (He.ga K "NotLean")) rfl M.g_NotLean rfl) pa_nil))) pa_nil))) (pa_cons (pe_tup (pa_cons pe_str (pa_cons (pe_callB (ok_isEr (K := K) rfl) (by rfl) M.m_isinstance (by decide +kernel) (pa_cons (pv 0) (pa_cons (pe_glob (v := .ref (He.ga K "Loose")) rfl M.g_Loose rfl) pa_nil))) pa_nil))) pa_nil)))))
      (pss_cons (ps_expr (pe_bm PySem.F.plainAttrs_list PySem.F.slot_list_append PySem.F.type_list_append mt_append (pv 1) (pa_cons (pe_tup (pa_cons pe_str (pa_cons (pe_callB (ok_isEr (K := K) rfl) (by rfl) M.m_isinstance (by decide +kernel) (pa_cons (pv 0) (pa_cons (pe_glob (v := .ref (He.ga K "BadStep")) rfl M.g_BadStep rfl) pa_nil))) pa_nil))) pa_nil)))
      (pss_cons (ok_lcHot (K := K) (i := 2) (own := [("_law_word", 3), ("_law_fits", 4)]) (g := (gTup K 2 (gCons (gName 3) (gCons (gName 4) gNil)))) (tt := _) rfl hot sc_l_kind.nd rfl rfl (sw_true rfl rfl rfl (by decide +kernel)) (pv 1) (blkOk_by (N := ["_law_error", "_law_kinds", "_law_words", "_law_word", "_law_fits"]) (sc := defScope s_l_kind) (by decide +kernel)) (fun _ _ _ _ _ hh => (ok_tupX (K := K) rfl hh (pgs_cons (pg_name (i := 3) sc_l_kind.nd rfl (Or.inl rfl)) (pgs_cons (pg_name (i := 4) sc_l_kind.nd rfl (Or.inl rfl)) pgs_nil)))) (fun _ _ _ _ _ => (pts_one (pt_val (pv 4)))) (fun _ _ _ _ _ => (pv 3)))
      (pss_cons (ps_if (pt_not (pt_val (pe_callB (ok_isEr (K := K) rfl) (by rfl) M.m_isinstance (by decide +kernel) (pa_cons (pv 0) (pa_cons (pe_bltn (v := .ty "ValueError") (by rfl) M.m_ValueError (by decide +kernel) rfl) pa_nil))))) (pss_one (ps_expr (pe_bm PySem.F.plainAttrs_list PySem.F.slot_list_append PySem.F.type_list_append mt_append (pv 2) (pa_cons pe_str pa_nil)))) pss_nil)
      (pss_one (ps_ret (pv 2))))))))), ?_⟩
  refine T.finF (K := K) h fun ds d rel => ?_
  cases rel with | mk x k =>
  have isx : ∀ (ρ : Rho) (y z : Str) (hm : (y, z) ∈ classes7), ρ[0]? = some (.k (.er (He.ga K x))) → EvD K (tCB (Ex0.rIsEr K) (tCons (tVar 0) (tCons (tC (.ref (He.ga K y))) tNil))) ρ (.bl (y == x)) := fun ρ y z hm h => ev_cb (ea_cons (ev_var h) (ea_cons ev_adr ea_nil)) (rc_isEr k.exc (k.at hm))
  have pr : ∀ (ρ : Rho) (y z : Str) (hm : (y, z) ∈ classes7), ρ[0]? = some (.k (.er (He.ga K x))) → EvD K (tTup (tCons (tC (.str z)) (tCons (tCB (Ex0.rIsEr K) (tCons (tVar 0) (tCons (tC (.ref (He.ga K y))) tNil))) tNil))) ρ (wordD x (y, z)) := fun ρ y z hm h => ev_tup (ea_cons ev_str (ea_cons (isx ρ y z hm h) ea_nil)) (Nat.le_of_ble_eq_true rfl)
  refine T.seq (ρ1 := [.k (.er (He.ga K x)), .o ((classes7.take 2).map (wordD x)), .u, .u, .u]) (T.asgF (ev_lst (ea_cons (pr _ _ _ (by decide) rfl) (ea_cons (pr _ _ _ (by decide) rfl) ea_nil)) (Nat.le_of_ble_eq_true rfl)) rfl) ?_
  refine T.freeze (i := 1) rfl ?_
  refine T.seq (ρ1 := [.k (.er (He.ga K x)), .o ((classes7.take 4).map (wordD x)), .u, .u, .u]) (T.asgF (EvF.to (ev_opF (ev_var rfl) (EvF.data (ev_lst (ea_cons (pr _ _ _ (by decide) rfl) (ea_cons (pr _ _ _ (by decide) rfl) ea_nil)) (Nat.le_of_ble_eq_true rfl))) (rvF_plus (Nat.le_of_ble_eq_true rfl))) rfl) rfl) ?_
  refine T.freeze (i := 1) rfl ?_
  refine T.seq (ρ1 := [.k (.er (He.ga K x)), .o ((classes7.take 6).map (wordD x)), .u, .u, .u]) (T.asgF (EvF.to (ev_opF (ev_var rfl) (EvF.data (ev_lst (ea_cons (pr _ _ _ (by decide) rfl) (ea_cons (pr _ _ _ (by decide) rfl) ea_nil)) (Nat.le_of_ble_eq_true rfl))) (rvF_plus (Nat.le_of_ble_eq_true rfl))) rfl) rfl) ?_
  refine T.seq (ρ1 := [.k (.er (He.ga K x)), .o (classes7.map (wordD x)), .u, .u, .u]) (T.append (i := 1) rfl (pr _ _ _ (by decide) rfl) (Nat.le_of_ble_eq_true rfl) rfl) ?_
  refine T.freeze (i := 1) rfl ?_
  refine T.seq (ρ1 := [.k (.er (He.ga K x)), .k (.lst (classes7.map (wordD x))), .o ((classes7.filter fun p => p.1 == x).map fun p => .str p.2), .u, .u])
    (T.asgF (EvF.to (evF_lc (ds := classes7.map (wordD x)) (ei_list (ev_var rfl)) (fun d => [(3, wrdD d), (4, .bl (fitD d))]) fitD wrdD (fun d hd => ?_) (fun d _ p hp => ?_) (fun d hd => ?_) (fun d hd _ => ?_) (Nat.le_of_ble_eq_true rfl)) ?_) rfl) ?_
  · obtain ⟨p, _, rfl⟩ := List.mem_map.mp hd
    exact eg_tup (egs_cons eg_name (egs_cons eg_name egs_nil)) rfl
  · rcases List.mem_cons.mp hp with rfl | hp
    · simp
    · rw [List.mem_singleton.mp hp]; simp
  · obtain ⟨p, _, rfl⟩ := List.mem_map.mp hd
    exact et_B (ev_var rfl)
  · obtain ⟨p, _, rfl⟩ := List.mem_map.mp hd
    exact ev_var rfl
  · rw [List.filter_map, List.map_map]
    rfl
  refine T.seq (ρ1 := [.k (.er (He.ga K x)), .k (.lst (classes7.map (wordD x))), .o ((classes7.filter fun p => p.1 == x).map fun p => .str p.2), .u, .u]) (T.ifS (b := !true) (et_not (et_B (ev_cb (ea_cons (ev_var rfl) (ea_cons ev_ty ea_nil)) (rc_isErT k.exc k.ve)))) (fun b => by cases b) fun _ => T.next rfl) ?_
  exact T.retO rfl rfl
end
/-! ### l_walked -/
abbrev s_l_walked : Stmt := top 28
theorem sc_l_walked : FnScope ["_law_told", "_law_count", "_law_here", "_law_bars", "_law_made", "_law_ends", "_law_one", "_law_end"] ["_law_told", "_law_count"] (defScope s_l_walked) := ⟨rfl, rfl, rfl, by decide +kernel, rfl, by decide +kernel, by decide +kernel⟩
inductive R_l_walked : List D → List D → Prop
  | mk (n : Nat) (plan : List (List Nat)) (rows : List Fr.Bar) (h1 : 1 ≤ n) (h16 : n ≤ 16) (g : Goes n [] plan rows) (hl : plan.length + 1 = n) : R_l_walked [.lst (plan.map stepD), .int (n : Int)] ((sortB (rows.map bI)).map barD)
theorem whole_all {n : Nat} {l : List Nat} (h : ∀ k ∈ l, k < n) : l.all (fun k => true && (decide (0 ≤ (k : Int)) && decide ((k : Int) < (n : Int)))) = true := List.all_eq_true.mpr fun k hk => by
  have := h k hk
  rw [decide_eq_true (show (0 : Int) ≤ (k : Int) by omega), decide_eq_true (show (k : Int) < (n : Int) by omega)]
  rfl
/-- all([whole(one) and 0 <= one < count for one in made[1:]]) -/
theorem ev_allWhole {K : PySem.W.Frag} {ρ : Rho} {wi : TI} {te : TE} {j n : Nat} {vs js : List Nat} (hi : EvI K wi ρ (js.map fun k : Nat => D.int (k : Int))) (hj : j ∈ vs) (he : ∀ k : Nat, EvD K te (setR (wipeR ρ vs) [(j, .int (k : Int))]) (.bl (true && (decide (0 ≤ (k : Int)) && decide ((k : Int) < (n : Int)))))) (h2 : js.length ≤ 10) (hn : ∀ k ∈ js, k < n) :
    EvD K (tCB (rAll K) (tCons (tLc wi (gName j) tYes te vs) tNil)) ρ (.bl true) :=
  EvD.to (ev_allIn (rest := js) (f := fun k => true && (decide (0 ≤ (k : Int)) && decide ((k : Int) < (n : Int)))) hi hj he h2) (by rw [whole_all hn])
/-- here holds the joints of the bars -/
def Here (hr : List Nat) (rows : List Fr.Bar) : Prop := ∀ k, k ∈ hr ↔ isJt rows k = true
theorem here_dec {hr : List Nat} {rows : List Fr.Bar} (h : Here hr rows) (k : Nat) : decide ((k : Int) ∈ kI hr) = isJt rows k := by
  cases q : isJt rows k with
  | true => exact decide_eq_true (kI_mem.mpr ((h k).mpr q))
  | false =>
    refine decide_eq_false fun z => ?_
    have := (h k).mp (kI_mem.mp z)
    rw [q] at this
    cases this
theorem here_nil {hr : List Nat} {rows : List Fr.Bar} (h : Here hr rows) : decide (kI hr = []) = rows.isEmpty := by
  cases rows with
  | nil =>
    cases hr with
    | nil => rfl
    | cons a l =>
      have := (h a).mp List.mem_cons_self
      cases this
  | cons b rows =>
    have := (h b.1).mpr (isJt_iff.mpr ⟨b, List.mem_cons_self, .inl rfl⟩)
    cases hr with
    | nil => cases this
    | cons a l => rfl
theorem here_step {hr : List Nat} {rows : List Fr.Bar} {js : List Nat} {v : Nat} {rest : List Nat} (h : Here hr rows) (hm : mayB rows js = true) (e : js = v :: rest) (hin : ∀ k ∈ rest, isJt rows k = true) : Here (hr ++ [v]) (stepRows rows js) := fun k => by
  rw [isJt_step hm, List.mem_append, List.mem_singleton, h k, e, List.mem_cons]
  constructor
  · rintro (z | z)
    · exact .inl z
    · exact .inr (.inl z)
  · rintro (z | z | z)
    · exact .inl z
    · exact .inr z
    · exact .inl (hin k z)

section
variable {P : Program} {w : World} {K : PySem.W.Frag} {mg : Str → Option Value} {base : Heap}
theorem ok_l_walked {f : Addr} {fd : FuncData} (F : FnP K "_law_walked" s_l_walked f fd) (g : mg "_law_walked" = some (.ref f)) (M : Mods K mg w) (C_l_whole : Cal P w K mg base CX0 1 "_law_whole" ["_law_found"] (spD K R_l_whole)) : Cal P w K mg base CX0 2 "_law_walked" ["_law_told", "_law_count"] (spF K R_l_walked) := by
  refine ⟨f, fd, F.ok sc_l_walked (spF_len fun ds d r => by cases r <;> rfl) (fun cdv A outer s H vs Q E hr h => ?_), g, F.kp, F.bindsN fun _ _ _ _ _ _ us hl => match us, hl with | [_, _], _ => rfl⟩
  have hu := hr.units
  have h65 := units65 hr
  refine ⟨_, PSs.nox (pss_cons (ps_if (PW.pt (pw_or (pt_not (pt_val (pe_callB (ok_isi (K := K) rfl) (by rfl) M.m_isinstance (by decide +kernel) (pa_cons (pv 0) (pa_cons (pe_bltn (v := .ty "list") (by rfl) M.m_list (by decide +kernel) rfl) pa_nil))))) (pw_or1 (pt_cmpR (ok_ne (K := K) rfl hu) (pe_callB (ok_len (K := K) rfl) (by rfl) M.m_len (by decide +kernel) (pa_cons (pv 0) pa_nil)) (pe_op op_sub (pv 1) pe_int) (nomark _))))) (pss_one (ps_ret pe_non)) pss_nil)
      (pss_cons (ps_set (i := 2) sc_l_walked.nd rfl (Or.inr rfl) (pe_lst pa_nil))
      (pss_cons (ps_set (i := 3) sc_l_walked.nd rfl (Or.inl rfl) (pe_lst pa_nil))
      (pss_cons (ps_for PassesOwn.never rfl (ok_ilist (K := K) rfl (pv 0)) (pg_name (i := 4) sc_l_walked.nd rfl (Or.inr rfl)) (pss_cons (ps_if (PW.pt (pw_or (pt_not (pt_val (pe_callB (ok_isi (K := K) rfl) (by rfl) M.m_isinstance (by decide +kernel) (pa_cons (pv 4) (pa_cons (pe_bltn (v := .ty "tuple") (by rfl) M.m_tuple (by decide +kernel) rfl) pa_nil))))) (pw_or1 (pt_not (pt_val (pe_callB (ok_all (K := K) rfl rfl) (by rfl) M.m_all (by decide +kernel) (pa_cons (pe_lc (own := [("_law_one", 6)]) (g := (gName 6)) (tt := tYes) rfl sc_l_walked.nd (ok_itup (K := K) rfl (pe_slice (ok_sl (K := K) rfl) (pv 4) (po_some pe_int) po_none)) (blkOk_by (N := ["_law_told", "_law_count", "_law_here", "_law_bars", "_law_made", "_law_ends", "_law_one", "_law_end"]) (sc := defScope s_l_walked) (by decide +kernel)) (fun _ _ _ _ _ => (pg_name (i := 6) sc_l_walked.nd rfl (Or.inl rfl))) (fun _ _ _ _ _ => pts_nil) (fun _ _ _ _ _ => (pe_and (pe_cal C_l_whole hr (by decide) pass0 (pa_cons (pv 6) pa_nil)) (pe_one (pe_chain op_le op_lt pe_int (pv 6) (pv 1)))))) pa_nil))))))) (pss_one (ps_ret pe_non)) pss_nil)
      (pss_cons (ps_if (pt_cmpR (ok_eq (K := K) rfl hu) (pv 2) (pe_lst pa_nil) (nomark _)) (pss_cons (ps_if (PW.pt (pw_or (pt_cmpR (ok_ne (K := K) rfl hu) (pe_slice (ok_sl (K := K) rfl) (pv 4) po_none (po_some pe_int)) (pe_tup (pa_cons pe_str pa_nil)) (nomark _)) (pw_or (pt_cmpR (ok_ne (K := K) rfl hu) (pe_callB (ok_len (K := K) rfl) (by rfl) M.m_len (by decide +kernel) (pa_cons (pv 4) pa_nil)) pe_int (nomark _)) (pw_or1 (pt_cmpR (ok_eq (K := K) rfl hu) (pe_ix (ok_ix (K := K) rfl) (pv 4) pe_int (fun _ _ => rfl)) (pe_ix (ok_ix (K := K) rfl) (pv 4) pe_int (fun _ _ => rfl)) (nomark _)))))) (pss_one (ps_ret pe_non)) pss_nil)
      (pss_cons (ps_set (i := 2) sc_l_walked.nd rfl (Or.inr rfl) (pe_lst (pa_cons (pe_ix (ok_ix (K := K) rfl) (pv 4) pe_int (fun _ _ => rfl)) (pa_cons (pe_ix (ok_ix (K := K) rfl) (pv 4) pe_int (fun _ _ => rfl)) pa_nil))))
      (pss_cons (ps_set (i := 3) sc_l_walked.nd rfl (Or.inl rfl) (pe_lst (pa_cons (pe_tup (pa_cons (pe_callB (ok_minT (K := K) rfl rfl hu) (by rfl) M.m_min (by decide +kernel) (pa_cons (pe_slice (ok_sl (K := K) rfl) (pv 4) (po_some pe_int) po_none) pa_nil)) (pa_cons (pe_callB (ok_maxT (K := K) rfl rfl hu) (by rfl) M.m_max (by decide +kernel) (pa_cons (pe_slice (ok_sl (K := K) rfl) (pv 4) (po_some pe_int) po_none) pa_nil)) pa_nil))) pa_nil)))
      (pss_one ps_continue)))) pss_nil)
      (pss_cons (ps_set (i := 5) sc_l_walked.nd rfl (Or.inl rfl) (pe_callTy (ok_list (K := K) rfl) (by rfl) M.m_list (by decide +kernel) (pa_cons (pe_slice (ok_sl (K := K) rfl) (pv 4) (po_some pe_int) po_none) pa_nil)))
      (pss_cons (ps_if (PW.pt (pw_or (pt_cmpR (ok_niDT (K := K) rfl h65) (pe_tup (pa_cons (pe_ix (ok_ix (K := K) rfl) (pv 4) pe_int (fun _ _ => rfl)) (pa_cons (pe_callB (ok_len (K := K) rfl) (by rfl) M.m_len (by decide +kernel) (pa_cons (pv 5) pa_nil)) pa_nil))) (pe_tup (pa_cons (pe_tup (pa_cons pe_str (pa_cons pe_int pa_nil))) (pa_cons (pe_tup (pa_cons pe_str (pa_cons pe_int pa_nil))) pa_nil))) (by with_unfolding_all rfl)) (pw_or (pt_cmpR (ok_in (K := K) rfl) (pe_ix (ok_ix (K := K) rfl) (pv 4) pe_int (fun _ _ => rfl)) (pv 2) (by with_unfolding_all rfl)) (pw_or1 (pt_cmpR (ok_ne (K := K) rfl hu) (pe_callB (ok_lenSet (w := w) rfl) (by rfl) M.m_len (by decide +kernel) (pa_cons (pe_callTy (ok_set (K := K) (w := w) rfl rfl rfl) (by rfl) M.m_set (by decide +kernel) (pa_cons (pv 5) pa_nil)) pa_nil)) (pe_callB (ok_len (K := K) rfl) (by rfl) M.m_len (by decide +kernel) (pa_cons (pv 5) pa_nil)) (nomark _)))))) (pss_one (ps_ret pe_non)) pss_nil)
      (pss_cons (ps_if (pt_cmpR (ok_ne (K := K) rfl hu) (pe_lc (own := [("_law_end", 7)]) (g := (gName 7)) (tt := _) rfl sc_l_walked.nd (ok_ilist (K := K) rfl (pv 5)) (blkOk_by (N := ["_law_told", "_law_count", "_law_here", "_law_bars", "_law_made", "_law_ends", "_law_one", "_law_end"]) (sc := defScope s_l_walked) (by decide +kernel)) (fun _ _ _ _ _ => (pg_name (i := 7) sc_l_walked.nd rfl (Or.inl rfl))) (fun _ _ _ _ _ => (pts_one (pt_cmpR (ok_ni (K := K) rfl) (pv 7) (pv 2) (by with_unfolding_all rfl)))) (fun _ _ _ _ _ => (pv 7))) (pe_lst pa_nil) (nomark _)) (pss_one (ps_ret pe_non)) pss_nil)
      (pss_cons (ps_if (pt_cmpR (ok_eq (K := K) rfl hu) (pe_ix (ok_ix (K := K) rfl) (pv 4) pe_int (fun _ _ => rfl)) pe_str (nomark _)) (pss_cons (ps_if (pt_cmpR (ok_niD (K := K) rfl h65) (pe_tup (pa_cons (pe_callB (ok_min (K := K) rfl rfl) (by rfl) M.m_min (by decide +kernel) (pa_cons (pe_slice (ok_sl (K := K) rfl) (pv 5) po_none (po_some pe_int)) pa_nil)) (pa_cons (pe_callB (ok_max (K := K) rfl rfl) (by rfl) M.m_max (by decide +kernel) (pa_cons (pe_slice (ok_sl (K := K) rfl) (pv 5) po_none (po_some pe_int)) pa_nil)) pa_nil))) (pv 3) (by with_unfolding_all rfl)) (pss_one (ps_ret pe_non)) pss_nil)
      (pss_one (ps_expr (pe_bm PySem.F.plainAttrs_list PySem.F.slot_list_remove PySem.F.type_list_remove (mt_remD (K := K) rfl hu) (pv 3) (pa_cons (pe_tup (pa_cons (pe_callB (ok_min (K := K) rfl rfl) (by rfl) M.m_min (by decide +kernel) (pa_cons (pe_slice (ok_sl (K := K) rfl) (pv 5) po_none (po_some pe_int)) pa_nil)) (pa_cons (pe_callB (ok_max (K := K) rfl rfl) (by rfl) M.m_max (by decide +kernel) (pa_cons (pe_slice (ok_sl (K := K) rfl) (pv 5) po_none (po_some pe_int)) pa_nil)) pa_nil))) pa_nil))))) pss_nil)
      (pss_cons (ps_expr (pe_bm PySem.F.plainAttrs_list PySem.F.slot_list_append PySem.F.type_list_append mt_append (pv 2) (pa_cons (pe_ix (ok_ix (K := K) rfl) (pv 4) pe_int (fun _ _ => rfl)) pa_nil)))
      (pss_one (ps_set (i := 3) sc_l_walked.nd rfl (Or.inl rfl) (pe_op (ok_plus (K := K) rfl) (pv 3) (pe_lc (own := [("_law_end", 7)]) (g := (gName 7)) (tt := tYes) rfl sc_l_walked.nd (ok_ilist (K := K) rfl (pv 5)) (blkOk_by (N := ["_law_told", "_law_count", "_law_here", "_law_bars", "_law_made", "_law_ends", "_law_one", "_law_end"]) (sc := defScope s_l_walked) (by decide +kernel)) (fun _ _ _ _ _ => (pg_name (i := 7) sc_l_walked.nd rfl (Or.inl rfl))) (fun _ _ _ _ _ => pts_nil) (fun _ _ _ _ _ => (pe_tup (pa_cons (pe_callB (call_min2 rfl) (by rfl) M.m_min (by decide +kernel) (pa_cons (pe_ix (ok_ix (K := K) rfl) (pv 4) pe_int (fun _ _ => rfl)) (pa_cons (pv 7) pa_nil))) (pa_cons (pe_callB (call_max2 rfl) (by rfl) M.m_max (by decide +kernel) (pa_cons (pe_ix (ok_ix (K := K) rfl) (pv 4) pe_int (fun _ _ => rfl)) (pa_cons (pv 7) pa_nil))) pa_nil))))))))))))))))
      (pss_one (ps_ret (pe_callB (ok_sortPO (K := K) rfl) (by rfl) M.m_sorted (by decide +kernel) (pa_cons (pv 3) pa_nil)))))))), ?_⟩
  refine T.finF (K := K) h fun ds d rel => ?_
  cases rel with | mk n plan rows h1 h16 g hl =>
  refine T.guard (b := !true || !decide (((plan.map stepD).length : Int) = (n : Int) - 1)) (et_or (et_not (et_B (ev_cb (ea_cons (ev_var rfl) (ea_cons ev_ty ea_nil)) (rc_isiK "list" rfl (by decide +kernel) (by decide))))) fun _ => et_test (ev_op (ev_cb (ea_cons (ev_var rfl) ea_nil) rc_lenL) (ev_op (ev_var rfl) ev_int rv_sub) rv_neI)) (fun hb => ?_) fun _ => ?_
  · rw [List.length_map, decide_eq_true (show (plan.length : Int) = (n : Int) - 1 by omega)] at hb
    cases hb
  refine T.seq (ρ1 := [.k (.lst (plan.map stepD)), .k (.int (n : Int)), .o (nD []), .u, .u, .u, .u, .u]) (T.asgF (ev_lst ea_nil (Nat.zero_le _)) rfl) ?_
  refine T.seq (ρ1 := [.k (.lst (plan.map stepD)), .k (.int (n : Int)), .o (nD []), .o (brs []), .u, .u, .u, .u]) (T.asgF (ev_lst ea_nil (Nat.zero_le _)) rfl) ?_
  refine T.seqP (N := fun r => ∃ (hr : List Nat) (s4 s5 s6 s7 : Sl), r = [.k (.lst (plan.map stepD)), .k (.int (n : Int)), .o (nD hr), .o (brs rows), s4, s5, s6, s7])
    (T.forM (xs := plan) (gd := stepD) (ei_list (ev_var rfl)) (fun i r => ∃ (hr : List Nat) (mid : List Fr.Bar) (s4 s5 s6 s7 : Sl), r = [.k (.lst (plan.map stepD)), .k (.int (n : Int)), .o (nD hr), .o (brs mid), s4, s5, s6, s7] ∧ Goes n [] (plan.take i) mid ∧ Goes n mid (plan.drop i) rows ∧ Here hr mid ∧ hr.length ≤ i + 1) ⟨[], [], _, _, _, _, rfl, .nil, g, (fun k => ⟨(fun h => nomatch h), (fun h => by cases h)⟩), Nat.zero_le _⟩ ?_ ?_) ?_
  · rintro i js r hjs ⟨hr, mid, s4, s5, s6, s7, rfl, g1, g2, hh, hhl⟩
    obtain ⟨hi, e⟩ := List.getElem?_eq_some_iff.mp hjs
    have ed : plan.drop i = js :: plan.drop (i + 1) := by rw [List.drop_eq_getElem_cons hi, e]
    have et : plan.take (i + 1) = plan.take i ++ [js] := by rw [List.take_add_one, hjs]; rfl
    rw [ed] at g2
    cases g2 with
    | cons a1 a2 a3 =>
      have okm : Fr.Ok n mid := g1.ok fun _ h => nomatch h
      have ml := g1.len
      rw [List.length_take, List.length_nil] at ml
      have g3 : Goes n [] (plan.take (i + 1)) (stepRows mid js) := by rw [et]; exact g1.app (.cons a1 a2 .nil)
      obtain ⟨_, b2, b3⟩ := okStep_iff.mp a1
      refine ⟨_, eg_name, ?_⟩
      rcases may_cases a2 with ⟨a, b, rfl, rfl⟩ | ⟨v, a, b, rfl, c1, c2, c3⟩ | ⟨v, a, b, c, rfl, c1, c2, c3, c4, c5⟩
      · refine T.guard (b := !true || !true) (et_or (et_not (et_B (ev_cb (ea_cons (ev_var rfl) (ea_cons ev_ty ea_nil)) (rc_isiK "tuple" rfl (by decide +kernel) (by decide))))) fun _ => et_not (et_B (ev_allWhole (js := [a, b]) (n := n) (ei_tup (ds := nD [a, b]) (ev_slFrom (a := 1) (ds := .str "bar" :: nD [a, b]) (ev_var rfl) ev_int (by decide) (by simp))) (by simp) (fun k => ev_and (ev_call (ea_cons (ev_var rfl) ea_nil) (.int _)) fun _ => ev_chain ev_int (ev_var rfl) rv_le fun _ => ⟨.int (n : Int), ev_var rfl, rv_lt⟩) (by simp) b2))) (fun hb => by cases hb) fun _ => ?_
        refine T.guardV (b := decide (kI hr = [])) (et_test (ev_op (x := .lst ((kI hr).map D.int)) (y := .lst (([] : List Int).map D.int)) (EvD.to (ev_var rfl) (by rw [nD_kI])) (EvF.data (ev_lst ea_nil (Nat.zero_le _))) rv_eqInts)) (fun _ => ?_) fun hb => ?_
        · refine T.guard (b := !true || (!decide (((D.str "bar" :: nD [a, b]).length : Int) = 3) || decide ((a : Int) = (b : Int)))) (et_or (et_test (ev_op (ev_slTo (b := 1) (ds := .str "bar" :: nD [a, b]) (ev_var rfl) ev_int (Nat.le_of_ble_eq_true rfl)) (ev_tup (ea_cons ev_str ea_nil) (Nat.le_of_ble_eq_true rfl)) (rv_neS (b := true) (x := .tup [.str "bar"]) (y := .tup [.str "bar"]) (by decide +kernel) (by decide +kernel) rfl rfl (by simp)))) fun _ => et_or (et_test (ev_op (ev_cb (ea_cons (ev_var rfl) ea_nil) rc_lenT) ev_int rv_neI)) fun _ => et_test (ev_op (ev_op (ev_var rfl) ev_int (rv_ixT (atI_int (show (0 : Int) ≤ 1 by decide) rfl))) (ev_op (ev_var rfl) ev_int (rv_ixT (atI_int (show (0 : Int) ≤ 2 by decide) rfl))) rv_eqI)) (fun hb => ?_) fun _ => ?_
          · have ne : ¬ (a : Int) = (b : Int) := fun z => by
              have : a = b := by omega
              subst this
              simp at b3
            rw [decide_eq_false ne, decide_eq_true (show ((D.str "bar" :: nD [a, b]).length : Int) = 3 from rfl)] at hb
            cases hb
          refine T.seq (ρ1 := [.k (.lst (plan.map stepD)), .k (.int (n : Int)), .o (nD [a, b]), .o (brs []), .k (stepD [a, b]), s5, s6, s7]) (T.asgF (ev_lst (ea_cons (ev_op (ev_var rfl) ev_int (rv_ixT (atI_int (show (0 : Int) ≤ 1 by decide) rfl))) (ea_cons (ev_op (ev_var rfl) ev_int (rv_ixT (atI_int (show (0 : Int) ≤ 2 by decide) rfl))) ea_nil)) (Nat.le_of_ble_eq_true rfl)) rfl) ?_
          refine T.seq (ρ1 := [.k (.lst (plan.map stepD)), .k (.int (n : Int)), .o (nD [a, b]), .o (brs [loB a b]), .k (stepD [a, b]), s5, s6, s7]) (T.asgF (ev_lst (ea_cons (ev_loT (ev_slFrom (a := 1) (ds := .str "bar" :: nD [a, b]) (ev_var rfl) ev_int (by decide) (by simp))) ea_nil) (Nat.le_of_ble_eq_true rfl)) rfl) ?_
          refine T.cont ⟨[a, b], _, _, _, _, _, rfl, g3, a3, fun k => ?_, by show 2 ≤ i + 1 + 1; omega⟩
          show k ∈ [a, b] ↔ isJt (stepRows [] [a, b]) k = true
          rw [isJt_step a2]
          exact ⟨.inr, fun z => z.elim (fun z => by cases z) id⟩
        · rw [here_nil hh] at hb
          cases hb
      · have hne : mid ≠ [] := fun z => by
          rw [z] at c2
          cases c2
        have hin : ∀ k ∈ [a, b], isJt mid k = true := fun k hk => by
          simp only [List.mem_cons, List.not_mem_nil, or_false] at hk
          rcases hk with rfl | rfl <;> assumption
        refine T.guard (b := !true || !true) (et_or (et_not (et_B (ev_cb (ea_cons (ev_var rfl) (ea_cons ev_ty ea_nil)) (rc_isiK "tuple" rfl (by decide +kernel) (by decide))))) fun _ => et_not (et_B (ev_allWhole (js := [v, a, b]) (n := n) (ei_tup (ds := nD [v, a, b]) (ev_slFrom (a := 1) (ds := .str "two" :: nD [v, a, b]) (ev_var rfl) ev_int (by decide) (by simp))) (by simp) (fun k => ev_and (ev_call (ea_cons (ev_var rfl) ea_nil) (.int _)) fun _ => ev_chain ev_int (ev_var rfl) rv_le fun _ => ⟨.int (n : Int), ev_var rfl, rv_lt⟩) (by simp) b2))) (fun hb => by cases hb) fun _ => ?_
        refine T.guardV (b := decide (kI hr = [])) (et_test (ev_op (x := .lst ((kI hr).map D.int)) (y := .lst (([] : List Int).map D.int)) (EvD.to (ev_var rfl) (by rw [nD_kI])) (EvF.data (ev_lst ea_nil (Nat.zero_le _))) rv_eqInts)) (fun hb => ?_) fun _ => ?_
        · rw [here_nil hh, List.isEmpty_iff] at hb
          exact absurd hb hne
        refine T.seq (ρ1 := [.k (.lst (plan.map stepD)), .k (.int (n : Int)), .o (nD hr), .o (brs mid), .k (stepD [v, a, b]), .k (.lst (nD [a, b])), s6, s7]) (T.asg (EvF.data (ev_cbF (ea_cons (ev_slFrom (a := 2) (ds := .str "two" :: nD [v, a, b]) (ev_var rfl) ev_int (by decide) (by simp)) ea_nil) rc_listT)) rfl) ?_
        refine T.guardV (b := !true || (decide ((v : Int) ∈ kI hr) || !decide (((nub (kI [a, b])).length : Int) = ((nD [a, b]).length : Int)))) (et_or (et_test (ev_op (x := .tup [.str "two", .int ((nD [a, b]).length : Int)]) (ev_tup (ea_cons (ev_op (ev_var rfl) ev_int (rv_ixT (atI_int (Int.le_refl 0) rfl))) (ea_cons (ev_cb (ea_cons (ev_var rfl) ea_nil) rc_lenL) ea_nil)) (Nat.le_of_ble_eq_true rfl)) (ev_tup (ea_cons (ev_tup (ea_cons ev_str (ea_cons ev_int ea_nil)) (Nat.le_of_ble_eq_true rfl)) (ea_cons (ev_tup (ea_cons ev_str (ea_cons ev_int ea_nil)) (Nat.le_of_ble_eq_true rfl)) ea_nil)) (Nat.le_of_ble_eq_true rfl)) (rv_niDT (b := true) ?_ ?_ ?_ ?_ ?_))) fun _ => et_or (et_test (ev_op (ev_op (ev_var rfl) ev_int (rv_ixT (atI_int (show (0 : Int) ≤ 1 by decide) rfl))) (EvD.to (ev_var rfl) (by rw [nD_kI])) rv_inL)) fun _ => et_test (ev_op (ev_lenSet (ns := kI [a, b]) (EvD.to (ev_var rfl) (by rw [nD_kI])) (by rw [kI_len]; simp)) (ev_cb (ea_cons (ev_var rfl) ea_nil) rc_lenL) rv_neI)) (fun hb => ?_) fun _ => ?_
        · show (D.tup [.str "two", .int (2 : Int)]).okd 59 = true
          decide +kernel
        · intro d hd
          simp only [List.mem_cons, List.not_mem_nil, or_false] at hd
          rcases hd with rfl | rfl <;> decide +kernel
        · rfl
        · intro d hd
          simp only [List.mem_cons, List.not_mem_nil, or_false] at hd
          rcases hd with rfl | rfl <;> rfl
        · exact ⟨fun _ => (by show D.tup [.str "two", .int (2 : Int)] ∈ _; simp), fun _ => rfl⟩
        · have e2 : ((nub (kI [a, b])).length : Int) = ((nD [a, b]).length : Int) := by
            have z := (nub_len (l := kI [a, b])).mpr (List.pairwise_map.mpr ((List.nodup_cons.mp b3).2.imp fun {x y} ne e => ne (by omega)))
            rw [z, nD_len, kI_len]
          rw [here_dec hh, c1, decide_eq_true e2] at hb
          cases hb
        refine T.guardV (b := !decide (([] : List Int) = [])) (et_test (ev_op (x := .lst (([] : List Int).map D.int)) (y := .lst (([] : List Int).map D.int)) (EvF.data (EvF.to (evF_lcM (α := Nat) (xs := [a, b]) (gd := fun k : Nat => D.int (k : Int)) (ei_list (ev_var rfl)) (fun k => [(7, .int (k : Int))]) (fun k : Nat => !decide ((k : Int) ∈ kI hr)) (fun k : Nat => D.int (k : Int)) (fun k _ => eg_name) (fun k _ p hp => by rw [List.mem_singleton.mp hp]; simp) (fun k _ => et_test (ev_op (ev_var rfl) (EvD.to (ev_var rfl) (by rw [nD_kI])) (rv_inL (neg := true)))) (fun k _ _ => ev_var rfl) (by simp)) ?_)) (EvF.data (ev_lst ea_nil (Nat.zero_le _))) rv_neInts)) (fun hb => by rw [decide_eq_true rfl] at hb; cases hb) fun _ => ?_
        · have e2 : (([a, b] : List Nat).filter fun k : Nat => !decide ((k : Int) ∈ kI hr)) = [] := List.filter_eq_nil_iff.mpr fun k hk => by
            rw [here_dec hh, hin k hk]
            simp
          rw [e2]
          rfl
        refine T.seq (ρ1 := [.k (.lst (plan.map stepD)), .k (.int (n : Int)), .o (nD hr), .o (brs mid), .k (stepD [v, a, b]), .k (.lst (nD [a, b])), s6, s7]) (T.ifS (b := decide (("two" : Str) = "three")) (et_test (ev_op (ev_op (ev_var rfl) ev_int (rv_ixT (atI_int (Int.le_refl 0) rfl))) ev_str (rv_eqStr (wordOf_ok _) (by decide +kernel)))) (fun hb => absurd (of_decide_eq_true hb) (by decide +kernel)) fun _ => T.next rfl) ?_
        refine T.seq (ρ1 := [.k (.lst (plan.map stepD)), .k (.int (n : Int)), .o (nD (hr ++ [v])), .o (brs mid), .k (stepD [v, a, b]), .k (.lst (nD [a, b])), s6, s7]) (T.append (ds := nD hr) (d := .int (v : Int)) rfl (ev_op (ev_var rfl) ev_int (rv_ixT (atI_int (show (0 : Int) ≤ 1 by decide) rfl))) (by rw [nD_len]; omega) (by rw [nD_snoc]; rfl)) ?_
        exact T.asgFV (es := brs (mid ++ ([a, b]).map (loB v))) (ev_ends (rest := [a, b]) (ev_var rfl) (ei_list (ev_var rfl)) (by simp) (fun k => ev_loB (ev_op (ev_var rfl) ev_int (rv_ixT (atI_int (show (0 : Int) ≤ 1 by decide) rfl))) (ev_var rfl)) (by omega) (by simp)) (fun d hd => brs_still d hd) ⟨hr ++ [v], _, _, _, _, _, rfl, g3, a3, here_step hh a2 rfl hin, by rw [List.length_append]; show hr.length + 1 ≤ _; omega⟩
      · have hne : mid ≠ [] := fun z => by
          rw [z] at c2
          cases c2
        have hin : ∀ k ∈ [a, b, c], isJt mid k = true := fun k hk => by
          simp only [List.mem_cons, List.not_mem_nil, or_false] at hk
          rcases hk with rfl | rfl | rfl <;> assumption
        refine T.guard (b := !true || !true) (et_or (et_not (et_B (ev_cb (ea_cons (ev_var rfl) (ea_cons ev_ty ea_nil)) (rc_isiK "tuple" rfl (by decide +kernel) (by decide))))) fun _ => et_not (et_B (ev_allWhole (js := [v, a, b, c]) (n := n) (ei_tup (ds := nD [v, a, b, c]) (ev_slFrom (a := 1) (ds := .str "three" :: nD [v, a, b, c]) (ev_var rfl) ev_int (by decide) (by simp))) (by simp) (fun k => ev_and (ev_call (ea_cons (ev_var rfl) ea_nil) (.int _)) fun _ => ev_chain ev_int (ev_var rfl) rv_le fun _ => ⟨.int (n : Int), ev_var rfl, rv_lt⟩) (by simp) b2))) (fun hb => by cases hb) fun _ => ?_
        refine T.guardV (b := decide (kI hr = [])) (et_test (ev_op (x := .lst ((kI hr).map D.int)) (y := .lst (([] : List Int).map D.int)) (EvD.to (ev_var rfl) (by rw [nD_kI])) (EvF.data (ev_lst ea_nil (Nat.zero_le _))) rv_eqInts)) (fun hb => ?_) fun _ => ?_
        · rw [here_nil hh, List.isEmpty_iff] at hb
          exact absurd hb hne
        refine T.seq (ρ1 := [.k (.lst (plan.map stepD)), .k (.int (n : Int)), .o (nD hr), .o (brs mid), .k (stepD [v, a, b, c]), .k (.lst (nD [a, b, c])), s6, s7]) (T.asg (EvF.data (ev_cbF (ea_cons (ev_slFrom (a := 2) (ds := .str "three" :: nD [v, a, b, c]) (ev_var rfl) ev_int (by decide) (by simp)) ea_nil) rc_listT)) rfl) ?_
        refine T.guardV (b := !true || (decide ((v : Int) ∈ kI hr) || !decide (((nub (kI [a, b, c])).length : Int) = ((nD [a, b, c]).length : Int)))) (et_or (et_test (ev_op (x := .tup [.str "three", .int ((nD [a, b, c]).length : Int)]) (ev_tup (ea_cons (ev_op (ev_var rfl) ev_int (rv_ixT (atI_int (Int.le_refl 0) rfl))) (ea_cons (ev_cb (ea_cons (ev_var rfl) ea_nil) rc_lenL) ea_nil)) (Nat.le_of_ble_eq_true rfl)) (ev_tup (ea_cons (ev_tup (ea_cons ev_str (ea_cons ev_int ea_nil)) (Nat.le_of_ble_eq_true rfl)) (ea_cons (ev_tup (ea_cons ev_str (ea_cons ev_int ea_nil)) (Nat.le_of_ble_eq_true rfl)) ea_nil)) (Nat.le_of_ble_eq_true rfl)) (rv_niDT (b := true) ?_ ?_ ?_ ?_ ?_))) fun _ => et_or (et_test (ev_op (ev_op (ev_var rfl) ev_int (rv_ixT (atI_int (show (0 : Int) ≤ 1 by decide) rfl))) (EvD.to (ev_var rfl) (by rw [nD_kI])) rv_inL)) fun _ => et_test (ev_op (ev_lenSet (ns := kI [a, b, c]) (EvD.to (ev_var rfl) (by rw [nD_kI])) (by rw [kI_len]; simp)) (ev_cb (ea_cons (ev_var rfl) ea_nil) rc_lenL) rv_neI)) (fun hb => ?_) fun _ => ?_
        · show (D.tup [.str "three", .int (3 : Int)]).okd 59 = true
          decide +kernel
        · intro d hd
          simp only [List.mem_cons, List.not_mem_nil, or_false] at hd
          rcases hd with rfl | rfl <;> decide +kernel
        · rfl
        · intro d hd
          simp only [List.mem_cons, List.not_mem_nil, or_false] at hd
          rcases hd with rfl | rfl <;> rfl
        · exact ⟨fun _ => (by show D.tup [.str "three", .int (3 : Int)] ∈ _; simp), fun _ => rfl⟩
        · have e2 : ((nub (kI [a, b, c])).length : Int) = ((nD [a, b, c]).length : Int) := by
            have z := (nub_len (l := kI [a, b, c])).mpr (List.pairwise_map.mpr ((List.nodup_cons.mp b3).2.imp fun {x y} ne e => ne (by omega)))
            rw [z, nD_len, kI_len]
          rw [here_dec hh, c1, decide_eq_true e2] at hb
          cases hb
        refine T.guardV (b := !decide (([] : List Int) = [])) (et_test (ev_op (x := .lst (([] : List Int).map D.int)) (y := .lst (([] : List Int).map D.int)) (EvF.data (EvF.to (evF_lcM (α := Nat) (xs := [a, b, c]) (gd := fun k : Nat => D.int (k : Int)) (ei_list (ev_var rfl)) (fun k => [(7, .int (k : Int))]) (fun k : Nat => !decide ((k : Int) ∈ kI hr)) (fun k : Nat => D.int (k : Int)) (fun k _ => eg_name) (fun k _ p hp => by rw [List.mem_singleton.mp hp]; simp) (fun k _ => et_test (ev_op (ev_var rfl) (EvD.to (ev_var rfl) (by rw [nD_kI])) (rv_inL (neg := true)))) (fun k _ _ => ev_var rfl) (by simp)) ?_)) (EvF.data (ev_lst ea_nil (Nat.zero_le _))) rv_neInts)) (fun hb => by rw [decide_eq_true rfl] at hb; cases hb) fun _ => ?_
        · have e2 : (([a, b, c] : List Nat).filter fun k : Nat => !decide ((k : Int) ∈ kI hr)) = [] := List.filter_eq_nil_iff.mpr fun k hk => by
            rw [here_dec hh, hin k hk]
            simp
          rw [e2]
          rfl
        obtain ⟨q, k1, k2, k3⟩ := brs_erase c5
        have hle := List.length_erase_le (l := mid) (a := loB a b)
        refine T.seq (ρ1 := [.k (.lst (plan.map stepD)), .k (.int (n : Int)), .o (nD hr), .o (brs (mid.erase (loB a b))), .k (stepD [v, a, b, c]), .k (.lst (nD [a, b, c])), s6, s7]) (T.ifS (b := decide (("three" : Str) = "three")) (et_test (ev_op (ev_op (ev_var rfl) ev_int (rv_ixT (atI_int (Int.le_refl 0) rfl))) ev_str (rv_eqStr (wordOf_ok _) (by decide +kernel)))) (fun _ => ?_) fun hb => absurd rfl (of_decide_eq_false hb)) ?_
        · refine T.guardV (b := !true) (et_test (ev_op (ev_loL (EvF.data (EvF.to (ev_slL (lo := none) (hi := some ((2 : Nat) : Int)) (ev_var rfl) eo_no (eo_some ev_int)) (by rw [cut_to]; rfl)))) (ev_var rfl) (rv_niD (b := true) rfl (fun d hd => brs_okd d hd) rfl (fun d hd => brs_sm d hd) ⟨fun _ => List.mem_map_of_mem (List.mem_map_of_mem c5), fun _ => rfl⟩))) (fun hb => by cases hb) fun _ => ?_
          exact T.removeD (k := q) (d := barD (bI (loB a b))) rfl (ev_loL (EvF.data (EvF.to (ev_slL (lo := none) (hi := some ((2 : Nat) : Int)) (ev_var rfl) eo_no (eo_some ev_int)) (by rw [cut_to]; rfl)))) rfl brs_okd rfl brs_sm k1 k2 (by rw [k3]; rfl)
        refine T.seq (ρ1 := [.k (.lst (plan.map stepD)), .k (.int (n : Int)), .o (nD (hr ++ [v])), .o (brs (mid.erase (loB a b))), .k (stepD [v, a, b, c]), .k (.lst (nD [a, b, c])), s6, s7]) (T.append (ds := nD hr) (d := .int (v : Int)) rfl (ev_op (ev_var rfl) ev_int (rv_ixT (atI_int (show (0 : Int) ≤ 1 by decide) rfl))) (by rw [nD_len]; omega) (by rw [nD_snoc]; rfl)) ?_
        exact T.asgFV (es := brs ((mid.erase (loB a b)) ++ ([a, b, c]).map (loB v))) (ev_ends (rest := [a, b, c]) (ev_var rfl) (ei_list (ev_var rfl)) (by simp) (fun k => ev_loB (ev_op (ev_var rfl) ev_int (rv_ixT (atI_int (show (0 : Int) ≤ 1 by decide) rfl))) (ev_var rfl)) (by omega) (by simp)) (fun d hd => brs_still d hd) ⟨hr ++ [v], _, _, _, _, _, rfl, g3, a3, here_step hh a2 rfl hin, by rw [List.length_append]; show hr.length + 1 ≤ _; omega⟩
  · rintro r ⟨hr, mid, s4, s5, s6, s7, rfl, g1, g2, _⟩
    rw [List.drop_length] at g2
    cases g2
    exact ⟨hr, s4, s5, s6, s7, rfl⟩
  rintro r ⟨hr, s4, s5, s6, s7, rfl⟩
  exact T.freeze (i := 3) rfl (T.retF (ev_cbF (ea_cons (ev_var rfl) ea_nil) rc_sortBars) rfl)
end
/-! ### l_planned -/
abbrev s_l_planned : Stmt := top 29
theorem sc_l_planned : FnScope ["_law_cell", "_law_count", "_law_order_here", "_law_found", "_law_bars", "_law_k", "_law_more", "_law_one", "_law_other", "_law_thirds", "_law_third", "_law_at", "_law_end"] ["_law_cell", "_law_count"] (defScope s_l_planned) := ⟨rfl, rfl, rfl, by decide +kernel, rfl, by decide +kernel, by decide +kernel⟩
inductive R_l_planned : List D → Gs → (Rs → Gs → Prop) → Prop
  | mk (c : Int) (n : Nat) (h2 : 2 ≤ n) (h16 : n ≤ 16) : R_l_planned [.int c, .int (n : Int)] [] fun r g => ∃ (plan : List (List Nat)) (rows : List Fr.Bar), r = .o (plan.map stepD) ∧ g = [] ∧ Goes n [] plan rows ∧ plan.length + 1 = n ∧ (jtsL n rows).length = n
theorem map_snoc (plan : List (List Nat)) (js : List Nat) : plan.map stepD ++ [stepD js] = (plan ++ [js]).map stepD := by rw [List.map_append]; rfl

section
variable {P : Program} {w : World} {K : PySem.W.Frag} {mg : Str → Option Value} {base : Heap}
theorem ok_l_planned {f : Addr} {fd : FuncData} (F : FnP K "_law_planned" s_l_planned f fd) (g : mg "_law_planned" = some (.ref f)) (M : Mods K mg w) (C_l_order : Cal P w K mg base CX0 1 "_law_order" ["_law_cell", "_law_count"] (spF K R_l_order)) (C_l_mixed : Cal P w K mg base CX0 1 "_law_mixed" ["_law_cell", "_law_k"] (spD K R_l_mixed)) : Cal P w K mg base CX0 2 "_law_planned" ["_law_cell", "_law_count"] (spQ K R_l_planned) := by
  refine ⟨f, fd, F.ok sc_l_planned (spQ_len fun _ _ _ r => by cases r <;> rfl) (fun cdv A outer s H vs Q E hr h => ?_), g, F.kp, F.bindsN fun _ _ _ _ _ _ us hl => match us, hl with | [_, _], _ => rfl⟩
  have hu := hr.units
  refine ⟨_, PSs.nox (pss_cons (ps_set (i := 2) sc_l_planned.nd rfl (Or.inl rfl) (pe_cal C_l_order hr (by decide) pass0 (pa_cons (pv 0) (pa_cons (pv 1) pa_nil))))
      (pss_cons (ps_set (i := 3) sc_l_planned.nd rfl (Or.inl rfl) (pe_lst (pa_cons (pe_tup (pa_cons pe_str (pa_cons (pe_ix (ok_ix (K := K) rfl) (pv 2) pe_int (fun _ _ => rfl)) (pa_cons (pe_ix (ok_ix (K := K) rfl) (pv 2) pe_int (fun _ _ => rfl)) pa_nil)))) pa_nil)))
      (pss_cons (ps_set (i := 4) sc_l_planned.nd rfl (Or.inl rfl) (pe_lst (pa_cons (pe_tup (pa_cons (pe_ix (ok_ix (K := K) rfl) (pv 2) pe_int (fun _ _ => rfl)) (pa_cons (pe_ix (ok_ix (K := K) rfl) (pv 2) pe_int (fun _ _ => rfl)) pa_nil))) pa_nil)))
      (pss_cons (ps_for PassesOwn.never rfl (pi_range2 (by rfl) M.m_range (pa_cons pe_int (pa_cons (pv 1) pa_nil))) (pg_name (i := 5) sc_l_planned.nd rfl (Or.inl rfl)) (pss_cons (ps_set (i := 6) sc_l_planned.nd rfl (Or.inl rfl) (pe_cal C_l_mixed hr (by decide) pass0 (pa_cons (pv 0) (pa_cons (pv 5) pa_nil))))
      (pss_cons (ps_asg (pe_ix (ok_ix (K := K) rfl) (pv 4) (pe_op op_modN (pv 6) (pe_callB (ok_len (K := K) rfl) (by rfl) M.m_len (by decide +kernel) (pa_cons (pv 4) pa_nil))) (fun _ _ => rfl)) (ok_tup (K := K) rfl rfl (pgs_cons (pg_name (i := 7) sc_l_planned.nd rfl (Or.inr rfl)) (pgs_cons (pg_name (i := 8) sc_l_planned.nd rfl (Or.inr rfl)) pgs_nil))))
      (pss_cons (ps_setLc (i := 9) (own := [("_law_end", 12)]) (g := (gName 12)) (tt := _) rfl sc_l_planned.nd rfl rfl (sw_true rfl rfl rfl (by decide +kernel)) (ok_ilist (K := K) rfl (pe_slice (ok_sl (K := K) rfl) (pv 2) po_none (po_some (pv 5)))) (blkOk_by (N := ["_law_cell", "_law_count", "_law_order_here", "_law_found", "_law_bars", "_law_k", "_law_more", "_law_one", "_law_other", "_law_thirds", "_law_third", "_law_at", "_law_end"]) (sc := defScope s_l_planned) (by decide +kernel)) (fun _ _ _ _ _ => (pg_name (i := 12) sc_l_planned.nd rfl (Or.inl rfl))) (fun _ _ _ _ _ => (pts_one (pt_cmpR (ok_ni (K := K) rfl) (pv 12) (pe_tup (pa_cons (pv 7) (pa_cons (pv 8) pa_nil))) (by with_unfolding_all rfl)))) (fun _ _ _ _ _ => (pv 12)))
      (pss_cons (ps_if (PW.pt (pw_and (pt_cmpR (ok_eq (K := K) rfl hu) (pe_op op_modN (pe_op op_fdivN (pv 6) pe_int) pe_int) pe_int (nomark _)) (pw_and1 (pt_cmpR (ok_ne (K := K) rfl hu) (pv 9) (pe_lst pa_nil) (nomark _))))) (pss_cons (ps_set (i := 10) sc_l_planned.nd rfl (Or.inl rfl) (pe_ix (ok_ix (K := K) rfl) (pv 9) (pe_op op_modN (pe_op op_fdivN (pv 6) pe_int) (pe_callB (ok_len (K := K) rfl) (by rfl) M.m_len (by decide +kernel) (pa_cons (pv 9) pa_nil))) (fun _ _ => rfl)))
      (pss_cons (ps_expr (pe_bm PySem.F.plainAttrs_list PySem.F.slot_list_append PySem.F.type_list_append mt_append (pv 3) (pa_cons (pe_tup (pa_cons pe_str (pa_cons (pe_ix (ok_ix (K := K) rfl) (pv 2) (pv 5) (fun _ _ => rfl)) (pa_cons (pv 7) (pa_cons (pv 8) (pa_cons (pv 10) pa_nil)))))) pa_nil)))
      (pss_cons (ps_expr (pe_bm PySem.F.plainAttrs_list PySem.F.slot_list_remove PySem.F.type_list_remove (mt_remD (K := K) rfl hu) (pv 4) (pa_cons (pe_tup (pa_cons (pv 7) (pa_cons (pv 8) pa_nil))) pa_nil)))
      (pss_one (ps_expr (pe_bm PySem.F.plainAttrs_list PySem.F.slot_list_append PySem.F.type_list_append mt_append (pv 4) (pa_cons (pe_tup (pa_cons (pv 10) (pa_cons (pe_ix (ok_ix (K := K) rfl) (pv 2) (pv 5) (fun _ _ => rfl)) pa_nil))) pa_nil))))))) (pss_cons (ps_set (i := 11) sc_l_planned.nd rfl (Or.inl rfl) (pe_op op_modN (pe_op op_fdivN (pv 6) pe_int) (pv 5)))
      (pss_cons (ps_set (i := 7) sc_l_planned.nd rfl (Or.inr rfl) (pe_ix (ok_ix (K := K) rfl) (pv 2) (pv 11) (fun _ _ => rfl)))
      (pss_cons (ps_set (i := 8) sc_l_planned.nd rfl (Or.inr rfl) (pe_ix (ok_ix (K := K) rfl) (pv 2) (pe_op op_modN (pe_op (ok_plus (K := K) rfl) (pe_op (ok_plus (K := K) rfl) (pv 11) pe_int) (pe_op op_modN (pe_op op_fdivN (pv 6) pe_int) (pe_op op_sub (pv 5) pe_int))) (pv 5)) (fun _ _ => rfl)))
      (pss_one (ps_expr (pe_bm PySem.F.plainAttrs_list PySem.F.slot_list_append PySem.F.type_list_append mt_append (pv 3) (pa_cons (pe_tup (pa_cons pe_str (pa_cons (pe_ix (ok_ix (K := K) rfl) (pv 2) (pv 5) (fun _ _ => rfl)) (pa_cons (pv 8) (pa_cons (pv 7) pa_nil))))) pa_nil))))))))
      (pss_one (ps_set (i := 4) sc_l_planned.nd rfl (Or.inl rfl) (pe_op (ok_plus (K := K) rfl) (pv 4) (pe_lst (pa_cons (pe_tup (pa_cons (pv 7) (pa_cons (pe_ix (ok_ix (K := K) rfl) (pv 2) (pv 5) (fun _ _ => rfl)) pa_nil))) (pa_cons (pe_tup (pa_cons (pe_ix (ok_ix (K := K) rfl) (pv 2) (pv 5) (fun _ _ => rfl)) (pa_cons (pv 8) pa_nil))) pa_nil)))))))))))
      (pss_one (ps_ret (pv 3))))))), ?_⟩
  refine TM.finQ (K := K) h fun ds g PQ rel => ?_
  cases rel with | mk c n h2 h16 =>
  generalize hL : orderN c n = L
  have hLl : L.length = n := by rw [← hL]; exact orderN_len c n
  have hLp : L.Perm (List.range n) := by rw [← hL]; exact order_perm c n
  have nd : L.Nodup := hLp.nodup_iff.mpr List.nodup_range
  have low : ∀ x ∈ L, x < n := fun x hx => List.mem_range.mp (hLp.mem_iff.mp hx)
  have at_ : ∀ i : Nat, i < n → atI ((kI L).map D.int) (i : Int) = some (.int ((L.getD i 0 : Nat) : Int)) := fun i hi => atI_nat (natL_get (by omega))
  refine TM.seq (ρ1 := [.k (.int c), .k (.int (n : Int)), .k (.lst ((kI L).map D.int)), .u, .u, .u, .u, .u, .u, .u, .u, .u, .u]) (g1 := []) (TM.of (T.asg (EvF.data (EvF.to (ev_callF (ea_cons (ev_var rfl) (ea_cons (ev_var rfl) ea_nil)) (.mk c n (by omega))) (by rw [orderL_eq, hL]))) ⟨rfl, rfl⟩)) ?_
  refine TM.seq (ρ1 := [.k (.int c), .k (.int (n : Int)), .k (.lst ((kI L).map D.int)), .o ([[L.getD 0 0, L.getD 1 0]].map stepD), .u, .u, .u, .u, .u, .u, .u, .u, .u]) (g1 := []) (TM.of (T.asgF (ev_lst (ea_cons (ev_tup (ea_cons ev_str (ea_cons (ev_op (ev_var rfl) ev_int (rv_ixL (at_ 0 (by omega)))) (ea_cons (ev_op (ev_var rfl) ev_int (rv_ixL (at_ 1 (by omega)))) ea_nil))) (Nat.le_of_ble_eq_true rfl)) ea_nil) (Nat.le_of_ble_eq_true rfl)) ⟨rfl, rfl⟩)) ?_
  refine TM.seq (ρ1 := [.k (.int c), .k (.int (n : Int)), .k (.lst ((kI L).map D.int)), .o ([[L.getD 0 0, L.getD 1 0]].map stepD), .o (brs [(L.getD 0 0, L.getD 1 0)]), .u, .u, .u, .u, .u, .u, .u, .u]) (g1 := []) (TM.of (T.asgF (ev_lst (ea_cons (ev_tup (ea_cons (ev_op (ev_var rfl) ev_int (rv_ixL (at_ 0 (by omega)))) (ea_cons (ev_op (ev_var rfl) ev_int (rv_ixL (at_ 1 (by omega)))) ea_nil)) (Nat.le_of_ble_eq_true rfl)) ea_nil) (Nat.le_of_ble_eq_true rfl)) ⟨rfl, rfl⟩)) ?_
  refine TM.seqP (N := fun r x => ∃ (plan : List (List Nat)) (ub rows : List Fr.Bar) (s5 s6 s7 s8 s9 s10 s11 : Sl), (r = [.k (.int c), .k (.int (n : Int)), .k (.lst ((kI L).map D.int)), .o (plan.map stepD), .o (brs ub), s5, s6, s7, s8, s9, s10, s11, .u] ∧ x = []) ∧ PI n L n plan ub rows)
    (TM.of (T.for (ds := rngD 2 ((n : Int) - 2).toNat 1) (ei_rng2 (ea_cons ev_int (ea_cons (ev_var rfl) ea_nil)) ⟨by decide, by decide, by omega, by omega⟩) (fun i r => ∃ (plan : List (List Nat)) (ub rows : List Fr.Bar) (s5 s6 s7 s8 s9 s10 s11 : Sl), r = [.k (.int c), .k (.int (n : Int)), .k (.lst ((kI L).map D.int)), .o (plan.map stepD), .o (brs ub), s5, s6, s7, s8, s9, s10, s11, .u] ∧ PI n L (i + 2) plan ub rows) ⟨_, _, _, _, _, _, _, _, _, _, rfl, pi_start nd low (by omega)⟩ ?_ ?_)) ?_
  · rintro i d r hd ⟨plan, ub, rows, s5, s6, s7, s8, s9, s10, s11, rfl, pi⟩
    obtain ⟨hi, rfl⟩ := rngD_get hd
    have ej : (2 : Int) + (i : Int) * 1 = ((i + 2 : Nat) : Int) := by omega
    rw [ej]
    have e3 : i + 1 + 2 = i + 2 + 1 := by omega
    rw [e3]
    have hk2 : 2 ≤ i + 2 := by omega
    have hkn : i + 2 < n := by omega
    generalize i + 2 = k at pi hk2 hkn
    have hkL : k < L.length := by omega
    have ul := pi.ul
    have pl := pi.pl
    refine ⟨_, eg_name, ?_⟩
    refine T.seq (ρ1 := [.k (.int c), .k (.int (n : Int)), .k (.lst ((kI L).map D.int)), .o (plan.map stepD), .o (brs ub), .k (.int (k : Int)), .k (.int (mixed c (k : Int))), s7, s8, s9, s10, s11, .u]) (T.asg (ev_call (ea_cons (ev_var rfl) (ea_cons (ev_var rfl) ea_nil)) (.mk _ _)) rfl) ?_
    generalize mixed c (k : Int) = more
    obtain ⟨dp, hdp, rp⟩ := rv_pickL (K := K) (ds := brs ub) (c := more) (m := ((brs ub).length : Int)) rfl (by rw [brs_len]; omega)
    obtain ⟨p, hp, rfl⟩ := brs_mem hdp
    obtain ⟨b1, b2, b3, b4⟩ := pi_bar pi hp
    refine T.seq (ρ1 := [.k (.int c), .k (.int (n : Int)), .k (.lst ((kI L).map D.int)), .o (plan.map stepD), .o (brs ub), .k (.int (k : Int)), .k (.int more), .k (.int (p.1 : Int)), .k (.int (p.2 : Int)), s9, s10, s11, .u])
      (T.asgV (d := barD (bI p)) (ev_op (ev_var rfl) (ev_op (ev_var rfl) (ev_cb (ea_cons (ev_var rfl) ea_nil) rc_lenL) (rv_mod (by rw [brs_len]; omega) (by rw [brs_len]; omega))) rp) (eg_tup (egs_cons eg_name (egs_cons eg_name egs_nil)) rfl) (fun q hq => ?_) rfl) ?_
    · have hq : q ∈ [(7, D.int (p.1 : Int)), (8, D.int (p.2 : Int))] := hq
      simp only [List.mem_cons, List.not_mem_nil, or_false] at hq
      rcases hq with rfl | rfl <;> rfl
    generalize hth : ((L.take k).filter fun e => !decide (e = p.1) && !decide (e = p.2)) = th
    have thm : ∀ e ∈ th, e ∈ L.take k ∧ e ≠ p.1 ∧ e ≠ p.2 := fun e he => by
      rw [← hth, List.mem_filter] at he
      refine ⟨he.1, ?_, ?_⟩ <;> simp_all
    have thl : th.length ≤ n := by
      rw [← hth]
      have := List.length_filter_le (fun e => !decide (e = p.1) && !decide (e = p.2)) (L.take k)
      rw [List.length_take] at this
      omega
    refine T.seq (ρ1 := [.k (.int c), .k (.int (n : Int)), .k (.lst ((kI L).map D.int)), .o (plan.map stepD), .o (brs ub), .k (.int (k : Int)), .k (.int more), .k (.int (p.1 : Int)), .k (.int (p.2 : Int)), .k (.lst (nD th)), s10, s11, .u])
      (T.asg (EvF.data (EvF.to (evF_lcM (α := Nat) (xs := L.take k) (gd := fun e : Nat => D.int (e : Int)) (ei_list (EvF.data (EvF.to (ev_slL (lo := none) (hi := some (k : Int)) (ev_var rfl) eo_no (eo_some (ev_var rfl))) ?_))) (fun e => [(12, .int (e : Int))]) (fun e => !decide (e = p.1) && !decide (e = p.2)) (fun e : Nat => D.int (e : Int)) (fun e _ => eg_name) (fun e _ q hq => by rw [List.mem_singleton.mp hq]; simp) (fun e _ => EvT.to (et_test (ev_op (y := .tup (([(p.1 : Int), (p.2 : Int)] : List Int).map D.int)) (ev_var rfl) (ev_tup (ea_cons (ev_var rfl) (ea_cons (ev_var rfl) ea_nil)) (Nat.le_of_ble_eq_true rfl)) (rv_inT (neg := true)))) ?_) (fun e _ _ => ev_var rfl) (by rw [List.length_take]; omega)) ?_)) rfl) ?_
    · rw [cut_to, ← List.map_take]
      unfold kI
      rw [← List.map_take, List.map_map]
      rfl
    · show (!decide ((e : Int) ∈ [(p.1 : Int), (p.2 : Int)])) = (!decide (e = p.1) && !decide (e = p.2))
      by_cases q1 : e = p.1 <;> by_cases q2 : e = p.2 <;> simp [q1, q2] <;> omega
    · rw [hth]
      rfl
    have iv : ∀ {r : Rho}, r[2]? = some (.k (.lst ((kI L).map D.int))) → r[5]? = some (.k (.int (k : Int))) → EvD K (tOp (rIx K) (tVar 2) (tVar 5)) r (.int ((L.getD k 0 : Nat) : Int)) := fun h1 h2 => ev_op (ev_var h1) (ev_var h2) (rv_ixL (at_ k hkn))
    generalize hv : L.getD k 0 = v at iv
    refine T.seqP (N := fun r => ∃ (plan' : List (List Nat)) (ub' rows' : List Fr.Bar) (o1 o2 : Nat) (s10 s11 : Sl), r = [.k (.int c), .k (.int (n : Int)), .k (.lst ((kI L).map D.int)), .o (plan'.map stepD), .o (brs ub'), .k (.int (k : Int)), .k (.int more), .k (.int (o1 : Int)), .k (.int (o2 : Int)), .k (.lst (nD th)), s10, s11, .u] ∧ PI n L (k + 1) plan' (ub' ++ [(o1, v), (v, o2)]) rows' ∧ ub'.length ≤ 100)
      (T.ifS (b := decide (more / 64 % 2 = 1) && !decide (kI th = [])) (et_and (et_test (ev_op (ev_op (ev_op (ev_var rfl) ev_int (rv_div (j := 64) ⟨by decide, by decide⟩ (by decide))) ev_int (rv_mod (by decide) (by decide))) ev_int rv_eqI)) fun _ => et_test (ev_op (x := .lst ((kI th).map D.int)) (y := .lst (([] : List Int).map D.int)) (EvD.to (ev_var rfl) (by rw [nD_kI])) (EvF.data (ev_lst ea_nil (Nat.zero_le _))) rv_neInts)) (fun hb => ?_) fun _ => ?_) ?_
    · rw [Bool.and_eq_true] at hb
      have thp : 0 < th.length := by
        cases th with
        | nil => exact absurd hb.2 (by decide)
        | cons => exact Nat.succ_pos _
      obtain ⟨dt, hdt, rt⟩ := rv_pickL (K := K) (ds := nD th) (c := more / 128) (m := ((nD th).length : Int)) rfl (by rw [nD_len]; omega)
      obtain ⟨t, ht, rfl⟩ := List.mem_map.mp hdt
      obtain ⟨t1, t2, t3⟩ := thm t ht
      refine T.seq (ρ1 := [.k (.int c), .k (.int (n : Int)), .k (.lst ((kI L).map D.int)), .o (plan.map stepD), .o (brs ub), .k (.int (k : Int)), .k (.int more), .k (.int (p.1 : Int)), .k (.int (p.2 : Int)), .k (.lst (nD th)), .k (.int (t : Int)), s11, .u]) (T.asg (ev_op (ev_var rfl) (ev_op (ev_op (ev_var rfl) ev_int (rv_div (j := 128) ⟨by decide, by decide⟩ (by decide))) (ev_cb (ea_cons (ev_var rfl) ea_nil) rc_lenL) (rv_mod (by rw [nD_len]; omega) (by rw [nD_len]; omega))) rt) rfl) ?_
      refine T.seq (ρ1 := [.k (.int c), .k (.int (n : Int)), .k (.lst ((kI L).map D.int)), .o ((plan ++ [[v, p.1, p.2, t]]).map stepD), .o (brs ub), .k (.int (k : Int)), .k (.int more), .k (.int (p.1 : Int)), .k (.int (p.2 : Int)), .k (.lst (nD th)), .k (.int (t : Int)), s11, .u]) (T.append (i := 3) (ds := plan.map stepD) (d := stepD [v, p.1, p.2, t]) rfl (ev_tup (ea_cons ev_str (ea_cons (iv rfl rfl) (ea_cons (ev_var rfl) (ea_cons (ev_var rfl) (ea_cons (ev_var rfl) ea_nil))))) (Nat.le_of_ble_eq_true rfl)) (by rw [List.length_map]; omega) (by rw [map_snoc]; rfl)) ?_
      obtain ⟨q, k1, k2, k3⟩ := brs_erase hp
      refine T.seq (ρ1 := [.k (.int c), .k (.int (n : Int)), .k (.lst ((kI L).map D.int)), .o ((plan ++ [[v, p.1, p.2, t]]).map stepD), .o (brs (ub.erase p)), .k (.int (k : Int)), .k (.int more), .k (.int (p.1 : Int)), .k (.int (p.2 : Int)), .k (.lst (nD th)), .k (.int (t : Int)), s11, .u]) (T.removeD (k := q) (d := barD (bI p)) rfl (ev_tup (ea_cons (ev_var rfl) (ea_cons (ev_var rfl) ea_nil)) (Nat.le_of_ble_eq_true rfl)) rfl brs_okd rfl brs_sm k1 k2 (by rw [k3]; rfl)) ?_
      have hle := List.length_erase_le (l := ub) (a := p)
      refine T.append (i := 4) (ds := brs (ub.erase p)) (d := barD (bI (t, v))) rfl (ev_tup (ea_cons (ev_var rfl) (ea_cons (iv rfl rfl) ea_nil)) (Nat.le_of_ble_eq_true rfl)) (by rw [brs_len]; omega) ⟨_, ub.erase p ++ [(t, v)], stepRows rows [v, p.1, p.2, t], p.1, p.2, _, _, by rw [brs_app]; rfl, ?_, by rw [List.length_append]; show (ub.erase p).length + 1 ≤ 100; omega⟩
      have z := pi_three pi nd low hkL hp t1 t2 t3
      rw [hv] at z
      exact z
    · obtain ⟨p1, p2, p3, p4, p5⟩ := pPair (more / 7) (more / 211) hk2
      generalize pOther (more / 7) (more / 211) k = y at p2 p4 p5
      generalize pOne (more / 7) k = x at p1 p2 p3 p5
      refine T.seq (ρ1 := [.k (.int c), .k (.int (n : Int)), .k (.lst ((kI L).map D.int)), .o (plan.map stepD), .o (brs ub), .k (.int (k : Int)), .k (.int more), .k (.int (p.1 : Int)), .k (.int (p.2 : Int)), .k (.lst (nD th)), s10, .k (.int (x : Int)), .u]) (T.asg (EvD.to (ev_op (ev_op (ev_var rfl) ev_int (rv_div (j := 7) ⟨by decide, by decide⟩ (by decide))) (ev_var rfl) (rv_mod (by omega) (by omega))) (by rw [p1])) rfl) ?_
      refine T.seq (ρ1 := [.k (.int c), .k (.int (n : Int)), .k (.lst ((kI L).map D.int)), .o (plan.map stepD), .o (brs ub), .k (.int (k : Int)), .k (.int more), .k (.int ((L.getD x 0 : Nat) : Int)), .k (.int (p.2 : Int)), .k (.lst (nD th)), s10, .k (.int (x : Int)), .u]) (T.asg (ev_op (ev_var rfl) (ev_var rfl) (rv_ixL (at_ x (by omega)))) rfl) ?_
      refine T.seq (ρ1 := [.k (.int c), .k (.int (n : Int)), .k (.lst ((kI L).map D.int)), .o (plan.map stepD), .o (brs ub), .k (.int (k : Int)), .k (.int more), .k (.int ((L.getD x 0 : Nat) : Int)), .k (.int ((L.getD y 0 : Nat) : Int)), .k (.lst (nD th)), s10, .k (.int (x : Int)), .u]) (T.asg (ev_op (ev_var rfl) (EvD.to (ev_op (ev_op (ev_op (ev_var rfl) ev_int rv_plusI) (ev_op (ev_op (ev_var rfl) ev_int (rv_div (j := 211) ⟨by decide, by decide⟩ (by decide))) (ev_op (ev_var rfl) ev_int rv_sub) (rv_mod (by omega) (by omega))) rv_plusI) (ev_var rfl) (rv_mod (by omega) (by omega))) (by rw [p2])) (rv_ixL (at_ y (by omega)))) rfl) ?_
      have mk : ∀ w : Nat, w < k → L.getD w 0 ∈ L.take k := fun w hw => by
        have e : L.getD w 0 = L[w]'(by omega) := by rw [List.getD_eq_getElem?_getD, List.getElem?_eq_getElem (by omega)]; rfl
        rw [e]
        exact List.mem_take_iff_getElem.mpr ⟨w, by omega, rfl⟩
      have ne : L.getD x 0 ≠ L.getD y 0 := fun e => p5 (by
        rw [← hL] at e
        exact orderN_inj (by omega) (by omega) e)
      have m1 := mk x p3
      have m2 := mk y p4
      generalize L.getD x 0 = a at m1 ne
      generalize L.getD y 0 = b at m2 ne
      refine T.append (i := 3) (ds := plan.map stepD) (d := stepD [v, b, a]) rfl (ev_tup (ea_cons ev_str (ea_cons (iv rfl rfl) (ea_cons (ev_var rfl) (ea_cons (ev_var rfl) ea_nil)))) (Nat.le_of_ble_eq_true rfl)) (by rw [List.length_map]; omega) ⟨plan ++ [[v, b, a]], ub, stepRows rows [v, b, a], a, b, _, _, by rw [← map_snoc]; rfl, ?_, by omega⟩
      have z := pi_two pi nd low hkL m1 m2 ne
      rw [hv] at z
      exact z
    · rintro r ⟨plan', ub', rows', o1, o2, s10, s11, rfl, pi2, hl2⟩
      exact T.asgFV (es := brs (ub' ++ [(o1, v), (v, o2)])) (EvF.to (ev_opF (x := .lst (brs ub')) (y := .lst (brs [(o1, v), (v, o2)])) (ev_var rfl) (EvF.data (ev_lst (ea_cons (ev_tup (ea_cons (ev_var rfl) (ea_cons (iv rfl rfl) ea_nil)) (Nat.le_of_ble_eq_true rfl)) (ea_cons (ev_tup (ea_cons (iv rfl rfl) (ea_cons (ev_var rfl) ea_nil)) (Nat.le_of_ble_eq_true rfl)) ea_nil)) (Nat.le_of_ble_eq_true rfl))) (rvF_plus (by rw [brs_len, brs_len]; show ub'.length + 2 ≤ _; omega))) (brs_app _ _).symm) (fun d hd => brs_still d hd) ⟨plan', _, rows', _, _, _, _, _, _, _, rfl, pi2⟩
  · rintro r ⟨plan, ub, rows, s5, s6, s7, s8, s9, s10, s11, rfl, pi⟩
    rw [rngD_len, show ((n : Int) - 2).toNat + 2 = n by omega] at pi
    exact ⟨plan, ub, rows, _, _, _, _, _, _, _, ⟨rfl, rfl⟩, pi⟩
  rintro r x ⟨plan, ub, rows, s5, s6, s7, s8, s9, s10, s11, ⟨rfl, rfl⟩, pi⟩
  exact TM.retO rfl ⟨[], [], ⟨plan, rows, rfl, rfl, pi.g, pi.pl, pi_end pi hLl fun x hx => hLp.mem_iff.mpr (List.mem_range.mpr hx)⟩, List.Perm.refl _⟩
end
/-! ### l_absent -/
abbrev s_l_absent : Stmt := top 30
theorem sc_l_absent : FnScope ["_law_plan", "_law_cell", "_law_here", "_law_rows", "_law_made", "_law_found", "_law_one", "_law_some", "_law_end"] ["_law_plan", "_law_cell"] (defScope s_l_absent) := ⟨rfl, rfl, rfl, by decide +kernel, rfl, by decide +kernel, by decide +kernel⟩
inductive R_l_absent : List D → Gs → (Rs → Gs → Prop) → Prop
  | mk (n : Nat) (js : List Nat) (pr : List (List Nat)) (rows : List Fr.Bar) (c : Int) (h16 : n ≤ 16) (g : Goes n [] (js :: pr) rows) (hl : pr.length ≤ 16) : R_l_absent [.lst ((js :: pr).map stepD), .int c] [] fun r g => ∃ x y : Nat, r = .d (.tup [.int (x : Int), .int (y : Int)]) ∧ g = [] ∧ (x = y ∨ loB x y ∉ rows) ∧ isJt rows x = true ∧ isJt rows y = true
theorem rv_pickLe {K : PySem.W.Frag} {ds : List D} {c m : Int} (h : 0 < m) (hm : m ≤ (ds.length : Int)) : ∃ d ∈ ds, RV K (rIx K) (.lst ds) (.int (c % m)) d := by
  have a1 := Int.emod_nonneg c (show m ≠ 0 by omega)
  have a2 := Int.emod_lt_of_pos c h
  have hl : (c % m).toNat < ds.length := by omega
  exact ⟨ds[(c % m).toNat], List.getElem_mem hl, rv_ixL (atI_int a1 (List.getElem?_eq_getElem hl))⟩

section
variable {P : Program} {w : World} {K : PySem.W.Frag} {mg : Str → Option Value} {base : Heap}
theorem ok_l_absent {f : Addr} {fd : FuncData} (F : FnP K "_law_absent" s_l_absent f fd) (g : mg "_law_absent" = some (.ref f)) (M : Mods K mg w)  : Cal P w K mg base CX0 1 "_law_absent" ["_law_plan", "_law_cell"] (spQ K R_l_absent) := by
  refine ⟨f, fd, F.ok sc_l_absent (spQ_len fun _ _ _ r => by cases r <;> rfl) (fun cdv A outer s H vs Q E hr h => ?_), g, F.kp, F.bindsN fun _ _ _ _ _ _ us hl => match us, hl with | [_, _], _ => rfl⟩
  have hu := hr.units
  have h65 := units65 hr
  refine ⟨_, PSs.nox (pss_cons (ps_set (i := 2) sc_l_absent.nd rfl (Or.inl rfl) (pe_lst (pa_cons (pe_ix (ok_ix (K := K) rfl) (pe_ix (ok_ix (K := K) rfl) (pv 0) pe_int (fun _ _ => rfl)) pe_int (fun _ _ => rfl)) (pa_cons (pe_ix (ok_ix (K := K) rfl) (pe_ix (ok_ix (K := K) rfl) (pv 0) pe_int (fun _ _ => rfl)) pe_int (fun _ _ => rfl)) pa_nil))))
      (pss_cons (ps_set (i := 3) sc_l_absent.nd rfl (Or.inr rfl) (pe_lst (pa_cons (pe_tup (pa_cons (pe_callB (ok_min (K := K) rfl rfl) (by rfl) M.m_min (by decide +kernel) (pa_cons (pv 2) pa_nil)) (pa_cons (pe_callB (ok_max (K := K) rfl rfl) (by rfl) M.m_max (by decide +kernel) (pa_cons (pv 2) pa_nil)) pa_nil))) pa_nil)))
      (pss_cons (ps_for PassesOwn.never rfl (ok_ilist (K := K) rfl (pe_slice (ok_sl (K := K) rfl) (pv 0) (po_some pe_int) po_none)) (pg_name (i := 4) sc_l_absent.nd rfl (Or.inr rfl)) (pss_cons (ps_if (pt_cmpR (ok_eq (K := K) rfl hu) (pe_ix (ok_ix (K := K) rfl) (pv 4) pe_int (fun _ _ => rfl)) pe_str (nomark _)) (pss_one (ps_expr (pe_bm PySem.F.plainAttrs_list PySem.F.slot_list_remove PySem.F.type_list_remove (mt_remD (K := K) rfl hu) (pv 3) (pa_cons (pe_tup (pa_cons (pe_callB (ok_minT (K := K) rfl rfl hu) (by rfl) M.m_min (by decide +kernel) (pa_cons (pe_slice (ok_sl (K := K) rfl) (pv 4) (po_some pe_int) (po_some pe_int)) pa_nil)) (pa_cons (pe_callB (ok_maxT (K := K) rfl rfl hu) (by rfl) M.m_max (by decide +kernel) (pa_cons (pe_slice (ok_sl (K := K) rfl) (pv 4) (po_some pe_int) (po_some pe_int)) pa_nil)) pa_nil))) pa_nil)))) pss_nil)
      (pss_cons (ps_set (i := 3) sc_l_absent.nd rfl (Or.inr rfl) (pe_op (ok_plus (K := K) rfl) (pv 3) (pe_lc (own := [("_law_end", 8)]) (g := (gName 8)) (tt := tYes) rfl sc_l_absent.nd (ok_itup (K := K) rfl (pe_slice (ok_sl (K := K) rfl) (pv 4) (po_some pe_int) po_none)) (blkOk_by (N := ["_law_plan", "_law_cell", "_law_here", "_law_rows", "_law_made", "_law_found", "_law_one", "_law_some", "_law_end"]) (sc := defScope s_l_absent) (by decide +kernel)) (fun _ _ _ _ _ => (pg_name (i := 8) sc_l_absent.nd rfl (Or.inl rfl))) (fun _ _ _ _ _ => pts_nil) (fun _ _ _ _ _ => (pe_tup (pa_cons (pe_callB (call_min2 rfl) (by rfl) M.m_min (by decide +kernel) (pa_cons (pe_ix (ok_ix (K := K) rfl) (pv 4) pe_int (fun _ _ => rfl)) (pa_cons (pv 8) pa_nil))) (pa_cons (pe_callB (call_max2 rfl) (by rfl) M.m_max (by decide +kernel) (pa_cons (pe_ix (ok_ix (K := K) rfl) (pv 4) pe_int (fun _ _ => rfl)) (pa_cons (pv 8) pa_nil))) pa_nil)))))))
      (pss_one (ps_expr (pe_bm PySem.F.plainAttrs_list PySem.F.slot_list_append PySem.F.type_list_append mt_append (pv 2) (pa_cons (pe_ix (ok_ix (K := K) rfl) (pv 4) pe_int (fun _ _ => rfl)) pa_nil)))))))
      (pss_cons (ps_set (i := 5) sc_l_absent.nd rfl (Or.inl rfl) (pe_lst pa_nil))
      (pss_cons (ps_for PassesOwn.never rfl (ok_ilist (K := K) rfl (pv 2)) (pg_name (i := 6) sc_l_absent.nd rfl (Or.inr rfl)) (pss_cons (ps_setLc (i := 7) (own := [("_law_end", 8)]) (g := (gName 8)) (tt := _) rfl sc_l_absent.nd rfl rfl (sw_true rfl rfl rfl (by decide +kernel)) (ok_ilist (K := K) rfl (pv 2)) (blkOk_by (N := ["_law_plan", "_law_cell", "_law_here", "_law_rows", "_law_made", "_law_found", "_law_one", "_law_some", "_law_end"]) (sc := defScope s_l_absent) (by decide +kernel)) (fun _ _ _ _ _ => (pg_name (i := 8) sc_l_absent.nd rfl (Or.inl rfl))) (fun _ _ _ _ _ => (pts_one (pt_cmpR (ok_niD (K := K) rfl h65) (pe_tup (pa_cons (pe_callB (call_min2 rfl) (by rfl) M.m_min (by decide +kernel) (pa_cons (pv 6) (pa_cons (pv 8) pa_nil))) (pa_cons (pe_callB (call_max2 rfl) (by rfl) M.m_max (by decide +kernel) (pa_cons (pv 6) (pa_cons (pv 8) pa_nil))) pa_nil))) (pv 3) (by with_unfolding_all rfl)))) (fun _ _ _ _ _ => (pv 8)))
      (pss_one (ps_set (i := 5) sc_l_absent.nd rfl (Or.inl rfl) (pe_op (ok_plus (K := K) rfl) (pv 5) (pe_lc (own := [("_law_end", 8)]) (g := (gName 8)) (tt := _) rfl sc_l_absent.nd (ok_ilist (K := K) rfl (pv 7)) (blkOk_by (N := ["_law_plan", "_law_cell", "_law_here", "_law_rows", "_law_made", "_law_found", "_law_one", "_law_some", "_law_end"]) (sc := defScope s_l_absent) (by decide +kernel)) (fun _ _ _ _ _ => (pg_name (i := 8) sc_l_absent.nd rfl (Or.inl rfl))) (fun _ _ _ _ _ => (pts_one (pt_cmpR (ok_ne (K := K) rfl hu) (pv 6) (pv 8) (nomark _)))) (fun _ _ _ _ _ => (pe_tup (pa_cons (pv 6) (pa_cons (pv 8) pa_nil))))))))))
      (pss_one (ps_ret (pe_ix (ok_ix (K := K) rfl) (pe_op (ok_plus (K := K) rfl) (pv 5) (pe_lst (pa_cons (pe_tup (pa_cons (pe_ix (ok_ix (K := K) rfl) (pv 2) pe_int (fun _ _ => rfl)) (pa_cons (pe_ix (ok_ix (K := K) rfl) (pv 2) pe_int (fun _ _ => rfl)) pa_nil))) pa_nil))) (pe_op op_modN (pv 1) (pe_callB (call_max2 rfl) (by rfl) M.m_max (by decide +kernel) (pa_cons pe_int (pa_cons (pe_callB (ok_len (K := K) rfl) (by rfl) M.m_len (by decide +kernel) (pa_cons (pv 5) pa_nil)) pa_nil)))) (fun _ _ => rfl))))))))), ?_⟩
  refine TM.finQ (K := K) h fun ds g PQ rel => ?_
  cases rel with | mk n js pr rows c h16 g hl =>
  cases g with
  | cons a1 a2 a3 =>
    rcases may_cases a2 with ⟨a, b, rfl, _⟩ | ⟨v, a, b, rfl, _, c2, _⟩ | ⟨v, a, b, e, rfl, _, c2, _⟩
    rotate_left
    · cases c2
    · cases c2
    have g0 : Goes n [] [[a, b]] [loB a b] := .cons a1 a2 .nil
    have a3 : Goes n [loB a b] pr rows := a3
    have p0 : EvD K (tOp (rIx K) (tVar 0) (tC (.int 0))) [.k (.lst (([a, b] :: pr).map stepD)), .k (.int c), .u, .u, .u, .u, .u, .u, .u] (stepD [a, b]) := ev_op (ev_var rfl) ev_int (rv_ixL (atI_int (Int.le_refl 0) rfl))
    refine TM.seq (ρ1 := [.k (.lst (([a, b] :: pr).map stepD)), .k (.int c), .o (nD [a, b]), .u, .u, .u, .u, .u, .u]) (g1 := []) (TM.of (T.asgF (ev_lst (ea_cons (ev_op p0 ev_int (rv_ixT (atI_int (show (0 : Int) ≤ 1 by decide) rfl))) (ea_cons (ev_op p0 ev_int (rv_ixT (atI_int (show (0 : Int) ≤ 2 by decide) rfl))) ea_nil)) (Nat.le_of_ble_eq_true rfl)) ⟨rfl, rfl⟩)) ?_
    refine TM.seq (ρ1 := [.k (.lst (([a, b] :: pr).map stepD)), .k (.int c), .o (nD [a, b]), .o (brs [loB a b]), .u, .u, .u, .u, .u]) (g1 := []) (TM.of (T.asgFV (ev_lst (ea_cons (ev_loL (ev_var rfl)) ea_nil) (Nat.le_of_ble_eq_true rfl)) (fun d hd => brs_still (as := [loB a b]) d hd) ⟨rfl, rfl⟩)) ?_
    refine TM.seqP (N := fun r x => ∃ (hr : List Nat) (s4 s8 : Sl), (r = [.k (.lst (([a, b] :: pr).map stepD)), .k (.int c), .o (nD hr), .o (brs rows), s4, .u, .u, .u, s8] ∧ x = []) ∧ Here hr rows ∧ hr.length ≤ 20 ∧ 0 < hr.length ∧ rows.length ≤ 60)
      (TM.of (T.forM (xs := pr) (gd := stepD) (ei_list (EvF.data (EvF.to (ev_slL (lo := some ((1 : Nat) : Int)) (hi := none) (ev_var rfl) (eo_some ev_int) eo_no) (by rw [cut_from]; rfl)))) (fun i r => ∃ (hr : List Nat) (mid : List Fr.Bar) (s4 s8 : Sl), r = [.k (.lst (([a, b] :: pr).map stepD)), .k (.int c), .o (nD hr), .o (brs mid), s4, .u, .u, .u, s8] ∧ Goes n [loB a b] (pr.take i) mid ∧ Goes n mid (pr.drop i) rows ∧ Here hr mid ∧ hr.length = i + 2) ⟨[a, b], [loB a b], _, _, rfl, .nil, a3, (fun k => by rw [(show isJt [loB a b] k = true ↔ _ from isJt_lo (ps := [(a, b)]))]; simp), rfl⟩ ?_ ?_)) ?_
    · rintro i js r hjs ⟨hr, mid, s4, s8, rfl, g1, g2, hh, hhl⟩
      obtain ⟨hi, e⟩ := List.getElem?_eq_some_iff.mp hjs
      have ed : pr.drop i = js :: pr.drop (i + 1) := by rw [List.drop_eq_getElem_cons hi, e]
      have et : pr.take (i + 1) = pr.take i ++ [js] := by rw [List.take_add_one, hjs]; rfl
      rw [ed] at g2
      have ml := g1.len
      rw [List.length_take] at ml
      have ml : mid.length ≤ 60 := by
        have : ([loB a b] : List Fr.Bar).length = 1 := rfl
        omega
      cases g2 with
      | cons b1 b2 b3 =>
        have g3 : Goes n [loB a b] (pr.take (i + 1)) (stepRows mid js) := by rw [et]; exact g1.app (.cons b1 b2 .nil)
        have hne : mid ≠ [] := fun z => by
          cases hr with
          | nil => rw [List.length_nil] at hhl; omega
          | cons h t =>
            have := (hh h).mp List.mem_cons_self
            rw [z] at this
            cases this
        refine ⟨_, eg_name, ?_⟩
        rcases may_cases b2 with ⟨x, y, rfl, z⟩ | ⟨v, x, y, rfl, c1, c2, c3⟩ | ⟨v, x, y, w, rfl, c1, c2, c3, c4, c5⟩
        · exact absurd z hne
        · refine T.seq (ρ1 := [.k (.lst (([a, b] :: pr).map stepD)), .k (.int c), .o (nD hr), .o (brs mid), .k (stepD [v, x, y]), .u, .u, .u, s8]) (T.ifS (b := decide (("two" : Str) = "three")) (et_test (ev_op (ev_op (ev_var rfl) ev_int (rv_ixT (atI_int (Int.le_refl 0) rfl))) ev_str (rv_eqStr (wordOf_ok _) (by decide +kernel)))) (fun hb => absurd (of_decide_eq_true hb) (by decide +kernel)) fun _ => T.next rfl) ?_
          refine T.seq (ρ1 := [.k (.lst (([a, b] :: pr).map stepD)), .k (.int c), .o (nD hr), .o (brs (stepRows mid [v, x, y])), .k (stepD [v, x, y]), .u, .u, .u, s8]) (T.asgFV (es := brs (mid ++ ([x, y]).map (loB v))) (ev_ends (rest := [x, y]) (ev_var rfl) (ei_tup (ds := nD [x, y]) (ev_slFrom (a := 2) (ds := .str "two" :: nD [v, x, y]) (ev_var rfl) ev_int (by decide) (by simp))) (by simp) (fun k => ev_loB (ev_op (ev_var rfl) ev_int (rv_ixT (atI_int (show (0 : Int) ≤ 1 by decide) rfl))) (ev_var rfl)) (by omega) (by simp)) (fun d hd => brs_still d hd) rfl) ?_
          exact T.append (ds := nD hr) (d := .int (v : Int)) rfl (ev_op (ev_var rfl) ev_int (rv_ixT (atI_int (show (0 : Int) ≤ 1 by decide) rfl))) (by rw [nD_len]; omega) ⟨hr ++ [v], _, _, _, by rw [← nD_snoc]; rfl, g3, b3, here_step hh b2 rfl (fun k hk => by
            simp only [List.mem_cons, List.not_mem_nil, or_false] at hk
            rcases hk with rfl | rfl <;> assumption), by rw [List.length_append]; show hr.length + 1 = _; omega⟩
        · obtain ⟨q, k1, k2, k3⟩ := brs_erase c5
          have hle := List.length_erase_le (l := mid) (a := loB x y)
          refine T.seq (ρ1 := [.k (.lst (([a, b] :: pr).map stepD)), .k (.int c), .o (nD hr), .o (brs (mid.erase (loB x y))), .k (stepD [v, x, y, w]), .u, .u, .u, s8]) (T.ifS (b := decide (("three" : Str) = "three")) (et_test (ev_op (ev_op (ev_var rfl) ev_int (rv_ixT (atI_int (Int.le_refl 0) rfl))) ev_str (rv_eqStr (wordOf_ok _) (by decide +kernel)))) (fun _ => ?_) fun hb => absurd rfl (of_decide_eq_false hb)) ?_
          · exact T.removeD (k := q) (d := barD (bI (loB x y))) rfl (ev_loT (ev_slMid (a := 2) (b := 4) (ds := .str "three" :: nD [v, x, y, w]) (ev_var rfl) ev_int ev_int (by decide) (by decide) (Nat.le_of_ble_eq_true rfl) (by simp))) rfl brs_okd rfl brs_sm k1 k2 (by rw [k3]; rfl)
          refine T.seq (ρ1 := [.k (.lst (([a, b] :: pr).map stepD)), .k (.int c), .o (nD hr), .o (brs (stepRows mid [v, x, y, w])), .k (stepD [v, x, y, w]), .u, .u, .u, s8]) (T.asgFV (es := brs (mid.erase (loB x y) ++ ([x, y, w]).map (loB v))) (ev_ends (rest := [x, y, w]) (ev_var rfl) (ei_tup (ds := nD [x, y, w]) (ev_slFrom (a := 2) (ds := .str "three" :: nD [v, x, y, w]) (ev_var rfl) ev_int (by decide) (by simp))) (by simp) (fun k => ev_loB (ev_op (ev_var rfl) ev_int (rv_ixT (atI_int (show (0 : Int) ≤ 1 by decide) rfl))) (ev_var rfl)) (by omega) (by simp)) (fun d hd => brs_still d hd) rfl) ?_
          exact T.append (ds := nD hr) (d := .int (v : Int)) rfl (ev_op (ev_var rfl) ev_int (rv_ixT (atI_int (show (0 : Int) ≤ 1 by decide) rfl))) (by rw [nD_len]; omega) ⟨hr ++ [v], _, _, _, by rw [← nD_snoc]; rfl, g3, b3, here_step hh b2 rfl (fun k hk => by
            simp only [List.mem_cons, List.not_mem_nil, or_false] at hk
            rcases hk with rfl | rfl | rfl <;> assumption), by rw [List.length_append]; show hr.length + 1 = _; omega⟩
    · rintro r ⟨hr, mid, s4, s8, rfl, g1, g2, hh, hhl⟩
      rw [List.drop_length] at g2
      have ml := g1.len
      rw [List.length_take] at ml
      cases g2
      exact ⟨hr, s4, s8, ⟨rfl, rfl⟩, hh, by omega, by omega, by have : ([loB a b] : List Fr.Bar).length = 1 := rfl; omega⟩
    rintro r gg ⟨hr, s4, s8, ⟨rfl, rfl⟩, hh, hhl, hr0, rl⟩
    refine TM.freeze (i := 2) rfl (TM.freeze (i := 3) rfl ?_)
    refine TM.seq (ρ1 := [.k (.lst (([a, b] :: pr).map stepD)), .k (.int c), .k (.lst (nD hr)), .k (.lst (brs rows)), s4, .o (brs []), .u, .u, s8]) (g1 := []) (TM.of (T.asgF (ev_lst ea_nil (Nat.zero_le _)) ⟨rfl, rfl⟩)) ?_
    refine TM.seqP (N := fun r x => ∃ (fd : List Fr.Bar) (s6 s7 s8 : Sl), (r = [.k (.lst (([a, b] :: pr).map stepD)), .k (.int c), .k (.lst (nD hr)), .k (.lst (brs rows)), s4, .o (brs fd), s6, s7, s8] ∧ x = []) ∧ (∀ p ∈ fd, loB p.1 p.2 ∉ rows ∧ p.1 ∈ hr ∧ p.2 ∈ hr) ∧ fd.length ≤ 20 * hr.length)
      (TM.of (T.forM (xs := hr) (gd := fun k : Nat => D.int (k : Int)) (ei_list (ev_var rfl)) (fun i r => ∃ (fd : List Fr.Bar) (s6 s7 s8 : Sl), r = [.k (.lst (([a, b] :: pr).map stepD)), .k (.int c), .k (.lst (nD hr)), .k (.lst (brs rows)), s4, .o (brs fd), s6, s7, s8] ∧ (∀ p ∈ fd, loB p.1 p.2 ∉ rows ∧ p.1 ∈ hr ∧ p.2 ∈ hr) ∧ fd.length ≤ 20 * i) ⟨[], _, _, _, rfl, (fun _ h => nomatch h), Nat.le_refl _⟩ ?_ ?_)) ?_
    · rintro i x r hx ⟨fd, s6, s7, s8, rfl, hf, hfl⟩
      have hxm := List.mem_of_getElem? hx
      obtain ⟨hi, _⟩ := List.getElem?_eq_some_iff.mp hx
      refine ⟨_, eg_name, ?_⟩
      refine T.seq (ρ1 := [.k (.lst (([a, b] :: pr).map stepD)), .k (.int c), .k (.lst (nD hr)), .k (.lst (brs rows)), s4, .o (brs fd), .k (.int (x : Int)), .k (.lst (nD (hr.filter fun e => !decide (loB x e ∈ rows)))), s8])
        (T.asg (EvF.data (EvF.to (evF_lcM (α := Nat) (xs := hr) (gd := fun e : Nat => D.int (e : Int)) (ei_list (ev_var rfl)) (fun e => [(8, .int (e : Int))]) (fun e => !decide (loB x e ∈ rows)) (fun e : Nat => D.int (e : Int)) (fun e _ => eg_name) (fun e _ q hq => by rw [List.mem_singleton.mp hq]; simp) (fun e _ => et_test (ev_op (ev_loB (ev_var rfl) (ev_var rfl)) (ev_var rfl) (rv_niD rfl (fun d hd => brs_okd d hd) rfl (fun d hd => brs_sm d hd) ?_))) (fun e _ _ => ev_var rfl) (by omega)) rfl)) rfl) ?_
      · rw [decide_eq_true_eq]
        exact ⟨fun h => List.mem_map_of_mem (List.mem_map_of_mem h), fun h => by
          obtain ⟨y, hy, e2⟩ := brs_mem h
          exact barI_inj _ _ e2 ▸ hy⟩
      have smem : ∀ e ∈ hr.filter (fun e => !decide (loB x e ∈ rows)), e ∈ hr ∧ loB x e ∉ rows := fun e he => by
        rw [List.mem_filter] at he
        exact ⟨he.1, by simpa using he.2⟩
      have slen := List.length_filter_le (fun e => !decide (loB x e ∈ rows)) hr
      generalize hr.filter (fun e => !decide (loB x e ∈ rows)) = so at smem slen
      have fl2 := List.length_filter_le (fun e => !decide (x = e)) so
      refine T.asgFV (es := brs (fd ++ ((so.filter fun e => !decide (x = e)).map fun e => (x, e)))) (EvF.to (ev_opF (x := .lst (brs fd)) (y := .lst (brs ((so.filter fun e => !decide (x = e)).map fun e => (x, e)))) (ev_var rfl) (EvF.data (EvF.to (evF_lcM (α := Nat) (xs := so) (gd := fun e : Nat => D.int (e : Int)) (ei_list (ev_var rfl)) (fun e => [(8, .int (e : Int))]) (fun e => !decide (x = e)) (fun e : Nat => barD (bI (x, e))) (fun e _ => eg_name) (fun e _ q hq => by rw [List.mem_singleton.mp hq]; simp) (fun e _ => EvT.to (et_test (ev_op (ev_var rfl) (ev_var rfl) rv_neI)) ?_) (fun e _ _ => ev_tup (ea_cons (ev_var rfl) (ea_cons (ev_var rfl) ea_nil)) (Nat.le_of_ble_eq_true rfl)) (by omega)) ?_)) (rvF_plus (by rw [brs_len, brs_len, List.length_map]; omega))) (brs_app _ _).symm) (fun d hd => brs_still d hd) ⟨_, _, _, _, rfl, ?_, by rw [List.length_append, List.length_map]; omega⟩
      · show (!decide ((x : Int) = (e : Int))) = _
        rw [decide_eq_decide.mpr (show (x : Int) = (e : Int) ↔ x = e by omega)]
      · unfold brs
        rw [List.map_map, List.map_map]
        rfl
      · intro p hp
        rcases List.mem_append.mp hp with hp | hp
        · exact hf p hp
        · obtain ⟨e, he, rfl⟩ := List.mem_map.mp hp
          obtain ⟨m1, m2⟩ := smem e (List.mem_filter.mp he).1
          exact ⟨m2, hxm, m1⟩
    · rintro r ⟨fd, s6, s7, s8, rfl, hf, hfl⟩
      exact ⟨fd, _, _, _, ⟨rfl, rfl⟩, hf, hfl⟩
    rintro r gg ⟨fd, s6, s7, s8, ⟨rfl, rfl⟩, hf, hfl⟩
    refine TM.freeze (i := 5) rfl ?_
    obtain ⟨h0, ht, eh⟩ := List.exists_cons_of_length_pos hr0
    subst eh
    obtain ⟨d, hd, rd⟩ := rv_pickLe (K := K) (ds := brs (fd ++ [(h0, h0)])) (c := c) (m := max 1 ((brs fd).length : Int)) (by omega) (by rw [brs_len, brs_len, List.length_append]; show max 1 (fd.length : Int) ≤ ((fd.length + 1 : Nat) : Int); omega)
    obtain ⟨p, hp, rfl⟩ := brs_mem hd
    have hA : EvD K _ [.k (.lst (([a, b] :: pr).map stepD)), .k (.int c), .k (.lst (nD (h0 :: ht))), .k (.lst (brs rows)), s4, .k (.lst (brs fd)), s6, s7, s8] (.lst (brs (fd ++ [(h0, h0)]))) := EvF.data (EvF.to (ev_opF (x := .lst (brs fd)) (y := .lst (brs [(h0, h0)])) (ev_var (i := 5) rfl) (EvF.data (ev_lst (ea_cons (ev_tup (ea_cons (ev_op (ev_var (i := 2) rfl) ev_int (rv_ixL (atI_int (Int.le_refl 0) rfl))) (ea_cons (ev_op (ev_var (i := 2) rfl) ev_int (rv_ixL (atI_int (Int.le_refl 0) rfl))) ea_nil)) (Nat.le_of_ble_eq_true rfl)) ea_nil) (Nat.le_of_ble_eq_true rfl))) (rvF_plus (by rw [brs_len, brs_len]; show fd.length + 1 ≤ _; have : (h0 :: ht).length ≤ 20 := hhl; omega))) (brs_app _ _).symm)
    refine TM.retX (r := .d (barD (bI p))) (EvX.of (ev_op hA (ev_op (ev_var rfl) (ev_cb (ea_cons ev_int (ea_cons (ev_cb (ea_cons (ev_var rfl) ea_nil) rc_lenL) ea_nil)) rc_max2) (rv_mod (by omega) (by omega))) rd)) ⟨[], [], ⟨p.1, p.2, rfl, rfl, ?_, ?_⟩, List.Perm.refl _⟩
    · rcases List.mem_append.mp hp with hp | hp
      · exact .inr (hf p hp).1
      · rw [List.mem_singleton.mp hp]
        exact .inl rfl
    · rcases List.mem_append.mp hp with hp | hp
      · exact ⟨(hh _).mp (hf p hp).2.1, (hh _).mp (hf p hp).2.2⟩
      · rw [List.mem_singleton.mp hp]
        exact ⟨(hh _).mp List.mem_cons_self, (hh _).mp List.mem_cons_self⟩
end
/-! ### l_spoilt -/
abbrev s_l_spoilt : Stmt := top 31
theorem sc_l_spoilt : FnScope ["_law_made", "_law_plan", "_law_at", "_law_cell", "_law_count", "_law_far", "_law_same", "_law_some", "_law_pair", "_law_here", "_law_third", "_law_one", "_law_end"] ["_law_made", "_law_plan", "_law_at", "_law_cell", "_law_count"] (defScope s_l_spoilt) := ⟨rfl, rfl, rfl, by decide +kernel, rfl, by decide +kernel, by decide +kernel⟩
theorem fb_nil {P : D → Prop} : ∀ x ∈ ([] : List D), P x := fun _ h => nomatch h
theorem fb_cons {P : D → Prop} {d : D} {l : List D} (h : P d) (t : ∀ x ∈ l, P x) : ∀ x ∈ d :: l, P x := fun x hx => by
  rcases List.mem_cons.mp hx with rfl | hx
  · exact h
  · exact t x hx
theorem bad_nat {n : Nat} {mid : List Fr.Bar} {js : List Nat} (h1 : 2 ≤ js.length) (h2 : js.length ≤ 4) (h : okStep n js = true → mayB mid js = false) : BadAt n mid (stepD js) := by
  cases q : okStep n js with
  | true => exact .inr ⟨js, rfl, q, h q⟩
  | false =>
    have z := StepD.nats (n := n) h1 h2
    rw [q] at z
    exact .inl z
theorem bad_dup {n : Nat} {mid : List Fr.Bar} {js : List Nat} (h1 : 2 ≤ js.length) (h2 : js.length ≤ 4) (h : ¬ js.Nodup) : BadAt n mid (stepD js) := bad_nat h1 h2 fun z => absurd (okStep_iff.mp z).2.2 h
inductive JDs (c : Int) : List D → List Bool → Prop
  | nil : JDs c [] []
  | cons {d : D} {b : Bool} {ds : List D} {bs : List Bool} (h : JD c d b) (t : JDs c ds bs) : JDs c (d :: ds) (b :: bs)
theorem JDs.len {c : Int} {ds : List D} {bs : List Bool} (h : JDs c ds bs) : ds.length = bs.length := by
  induction h with
  | nil => rfl
  | cons _ _ ih => rw [List.length_cons, List.length_cons, ih]
theorem JDs.at {c : Int} {ds : List D} {bs : List Bool} (h : JDs c ds bs) : ∀ (i : Nat) (d : D) (b : Bool), ds[i]? = some d → bs[i]? = some b → JD c d b := by
  induction h with
  | nil => exact fun i d b h => by simp at h
  | cons h t ih =>
    intro i d b h1 h2
    cases i with
    | zero => simp at h1 h2; subst h1; subst h2; exact h
    | succ i => exact ih i d b (by simpa using h1) (by simpa using h2)
theorem bad_jt {n : Nat} {mid : List Fr.Bar} {x : Str} {ds : List D} {bs : List Bool} (hx : (x, some (ds.length + 1 : Int)) ∈ [(("bar" : Str), some (3 : Int)), ("two", some 4), ("three", some 5)]) (hl : ds.length ≤ 10) (h : JDs (n : Int) ds bs) (hb : bs.all id = false) : BadAt n mid (.tup (.str x :: ds)) := .inl (.joints hx hl h.len h.at hb)
inductive R_l_spoilt : List D → Gs → (Rs → Gs → Prop) → Prop
  | mk (n : Nat) (q js : List Nat) (pr post : List (List Nat)) (mid : List Fr.Bar) (c : Int) (h16 : n ≤ 16) (g : Goes n [] (q :: pr) mid) (ok : okStep n js = true) (may : mayB mid js = true) (hl : pr.length ≤ 16) : R_l_spoilt [stepD js, .lst ((q :: pr ++ js :: post).map stepD), .int ((pr.length + 1 : Nat) : Int), .int c, .int (n : Int)] [] fun r g => ∃ d, r = .d (.tup [d, .lst (.str (wordOf js.length) :: nD js)]) ∧ g = [] ∧ BadAt n mid d

section
variable {P : Program} {w : World} {K : PySem.W.Frag} {mg : Str → Option Value} {base : Heap}
theorem ok_l_spoilt {f : Addr} {fd : FuncData} (F : FnP K "_law_spoilt" s_l_spoilt f fd) (g : mg "_law_spoilt" = some (.ref f)) (M : Mods K mg w) (C_l_absent : Cal P w K mg base CX0 1 "_law_absent" ["_law_plan", "_law_cell"] (spQ K R_l_absent)) : Cal P w K mg base CX0 2 "_law_spoilt" ["_law_made", "_law_plan", "_law_at", "_law_cell", "_law_count"] (spQ K R_l_spoilt) := by
  refine ⟨f, fd, F.ok sc_l_spoilt (spQ_len fun _ _ _ r => by cases r <;> rfl) (fun cdv A outer s H vs Q E hr h => ?_), g, F.kp, F.bindsN fun _ _ _ _ _ _ us hl => match us, hl with | [_, _, _, _, _], _ => rfl⟩
  have hu := hr.units
  refine ⟨_, PSs.nox (pss_cons (ps_set (i := 5) sc_l_spoilt.nd rfl (Or.inl rfl) (pe_op (ok_plus (K := K) rfl) (pv 4) (pe_op op_modN (pe_op op_fdivN (pv 3) pe_int) (pe_op op_pow pe_int pe_int))))
      (pss_cons (ps_set (i := 6) sc_l_spoilt.nd rfl (Or.inl rfl) (pe_callTy (ok_list (K := K) rfl) (by rfl) M.m_list (by decide +kernel) (pa_cons (pv 0) pa_nil)))
      (pss_cons (ps_set (i := 7) sc_l_spoilt.nd rfl (Or.inl rfl) (pe_lst (pa_cons (pe_slice (ok_sl (K := K) rfl) (pv 0) po_none (po_some (pe_un un_neg pe_int))) (pa_cons (pe_op (ok_plus (K := K) rfl) (pv 0) (pe_tup (pa_cons pe_int pa_nil))) (pa_cons (pe_op (ok_plus (K := K) rfl) (pe_tup (pa_cons pe_str pa_nil)) (pe_slice (ok_sl (K := K) rfl) (pv 0) (po_some pe_int) po_none)) (pa_cons (pe_callTy (ok_list (K := K) rfl) (by rfl) M.m_list (by decide +kernel) (pa_cons (pv 0) pa_nil)) (pa_cons (pe_op (ok_plus (K := K) rfl) (pe_tup (pa_cons (pe_ix (ok_ix (K := K) rfl) (pv 0) pe_int (fun _ _ => rfl)) (pa_cons (pe_ix (ok_ix (K := K) rfl) (pe_ix (ok_ix (K := K) rfl) (pv 1) (pe_op op_sub (pv 2) pe_int) (fun _ _ => rfl)) pe_int (fun _ _ => rfl)) pa_nil))) (pe_slice (ok_sl (K := K) rfl) (pv 0) (po_some pe_int) po_none)) pa_nil)))))))
      (pss_cons (ps_set (i := 7) sc_l_spoilt.nd rfl (Or.inl rfl) (pe_op (ok_plus (K := K) rfl) (pv 7) (pe_lst (pa_cons (pe_op (ok_plus (K := K) rfl) (pe_op (ok_plus (K := K) rfl) (pe_slice (ok_sl (K := K) rfl) (pv 0) po_none (po_some pe_int)) (pe_tup (pa_cons (pe_ix (ok_ix (K := K) rfl) (pv 0) pe_int (fun _ _ => rfl)) pa_nil))) (pe_slice (ok_sl (K := K) rfl) (pv 0) (po_some pe_int) po_none)) (pa_cons (pe_op (ok_plus (K := K) rfl) (pe_op (ok_plus (K := K) rfl) (pe_slice (ok_sl (K := K) rfl) (pv 0) po_none (po_some pe_int)) (pe_tup (pa_cons (pe_ix (ok_ix (K := K) rfl) (pv 0) pe_int (fun _ _ => rfl)) pa_nil))) (pe_slice (ok_sl (K := K) rfl) (pv 0) (po_some pe_int) po_none)) (pa_cons (pe_op (ok_plus (K := K) rfl) (pe_slice (ok_sl (K := K) rfl) (pv 0) po_none (po_some (pe_un un_neg pe_int))) (pe_tup (pa_cons (pv 5) pa_nil))) pa_nil))))))
      (pss_cons (ps_set (i := 7) sc_l_spoilt.nd rfl (Or.inl rfl) (pe_op (ok_plus (K := K) rfl) (pv 7) (pe_lst (pa_cons (pe_op (ok_plus (K := K) rfl) (pe_slice (ok_sl (K := K) rfl) (pv 0) po_none (po_some (pe_un un_neg pe_int))) (pe_tup (pa_cons (pe_un un_neg pe_int) pa_nil))) (pa_cons (pe_op (ok_plus (K := K) rfl) (pe_slice (ok_sl (K := K) rfl) (pv 0) po_none (po_some (pe_un un_neg pe_int))) (pe_tup (pa_cons pe_bl pa_nil))) (pa_cons (pe_op (ok_plus (K := K) rfl) (pe_slice (ok_sl (K := K) rfl) (pv 0) po_none (po_some (pe_un un_neg pe_int))) (pe_tup (pa_cons pe_str pa_nil))) pa_nil))))))
      (pss_cons (ps_set (i := 7) sc_l_spoilt.nd rfl (Or.inl rfl) (pe_op (ok_plus (K := K) rfl) (pv 7) (pe_lst (pa_cons (pe_op (ok_plus (K := K) rfl) (pe_slice (ok_sl (K := K) rfl) (pv 0) po_none (po_some (pe_un un_neg pe_int))) (pe_tup (pa_cons pe_non pa_nil))) (pa_cons pe_non (pa_cons pe_int pa_nil))))))
      (pss_cons (ps_set (i := 7) sc_l_spoilt.nd rfl (Or.inl rfl) (pe_op (ok_plus (K := K) rfl) (pv 7) (pe_lst (pa_cons (pe_op (ok_plus (K := K) rfl) (pe_tup (pa_cons pe_str pa_nil)) (pe_slice (ok_sl (K := K) rfl) (pv 0) (po_some pe_int) (po_some pe_int))) (pa_cons (pe_op (ok_plus (K := K) rfl) (pe_tup (pa_cons (pe_ix (ok_ix (K := K) rfl) (pv 0) pe_int (fun _ _ => rfl)) (pa_cons (pv 5) pa_nil))) (pe_slice (ok_sl (K := K) rfl) (pv 0) (po_some pe_int) po_none)) (pa_cons (pe_slice (ok_sl (K := K) rfl) (pv 0) po_none (po_some pe_int)) (pa_cons (pe_op (ok_plus (K := K) rfl) (pe_tup (pa_cons (pe_ix (ok_ix (K := K) rfl) (pv 0) pe_int (fun _ _ => rfl)) (pa_cons (pe_lst (pa_cons pe_int pa_nil)) pa_nil))) (pe_slice (ok_sl (K := K) rfl) (pv 0) (po_some pe_int) po_none)) pa_nil)))))))
      (pss_cons (ps_set (i := 7) sc_l_spoilt.nd rfl (Or.inl rfl) (pe_op (ok_plus (K := K) rfl) (pv 7) (pe_lst (pa_cons (pe_op (ok_plus (K := K) rfl) (pe_tup (pa_cons (pe_lst (pa_cons (pe_ix (ok_ix (K := K) rfl) (pv 0) pe_int (fun _ _ => rfl)) pa_nil)) pa_nil)) (pe_slice (ok_sl (K := K) rfl) (pv 0) (po_some pe_int) po_none)) (pa_cons (pe_op (ok_plus (K := K) rfl) (pe_tup (pa_cons pe_dnewK pa_nil)) (pe_slice (ok_sl (K := K) rfl) (pv 0) (po_some pe_int) po_none)) pa_nil)))))
      (pss_cons (ps_set (i := 8) sc_l_spoilt.nd rfl (Or.inr rfl) (pe_cal C_l_absent hr (by decide) pass0 (pa_cons (pe_slice (ok_sl (K := K) rfl) (pv 1) po_none (po_some (pv 2))) (pa_cons (pe_op op_fdivN (pv 3) pe_int) pa_nil))))
      (pss_cons (ps_set (i := 9) sc_l_spoilt.nd rfl (Or.inl rfl) (pe_op (ok_plus (K := K) rfl) (pe_lst (pa_cons (pe_ix (ok_ix (K := K) rfl) (pe_ix (ok_ix (K := K) rfl) (pv 1) pe_int (fun _ _ => rfl)) pe_int (fun _ _ => rfl)) (pa_cons (pe_ix (ok_ix (K := K) rfl) (pe_ix (ok_ix (K := K) rfl) (pv 1) pe_int (fun _ _ => rfl)) pe_int (fun _ _ => rfl)) pa_nil))) (pe_lc (own := [("_law_one", 11)]) (g := (gName 11)) (tt := tYes) rfl sc_l_spoilt.nd (ok_ilist (K := K) rfl (pe_slice (ok_sl (K := K) rfl) (pv 1) (po_some pe_int) (po_some (pv 2)))) (blkOk_by (N := ["_law_made", "_law_plan", "_law_at", "_law_cell", "_law_count", "_law_far", "_law_same", "_law_some", "_law_pair", "_law_here", "_law_third", "_law_one", "_law_end"]) (sc := defScope s_l_spoilt) (by decide +kernel)) (fun _ _ _ _ _ => (pg_name (i := 11) sc_l_spoilt.nd rfl (Or.inl rfl))) (fun _ _ _ _ _ => pts_nil) (fun _ _ _ _ _ => (pe_ix (ok_ix (K := K) rfl) (pv 11) pe_int (fun _ _ => rfl))))))
      (pss_cons (ps_setLc (i := 10) (own := [("_law_end", 12)]) (g := (gName 12)) (tt := _) rfl sc_l_spoilt.nd rfl rfl (sw_true rfl rfl rfl (by decide +kernel)) (ok_ilist (K := K) rfl (pv 9)) (blkOk_by (N := ["_law_made", "_law_plan", "_law_at", "_law_cell", "_law_count", "_law_far", "_law_same", "_law_some", "_law_pair", "_law_here", "_law_third", "_law_one", "_law_end"]) (sc := defScope s_l_spoilt) (by decide +kernel)) (fun _ _ _ _ _ => (pg_name (i := 12) sc_l_spoilt.nd rfl (Or.inl rfl))) (fun _ _ _ _ _ => (pts_one (pt_cmpR (ok_ni (K := K) rfl) (pv 12) (pv 8) (by with_unfolding_all rfl)))) (fun _ _ _ _ _ => (pv 12)))
      (pss_cons (ps_expr (pe_bm PySem.F.plainAttrs_list PySem.F.slot_list_append PySem.F.type_list_append mt_append (pv 7) (pa_cons (pe_op (ok_plus (K := K) rfl) (pe_op (ok_plus (K := K) rfl) (pe_tup (pa_cons pe_str (pa_cons (pe_ix (ok_ix (K := K) rfl) (pv 0) pe_int (fun _ _ => rfl)) pa_nil))) (pv 8)) (pe_callTy (ok_tupOf (K := K) rfl) (by rfl) M.m_tuple (by decide +kernel) (pa_cons (pe_slice (ok_sl (K := K) rfl) (pv 10) po_none (po_some pe_int)) pa_nil))) pa_nil)))
      (pss_one (ps_ret (pe_tup (pa_cons (pe_ix (ok_ix (K := K) rfl) (pv 7) (pe_op op_modN (pv 3) pe_int) (fun _ _ => rfl)) (pa_cons (pv 6) pa_nil))))))))))))))))), ?_⟩
  refine TM.finQ (K := K) h fun ds g PQ rel => ?_
  cases rel with | mk n q js pr post mid c h16 g ok may hl =>
  have hmid : mid ≠ [] := by
    cases g with
    | cons a1 a2 a3 =>
      intro z
      have z2 : isJt mid (q.headD 0) = true := (Goes.jt (.cons a1 a2 a3)).mpr (.inr ⟨q, List.mem_cons_self, by
        rcases okStep_cases a1 with ⟨a, b, rfl⟩ | ⟨v, a, b, rfl⟩ | ⟨v, a, b, e, rfl⟩ <;> simp⟩)
      rw [z] at z2
      cases z2
  -- the step ahead
  obtain ⟨lst, hlst, hlm⟩ : ∃ lst : List Nat, ((q :: pr) ++ js :: post)[pr.length]? = some lst ∧ lst ∈ q :: pr := by
    have h1 : pr.length < (q :: pr).length := Nat.lt_succ_self _
    exact ⟨(q :: pr)[pr.length], by rw [List.getElem?_append_left h1, List.getElem?_eq_getElem h1], List.getElem_mem h1⟩
  have okl := g.steps lst hlm
  obtain ⟨l0, lr, rfl⟩ : ∃ l0 lr, lst = l0 :: lr := by
    rcases okStep_cases okl with ⟨a, b, rfl⟩ | ⟨v, a, b, rfl⟩ | ⟨v, a, b, e, rfl⟩ <;> exact ⟨_, _, rfl⟩
  have jl0 : isJt mid l0 = true := g.jt.mpr (.inr ⟨_, hlm, List.mem_cons_self⟩)
  have lix : atI ((q :: pr ++ js :: post).map stepD) (((pr.length + 1 : Nat) : Int) - 1) = some (stepD (l0 :: lr)) := by
    rw [show ((pr.length + 1 : Nat) : Int) - 1 = (pr.length : Int) by omega]
    refine atI_nat ?_
    rw [List.getElem?_map, hlst]
    rfl
  generalize hP : (q :: pr ++ js :: post).map stepD = P
  rw [hP] at lix
  have cutP : cutD P none (some ((pr.length + 1 : Nat) : Int)) = (q :: pr).map stepD := by
    rw [cut_to, ← hP, ← List.map_take]
    rw [show pr.length + 1 = (q :: pr).length from rfl, List.take_left]
  obtain ⟨a0, b0, rfl⟩ : ∃ a0 b0, q = [a0, b0] := by
    cases g with
    | cons a1 a2 a3 =>
      rcases may_cases a2 with ⟨a, b, rfl, _⟩ | ⟨v, a, b, rfl, _, c2, _⟩ | ⟨v, a, b, e, rfl, _, c2, _⟩
      · exact ⟨a, b, rfl⟩
      · cases c2
      · cases c2
  have prs : ∀ l ∈ pr, ∃ h t, l = h :: t := fun l hl => by
    rcases okStep_cases (g.steps l (List.mem_cons_of_mem _ hl)) with ⟨a, b, rfl⟩ | ⟨v, a, b, rfl⟩ | ⟨v, a, b, e, rfl⟩ <;> exact ⟨_, _, rfl⟩
  have P0 : atI P 0 = some (stepD [a0, b0]) := by rw [← hP]; exact atI_int (Int.le_refl 0) rfl
  have cutM : cutD P (some ((1 : Nat) : Int)) (some ((pr.length + 1 : Nat) : Int)) = pr.map stepD := by
    rw [cut_mid _ _ _ (by rw [← hP, List.length_map, List.length_append]; show pr.length + 1 ≤ pr.length + 1 + _; omega) (by omega), ← hP]
    show ((pr ++ js :: post).map stepD).take (pr.length + 1 - 1) = _
    rw [← List.map_take, Nat.add_sub_cancel, List.take_left]
  have okm : Fr.Ok n mid := g.ok fun _ h => nomatch h
  generalize hfar : (n : Int) + c / 21 % 10 ^ (9 : Int).toNat = far
  have far0 : (n : Int) ≤ far := by
    have := Int.emod_nonneg (c / 21) (show ((10 : Int) ^ (9 : Int).toNat) ≠ 0 by decide)
    omega
  obtain ⟨_, oklt, oknd⟩ := okStep_iff.mp ok
  rcases may_cases may with ⟨x, y, rfl, z⟩ | ⟨v, a, b, rfl, c1, c2, c3⟩ | ⟨v, a, b, e, rfl, c1, c2, c3, c4, c5⟩
  · exact absurd z hmid
  · have fj : decide (far < (n : Int)) = false := decide_eq_false (by omega)
    refine TM.seq (ρ1 := [.k (stepD [v, a, b]), .k (.lst P), .k (.int ((pr.length + 1 : Nat) : Int)), .k (.int c), .k (.int (n : Int)), .k (.int far), .u, .u, .u, .u, .u, .u, .u]) (g1 := []) (TM.of (T.asg (EvD.to (ev_op (ev_var rfl) (ev_op (ev_op (ev_var rfl) ev_int (rv_div ⟨by decide, by decide⟩ (by decide))) (ev_op ev_int ev_int (rv_pow (by unfold CPow; decide))) (rv_mod (by decide) (by decide))) rv_plusI) (by rw [hfar])) ⟨rfl, rfl⟩)) ?_
    refine TM.seq (ρ1 := [.k (stepD [v, a, b]), .k (.lst P), .k (.int ((pr.length + 1 : Nat) : Int)), .k (.int c), .k (.int (n : Int)), .k (.int far), .k (.lst (.str "two" :: nD [v, a, b])), .u, .u, .u, .u, .u, .u]) (g1 := []) (TM.of (T.asg (EvF.data (ev_cbF (ea_cons (ev_var rfl) ea_nil) rc_listT)) ⟨rfl, rfl⟩)) ?_
    refine TM.seqP (N := fun r x => ∃ ds : List D, (r = [.k (stepD [v, a, b]), .k (.lst P), .k (.int ((pr.length + 1 : Nat) : Int)), .k (.int c), .k (.int (n : Int)), .k (.int far), .k (.lst (.str "two" :: nD [v, a, b])), .k (.lst ds), .u, .u, .u, .u, .u] ∧ x = []) ∧ ds.length = 5 ∧ ∀ d ∈ ds, BadAt n mid d) (TM.of (T.asg (EvF.data (ev_lst (ea_cons (EvD.to (x := .tup [.str "two", .int (v : Int), .int (a : Int)]) (ev_slLast (ds := (.str "two" :: nD [v, a, b])) (ev_var rfl) (ev_neg ev_int) (by simp)) rfl) (ea_cons (EvD.to (x := .tup [.str "two", .int (v : Int), .int (a : Int), .int (b : Int), .int 0]) (ev_op (ev_var rfl) (ev_tup (ea_cons ev_int ea_nil) (Nat.le_of_ble_eq_true rfl)) (rv_plusT (by simp [nD]) (Nat.le_of_ble_eq_true rfl))) rfl) (ea_cons (EvD.to (x := .tup [.str "Two", .int (v : Int), .int (a : Int), .int (b : Int)]) (ev_op (ev_tup (ea_cons ev_str ea_nil) (Nat.le_of_ble_eq_true rfl)) (ev_slFrom (a := 1) (ds := (.str "two" :: nD [v, a, b])) (ev_var rfl) ev_int (by decide) (by simp)) (rv_plusT (by simp [nD]) (Nat.le_of_ble_eq_true rfl))) rfl) (ea_cons (EvF.data (ev_cbF (ea_cons (ev_var rfl) ea_nil) rc_listT)) (ea_cons (EvD.to (x := stepD [l0, a, b]) (ev_op (ev_tup (ea_cons (ev_op (ev_var rfl) ev_int (rv_ixT (atI_int (show (0 : Int) ≤ 0 by decide) rfl))) (ea_cons (ev_op (ev_op (ev_var rfl) (ev_op (ev_var rfl) ev_int rv_sub) (rv_ixL lix)) ev_int (rv_ixT (atI_int (show (0 : Int) ≤ 1 by decide) rfl))) ea_nil)) (Nat.le_of_ble_eq_true rfl)) (ev_slFrom (a := 2) (ds := (.str "two" :: nD [v, a, b])) (ev_var rfl) ev_int (by decide) (by simp)) (rv_plusT (by simp [nD]) (Nat.le_of_ble_eq_true rfl))) rfl) ea_nil))))) (Nat.le_of_ble_eq_true rfl))) ⟨_, ⟨rfl, rfl⟩, rfl, (fb_cons (.inl (.badLen (x := "two") (o := some 4) (ds := [.int (v : Int), .int (a : Int)]) (by simp) (by simp) (by simp))) (fb_cons (.inl (.badLen (x := "two") (o := some 4) (ds := [.int (v : Int), .int (a : Int), .int (b : Int), .int 0]) (by simp) (by simp) (by simp))) (fb_cons (.inl (.badLen (x := "Two") (o := none) (ds := [.int (v : Int), .int (a : Int), .int (b : Int)]) (by simp) (by simp) (by simp))) (fb_cons (.inl (.noTup (.inr (.inr rfl)))) (fb_cons (bad_nat (js := [l0, a, b]) (by simp) (by simp) fun _ => (by unfold mayB; simp [jl0])) fb_nil)))))⟩)) ?_
    rintro r x ⟨ds, ⟨rfl, rfl⟩, hds, hb⟩
    refine TM.seqP (N := fun r x => ∃ ds : List D, (r = [.k (stepD [v, a, b]), .k (.lst P), .k (.int ((pr.length + 1 : Nat) : Int)), .k (.int c), .k (.int (n : Int)), .k (.int far), .k (.lst (.str "two" :: nD [v, a, b])), .k (.lst ds), .u, .u, .u, .u, .u] ∧ x = []) ∧ ds.length = 8 ∧ ∀ d ∈ ds, BadAt n mid d) (TM.of (T.asg (EvF.data (ev_opF (x := .lst ds) (ev_var rfl) (EvF.data (ev_lst (ea_cons (EvD.to (x := stepD [v, v, b]) (ev_op (ev_op (ev_slTo (b := 2) (ds := (.str "two" :: nD [v, a, b])) (ev_var rfl) ev_int (Nat.le_of_ble_eq_true rfl)) (ev_tup (ea_cons (ev_op (ev_var rfl) ev_int (rv_ixT (atI_int (show (0 : Int) ≤ 1 by decide) rfl))) ea_nil) (Nat.le_of_ble_eq_true rfl)) (rv_plusT (by simp [nD]) (Nat.le_of_ble_eq_true rfl))) (ev_slFrom (a := 3) (ds := (.str "two" :: nD [v, a, b])) (ev_var rfl) ev_int (by decide) (by simp)) (rv_plusT (by simp [nD]) (Nat.le_of_ble_eq_true rfl))) rfl) (ea_cons (EvD.to (x := stepD [v, b, b]) (ev_op (ev_op (ev_slTo (b := 2) (ds := (.str "two" :: nD [v, a, b])) (ev_var rfl) ev_int (Nat.le_of_ble_eq_true rfl)) (ev_tup (ea_cons (ev_op (ev_var rfl) ev_int (rv_ixT (atI_int (show (0 : Int) ≤ 3 by decide) rfl))) ea_nil) (Nat.le_of_ble_eq_true rfl)) (rv_plusT (by simp [nD]) (Nat.le_of_ble_eq_true rfl))) (ev_slFrom (a := 3) (ds := (.str "two" :: nD [v, a, b])) (ev_var rfl) ev_int (by decide) (by simp)) (rv_plusT (by simp [nD]) (Nat.le_of_ble_eq_true rfl))) rfl) (ea_cons (EvD.to (x := .tup [.str "two", .int (v : Int), .int (a : Int), .int far]) (ev_op (ev_slLast (ds := (.str "two" :: nD [v, a, b])) (ev_var rfl) (ev_neg ev_int) (by simp)) (ev_tup (ea_cons (ev_var rfl) ea_nil) (Nat.le_of_ble_eq_true rfl)) (rv_plusT (by simp [nD]) (Nat.le_of_ble_eq_true rfl))) rfl) ea_nil))) (Nat.le_of_ble_eq_true rfl))) (rvF_plus (by rw [hds]; exact Nat.le_of_ble_eq_true rfl)))) ⟨_, ⟨rfl, rfl⟩, by rw [List.length_append, hds]; rfl, fun x hx => (List.mem_append.mp hx).elim (hb x) ((fb_cons (bad_dup (js := [v, v, b]) (by simp) (by simp) (by simp)) (fb_cons (bad_dup (js := [v, b, b]) (by simp) (by simp) (by simp)) (fb_cons (bad_jt (x := "two") (ds := [.int (v : Int), .int (a : Int), .int far]) (by simp) (by simp) (.cons (.int (v : Int)) (.cons (.int (a : Int)) (.cons (.int far) .nil))) (by simp [fj])) fb_nil))) x)⟩)) ?_
    rintro r x ⟨ds, ⟨rfl, rfl⟩, hds, hb⟩
    refine TM.seqP (N := fun r x => ∃ ds : List D, (r = [.k (stepD [v, a, b]), .k (.lst P), .k (.int ((pr.length + 1 : Nat) : Int)), .k (.int c), .k (.int (n : Int)), .k (.int far), .k (.lst (.str "two" :: nD [v, a, b])), .k (.lst ds), .u, .u, .u, .u, .u] ∧ x = []) ∧ ds.length = 11 ∧ ∀ d ∈ ds, BadAt n mid d) (TM.of (T.asg (EvF.data (ev_opF (x := .lst ds) (ev_var rfl) (EvF.data (ev_lst (ea_cons (EvD.to (x := .tup [.str "two", .int (v : Int), .int (a : Int), .int (-1)]) (ev_op (ev_slLast (ds := (.str "two" :: nD [v, a, b])) (ev_var rfl) (ev_neg ev_int) (by simp)) (ev_tup (ea_cons (ev_neg ev_int) ea_nil) (Nat.le_of_ble_eq_true rfl)) (rv_plusT (by simp [nD]) (Nat.le_of_ble_eq_true rfl))) rfl) (ea_cons (EvD.to (x := .tup [.str "two", .int (v : Int), .int (a : Int), .bl true]) (ev_op (ev_slLast (ds := (.str "two" :: nD [v, a, b])) (ev_var rfl) (ev_neg ev_int) (by simp)) (ev_tup (ea_cons ev_bl ea_nil) (Nat.le_of_ble_eq_true rfl)) (rv_plusT (by simp [nD]) (Nat.le_of_ble_eq_true rfl))) rfl) (ea_cons (EvD.to (x := .tup [.str "two", .int (v : Int), .int (a : Int), .str "0"]) (ev_op (ev_slLast (ds := (.str "two" :: nD [v, a, b])) (ev_var rfl) (ev_neg ev_int) (by simp)) (ev_tup (ea_cons ev_str ea_nil) (Nat.le_of_ble_eq_true rfl)) (rv_plusT (by simp [nD]) (Nat.le_of_ble_eq_true rfl))) rfl) ea_nil))) (Nat.le_of_ble_eq_true rfl))) (rvF_plus (by rw [hds]; exact Nat.le_of_ble_eq_true rfl)))) ⟨_, ⟨rfl, rfl⟩, by rw [List.length_append, hds]; rfl, fun x hx => (List.mem_append.mp hx).elim (hb x) ((fb_cons (bad_jt (x := "two") (ds := [.int (v : Int), .int (a : Int), .int (-1)]) (by simp) (by simp) (.cons (.int (v : Int)) (.cons (.int (a : Int)) (.cons (.int (-1)) .nil))) (by simp [fj])) (fb_cons (bad_jt (x := "two") (ds := [.int (v : Int), .int (a : Int), .bl true]) (by simp) (by simp) (.cons (.int (v : Int)) (.cons (.int (a : Int)) (.cons (.no (.inr (.inl rfl))) .nil))) (by simp [fj])) (fb_cons (bad_jt (x := "two") (ds := [.int (v : Int), .int (a : Int), .str "0"]) (by simp) (by simp) (.cons (.int (v : Int)) (.cons (.int (a : Int)) (.cons (.no (.inr (.inr (.inl rfl)))) .nil))) (by simp [fj])) fb_nil))) x)⟩)) ?_
    rintro r x ⟨ds, ⟨rfl, rfl⟩, hds, hb⟩
    refine TM.seqP (N := fun r x => ∃ ds : List D, (r = [.k (stepD [v, a, b]), .k (.lst P), .k (.int ((pr.length + 1 : Nat) : Int)), .k (.int c), .k (.int (n : Int)), .k (.int far), .k (.lst (.str "two" :: nD [v, a, b])), .k (.lst ds), .u, .u, .u, .u, .u] ∧ x = []) ∧ ds.length = 14 ∧ ∀ d ∈ ds, BadAt n mid d) (TM.of (T.asg (EvF.data (ev_opF (x := .lst ds) (ev_var rfl) (EvF.data (ev_lst (ea_cons (EvD.to (x := .tup [.str "two", .int (v : Int), .int (a : Int), .non]) (ev_op (ev_slLast (ds := (.str "two" :: nD [v, a, b])) (ev_var rfl) (ev_neg ev_int) (by simp)) (ev_tup (ea_cons ev_non ea_nil) (Nat.le_of_ble_eq_true rfl)) (rv_plusT (by simp [nD]) (Nat.le_of_ble_eq_true rfl))) rfl) (ea_cons ev_non (ea_cons ev_int ea_nil))) (Nat.le_of_ble_eq_true rfl))) (rvF_plus (by rw [hds]; exact Nat.le_of_ble_eq_true rfl)))) ⟨_, ⟨rfl, rfl⟩, by rw [List.length_append, hds]; rfl, fun x hx => (List.mem_append.mp hx).elim (hb x) ((fb_cons (bad_jt (x := "two") (ds := [.int (v : Int), .int (a : Int), .non]) (by simp) (by simp) (.cons (.int (v : Int)) (.cons (.int (a : Int)) (.cons (.no (.inl rfl)) .nil))) (by simp [fj])) (fb_cons (.inl (.noTup (.inl rfl))) (fb_cons (.inl (.noTup (.inr (.inl rfl)))) fb_nil))) x)⟩)) ?_
    rintro r x ⟨ds, ⟨rfl, rfl⟩, hds, hb⟩
    refine TM.seqP (N := fun r x => ∃ ds : List D, (r = [.k (stepD [v, a, b]), .k (.lst P), .k (.int ((pr.length + 1 : Nat) : Int)), .k (.int c), .k (.int (n : Int)), .k (.int far), .k (.lst (.str "two" :: nD [v, a, b])), .k (.lst ds), .u, .u, .u, .u, .u] ∧ x = []) ∧ ds.length = 18 ∧ ∀ d ∈ ds, BadAt n mid d) (TM.of (T.asg (EvF.data (ev_opF (x := .lst ds) (ev_var rfl) (EvF.data (ev_lst (ea_cons (EvD.to (x := stepD [v, a]) (ev_op (ev_tup (ea_cons ev_str ea_nil) (Nat.le_of_ble_eq_true rfl)) (ev_slMid (a := 1) (b := 3) (ds := (.str "two" :: nD [v, a, b])) (ev_var rfl) ev_int ev_int (by decide) (by decide) (Nat.le_of_ble_eq_true rfl) (by simp)) (rv_plusT (by simp [nD]) (Nat.le_of_ble_eq_true rfl))) rfl) (ea_cons (EvD.to (x := .tup [.str "two", .int far, .int (a : Int), .int (b : Int)]) (ev_op (ev_tup (ea_cons (ev_op (ev_var rfl) ev_int (rv_ixT (atI_int (show (0 : Int) ≤ 0 by decide) rfl))) (ea_cons (ev_var rfl) ea_nil)) (Nat.le_of_ble_eq_true rfl)) (ev_slFrom (a := 2) (ds := (.str "two" :: nD [v, a, b])) (ev_var rfl) ev_int (by decide) (by simp)) (rv_plusT (by simp [nD]) (Nat.le_of_ble_eq_true rfl))) rfl) (ea_cons (EvD.to (x := .tup [.str "two"]) (ev_slTo (b := 1) (ds := (.str "two" :: nD [v, a, b])) (ev_var rfl) ev_int (Nat.le_of_ble_eq_true rfl)) rfl) (ea_cons (EvD.to (x := .tup [.str "two", .lst [.int 0], .int (a : Int), .int (b : Int)]) (ev_op (ev_tup (ea_cons (ev_op (ev_var rfl) ev_int (rv_ixT (atI_int (show (0 : Int) ≤ 0 by decide) rfl))) (ea_cons (EvF.data (ev_lst (ea_cons ev_int ea_nil) (Nat.le_of_ble_eq_true rfl))) ea_nil)) (Nat.le_of_ble_eq_true rfl)) (ev_slFrom (a := 2) (ds := (.str "two" :: nD [v, a, b])) (ev_var rfl) ev_int (by decide) (by simp)) (rv_plusT (by simp [nD]) (Nat.le_of_ble_eq_true rfl))) rfl) ea_nil)))) (Nat.le_of_ble_eq_true rfl))) (rvF_plus (by rw [hds]; exact Nat.le_of_ble_eq_true rfl)))) ⟨_, ⟨rfl, rfl⟩, by rw [List.length_append, hds]; rfl, fun x hx => (List.mem_append.mp hx).elim (hb x) ((fb_cons (bad_nat (js := [v, a]) (by simp) (by simp) fun _ => (by unfold mayB; rw [← Bool.not_eq_true, List.isEmpty_iff]; exact hmid)) (fb_cons (bad_jt (x := "two") (ds := [.int far, .int (a : Int), .int (b : Int)]) (by simp) (by simp) (.cons (.int far) (.cons (.int (a : Int)) (.cons (.int (b : Int)) .nil))) (by simp [fj])) (fb_cons (.inl (.badLen (x := "two") (o := some 4) (ds := []) (by simp) (by simp) (by simp))) (fb_cons (bad_jt (x := "two") (ds := [.lst [.int 0], .int (a : Int), .int (b : Int)]) (by simp) (by simp) (.cons (.no (.inr (.inr (.inr (.inl rfl))))) (.cons (.int (a : Int)) (.cons (.int (b : Int)) .nil))) (by simp [fj])) fb_nil)))) x)⟩)) ?_
    rintro r x ⟨ds, ⟨rfl, rfl⟩, hds, hb⟩
    refine TM.seqP (N := fun r x => ∃ ds : List D, (r = [.k (stepD [v, a, b]), .k (.lst P), .k (.int ((pr.length + 1 : Nat) : Int)), .k (.int c), .k (.int (n : Int)), .k (.int far), .k (.lst (.str "two" :: nD [v, a, b])), .o ds, .u, .u, .u, .u, .u] ∧ x = []) ∧ ds.length = 20 ∧ ∀ d ∈ ds, BadAt n mid d) (TM.of (T.asgF (ev_opF (x := .lst ds) (ev_var rfl) (EvF.data (ev_lst (ea_cons (EvD.to (x := .tup (.lst [.str "two"] :: nD [v, a, b])) (ev_op (ev_tup (ea_cons (EvF.data (ev_lst (ea_cons (ev_op (ev_var rfl) ev_int (rv_ixT (atI_int (show (0 : Int) ≤ 0 by decide) rfl))) ea_nil) (Nat.le_of_ble_eq_true rfl))) ea_nil) (Nat.le_of_ble_eq_true rfl)) (ev_slFrom (a := 1) (ds := (.str "two" :: nD [v, a, b])) (ev_var rfl) ev_int (by decide) (by simp)) (rv_plusT (by simp [nD]) (Nat.le_of_ble_eq_true rfl))) rfl) (ea_cons (EvD.to (x := .tup (.dc [] [] :: nD [v, a, b])) (ev_op (ev_tup (ea_cons ev_dnew ea_nil) (Nat.le_of_ble_eq_true rfl)) (ev_slFrom (a := 1) (ds := (.str "two" :: nD [v, a, b])) (ev_var rfl) ev_int (by decide) (by simp)) (rv_plusT (by simp [nD]) (Nat.le_of_ble_eq_true rfl))) rfl) ea_nil)) (Nat.le_of_ble_eq_true rfl))) (rvF_plus (by rw [hds]; exact Nat.le_of_ble_eq_true rfl))) ⟨_, ⟨rfl, rfl⟩, by rw [List.length_append, hds]; rfl, fun x hx => (List.mem_append.mp hx).elim (hb x) ((fb_cons (.inl (.badWord (.inl rfl) (by simp [nD]))) (fb_cons (.inl (.badWord (.inr rfl) (by simp [nD]))) fb_nil)) x)⟩)) ?_
    rintro r x ⟨ds, ⟨rfl, rfl⟩, hds, hb⟩
    refine TM.seqP (N := fun r x => ∃ x0 y0 : Nat, (r = [.k (stepD [v, a, b]), .k (.lst P), .k (.int ((pr.length + 1 : Nat) : Int)), .k (.int c), .k (.int (n : Int)), .k (.int far), .k (.lst (.str "two" :: nD [v, a, b])), .o ds, .k (.tup [.int (x0 : Int), .int (y0 : Int)]), .u, .u, .u, .u] ∧ x = []) ∧ (x0 = y0 ∨ loB x0 y0 ∉ mid))
      (TM.asgQ (P := fun r g => ∃ x0 y0 : Nat, r = .d (.tup [.int (x0 : Int), .int (y0 : Int)]) ∧ g = [] ∧ (x0 = y0 ∨ loB x0 y0 ∉ mid) ∧ isJt mid x0 = true ∧ isJt mid y0 = true)
        (ev_callQ (xa_of (ea_cons (EvF.data (EvF.to (ev_slL (lo := none) (hi := some ((pr.length + 1 : Nat) : Int)) (ev_var rfl) eo_no (eo_some (ev_var rfl))) cutP)) (ea_cons (ev_op (ev_var rfl) ev_int (rv_div ⟨by decide, by decide⟩ (by decide))) ea_nil))) fun ds x hx => by
          obtain ⟨rfl, rfl⟩ := hx
          exact ⟨[], [], _, List.Perm.refl _, R_l_absent.mk n [a0, b0] pr mid _ h16 g hl, fun r gq hP => ⟨gq, [], hP, by rw [List.append_nil]; exact List.Perm.refl _⟩⟩)
        fun r g' hP => by
          obtain ⟨x0, y0, rfl, rfl, h1, _⟩ := hP
          exact ⟨_, _, rfl, eg_name, x0, y0, ⟨rfl, rfl⟩, h1⟩) ?_
    rintro r x ⟨x0, y0, ⟨rfl, rfl⟩, hxy⟩
    refine TM.seq (ρ1 := [.k (stepD [v, a, b]), .k (.lst P), .k (.int ((pr.length + 1 : Nat) : Int)), .k (.int c), .k (.int (n : Int)), .k (.int far), .k (.lst (.str "two" :: nD [v, a, b])), .o ds, .k (.tup [.int (x0 : Int), .int (y0 : Int)]), .k (.lst (nD ([a0, b0] ++ pr.map fun l : List Nat => l.headD 0))), .u, .u, .u]) (g1 := []) (TM.of (T.asg (EvF.data (EvF.to (ev_opF (x := .lst (nD [a0, b0])) (y := .lst (nD (pr.map fun l : List Nat => l.headD 0))) (EvF.data (ev_lst (ea_cons (ev_op (ev_op (ev_var rfl) ev_int (rv_ixL P0)) ev_int (rv_ixT (atI_int (show (0 : Int) ≤ 1 by decide) rfl))) (ea_cons (ev_op (ev_op (ev_var rfl) ev_int (rv_ixL P0)) ev_int (rv_ixT (atI_int (show (0 : Int) ≤ 2 by decide) rfl))) ea_nil)) (Nat.le_of_ble_eq_true rfl))) (EvF.data (EvF.to (evF_lcM (α := List Nat) (xs := pr) (gd := stepD) (ei_list (EvF.data (EvF.to (ev_slL (lo := some ((1 : Nat) : Int)) (hi := some ((pr.length + 1 : Nat) : Int)) (ev_var rfl) (eo_some ev_int) (eo_some (ev_var rfl))) cutM))) (fun l => [(11, stepD l)]) (fun _ => true) (fun l : List Nat => D.int ((l.headD 0 : Nat) : Int)) (fun l _ => eg_name) (fun l _ q hq => by rw [List.mem_singleton.mp hq]; simp) (fun l _ => et_yes) (fun l hl _ => by
      obtain ⟨h, t, rfl⟩ := prs l hl
      exact ev_op (ev_var rfl) ev_int (rv_ixT (atI_int (show (0 : Int) ≤ 1 by decide) rfl))) (by omega)) (by rw [List.filter_eq_self.mpr fun _ _ => rfl]; unfold nD; rw [List.map_map]; rfl))) (rvF_plus (by rw [nD_len, nD_len, List.length_map]; show 2 + pr.length ≤ _; omega))) (by unfold nD; rw [List.map_append]))) ⟨rfl, rfl⟩)) ?_
    have hhr : ([a0, b0] ++ pr.map fun l : List Nat => l.headD 0).length ≤ 20 := by
      rw [List.length_append, List.length_map]
      show 2 + pr.length ≤ 20
      omega
    generalize ([a0, b0] ++ pr.map fun l : List Nat => l.headD 0) = hr at hhr
    generalize hth : (hr.filter fun e : Nat => !decide ((e : Int) ∈ [(x0 : Int), (y0 : Int)])) = th
    have thl := List.length_filter_le (fun e : Nat => !decide ((e : Int) ∈ [(x0 : Int), (y0 : Int)])) hr
    rw [hth] at thl
    refine TM.seq (ρ1 := [.k (stepD [v, a, b]), .k (.lst P), .k (.int ((pr.length + 1 : Nat) : Int)), .k (.int c), .k (.int (n : Int)), .k (.int far), .k (.lst (.str "two" :: nD [v, a, b])), .o ds, .k (.tup [.int (x0 : Int), .int (y0 : Int)]), .k (.lst (nD hr)), .k (.lst (nD th)), .u, .u]) (g1 := []) (TM.of (T.asg (EvF.data (EvF.to (evF_lcM (α := Nat) (xs := hr) (gd := fun e : Nat => D.int (e : Int)) (ei_list (ev_var rfl)) (fun e => [(12, .int (e : Int))]) (fun e : Nat => !decide ((e : Int) ∈ [(x0 : Int), (y0 : Int)])) (fun e : Nat => D.int (e : Int)) (fun e _ => eg_name) (fun e _ q hq => by rw [List.mem_singleton.mp hq]; simp) (fun e _ => et_test (ev_op (y := .tup (([(x0 : Int), (y0 : Int)] : List Int).map D.int)) (ev_var rfl) (ev_var rfl) (rv_inT (neg := true)))) (fun e _ _ => ev_var rfl) (by omega)) (by rw [hth]; rfl))) ⟨rfl, rfl⟩)) ?_
    refine TM.seq (ρ1 := [.k (stepD [v, a, b]), .k (.lst P), .k (.int ((pr.length + 1 : Nat) : Int)), .k (.int c), .k (.int (n : Int)), .k (.int far), .k (.lst (.str "two" :: nD [v, a, b])), .o (ds ++ [.tup ([.str "three", .int (v : Int)] ++ [.int (x0 : Int), .int (y0 : Int)] ++ nD (th.take 1))]), .k (.tup [.int (x0 : Int), .int (y0 : Int)]), .k (.lst (nD hr)), .k (.lst (nD th)), .u, .u]) (g1 := []) (TM.of (T.append (i := 7) (ds := ds) rfl (ev_op (ev_op (ev_tup (ea_cons ev_str (ea_cons (ev_op (ev_var rfl) ev_int (rv_ixT (atI_int (show (0 : Int) ≤ 1 by decide) rfl))) ea_nil)) (Nat.le_of_ble_eq_true rfl)) (ev_var rfl) (rv_plusT (by simp) (Nat.le_of_ble_eq_true rfl))) (ev_cb (ea_cons (EvF.data (EvF.to (ev_slL (lo := none) (hi := some ((1 : Nat) : Int)) (ev_var rfl) eo_no (eo_some ev_int)) (by rw [cut_to]; exact (List.map_take ..).symm))) ea_nil) rc_tupL) (rv_plusT (by simp) (by rw [nD_len, List.length_take]; show 4 + _ ≤ _; omega))) (by rw [hds]; decide) ⟨rfl, rfl⟩)) ?_
    have hb2 : ∀ d ∈ ds ++ [.tup ([.str "three", .int (v : Int)] ++ [.int (x0 : Int), .int (y0 : Int)] ++ nD (th.take 1))], BadAt n mid d := fun d hd => by
      rcases List.mem_append.mp hd with hd | hd
      · exact hb d hd
      · rw [List.mem_singleton.mp hd]
        cases th with
        | nil => exact .inl (.badLen (x := "three") (o := some 5) (ds := [.int (v : Int), .int (x0 : Int), .int (y0 : Int)]) (by simp) (by simp) (by simp))
        | cons t th =>
          show BadAt n mid (stepD [v, x0, y0, t])
          refine bad_nat (by simp) (by simp) fun z => ?_
          have nd := (okStep_iff.mp z).2.2
          have ne : x0 ≠ y0 := fun e => by
            subst e
            simp at nd
          have h2 := hxy.resolve_left ne
          show ((!isJt mid v && (isJt mid x0 && (isJt mid y0 && isJt mid t))) && decide (loB x0 y0 ∈ mid)) = false
          rw [decide_eq_false h2, Bool.and_false]
    have hds2 : (ds ++ [D.tup ([.str "three", .int (v : Int)] ++ [.int (x0 : Int), .int (y0 : Int)] ++ nD (th.take 1))]).length = 21 := by rw [List.length_append, hds]; rfl
    generalize ds ++ [D.tup ([.str "three", .int (v : Int)] ++ [.int (x0 : Int), .int (y0 : Int)] ++ nD (th.take 1))] = es at hb2 hds2
    obtain ⟨d, hd, rd⟩ := rv_pickL (K := K) (ds := es) (c := c) (m := 21) (by rw [hds2]; rfl) (by decide)
    refine TM.freeze (i := 7) rfl ?_
    exact TM.retX (r := .d (.tup [d, .lst (.str "two" :: nD [v, a, b])])) (EvX.of (ev_tup (ea_cons (ev_op (ev_var rfl) (ev_op (ev_var rfl) ev_int (rv_mod (by decide) (by decide))) rd) (ea_cons (ev_var rfl) ea_nil)) (Nat.le_of_ble_eq_true rfl))) ⟨[], [], ⟨d, rfl, rfl, hb2 d hd⟩, List.Perm.refl _⟩
  · have fj : decide (far < (n : Int)) = false := decide_eq_false (by omega)
    refine TM.seq (ρ1 := [.k (stepD [v, a, b, e]), .k (.lst P), .k (.int ((pr.length + 1 : Nat) : Int)), .k (.int c), .k (.int (n : Int)), .k (.int far), .u, .u, .u, .u, .u, .u, .u]) (g1 := []) (TM.of (T.asg (EvD.to (ev_op (ev_var rfl) (ev_op (ev_op (ev_var rfl) ev_int (rv_div ⟨by decide, by decide⟩ (by decide))) (ev_op ev_int ev_int (rv_pow (by unfold CPow; decide))) (rv_mod (by decide) (by decide))) rv_plusI) (by rw [hfar])) ⟨rfl, rfl⟩)) ?_
    refine TM.seq (ρ1 := [.k (stepD [v, a, b, e]), .k (.lst P), .k (.int ((pr.length + 1 : Nat) : Int)), .k (.int c), .k (.int (n : Int)), .k (.int far), .k (.lst (.str "three" :: nD [v, a, b, e])), .u, .u, .u, .u, .u, .u]) (g1 := []) (TM.of (T.asg (EvF.data (ev_cbF (ea_cons (ev_var rfl) ea_nil) rc_listT)) ⟨rfl, rfl⟩)) ?_
    refine TM.seqP (N := fun r x => ∃ ds : List D, (r = [.k (stepD [v, a, b, e]), .k (.lst P), .k (.int ((pr.length + 1 : Nat) : Int)), .k (.int c), .k (.int (n : Int)), .k (.int far), .k (.lst (.str "three" :: nD [v, a, b, e])), .k (.lst ds), .u, .u, .u, .u, .u] ∧ x = []) ∧ ds.length = 5 ∧ ∀ d ∈ ds, BadAt n mid d) (TM.of (T.asg (EvF.data (ev_lst (ea_cons (EvD.to (x := .tup [.str "three", .int (v : Int), .int (a : Int), .int (b : Int)]) (ev_slLast (ds := (.str "three" :: nD [v, a, b, e])) (ev_var rfl) (ev_neg ev_int) (by simp)) rfl) (ea_cons (EvD.to (x := .tup [.str "three", .int (v : Int), .int (a : Int), .int (b : Int), .int (e : Int), .int 0]) (ev_op (ev_var rfl) (ev_tup (ea_cons ev_int ea_nil) (Nat.le_of_ble_eq_true rfl)) (rv_plusT (by simp [nD]) (Nat.le_of_ble_eq_true rfl))) rfl) (ea_cons (EvD.to (x := .tup [.str "Two", .int (v : Int), .int (a : Int), .int (b : Int), .int (e : Int)]) (ev_op (ev_tup (ea_cons ev_str ea_nil) (Nat.le_of_ble_eq_true rfl)) (ev_slFrom (a := 1) (ds := (.str "three" :: nD [v, a, b, e])) (ev_var rfl) ev_int (by decide) (by simp)) (rv_plusT (by simp [nD]) (Nat.le_of_ble_eq_true rfl))) rfl) (ea_cons (EvF.data (ev_cbF (ea_cons (ev_var rfl) ea_nil) rc_listT)) (ea_cons (EvD.to (x := stepD [l0, a, b, e]) (ev_op (ev_tup (ea_cons (ev_op (ev_var rfl) ev_int (rv_ixT (atI_int (show (0 : Int) ≤ 0 by decide) rfl))) (ea_cons (ev_op (ev_op (ev_var rfl) (ev_op (ev_var rfl) ev_int rv_sub) (rv_ixL lix)) ev_int (rv_ixT (atI_int (show (0 : Int) ≤ 1 by decide) rfl))) ea_nil)) (Nat.le_of_ble_eq_true rfl)) (ev_slFrom (a := 2) (ds := (.str "three" :: nD [v, a, b, e])) (ev_var rfl) ev_int (by decide) (by simp)) (rv_plusT (by simp [nD]) (Nat.le_of_ble_eq_true rfl))) rfl) ea_nil))))) (Nat.le_of_ble_eq_true rfl))) ⟨_, ⟨rfl, rfl⟩, rfl, (fb_cons (.inl (.badLen (x := "three") (o := some 5) (ds := [.int (v : Int), .int (a : Int), .int (b : Int)]) (by simp) (by simp) (by simp))) (fb_cons (.inl (.badLen (x := "three") (o := some 5) (ds := [.int (v : Int), .int (a : Int), .int (b : Int), .int (e : Int), .int 0]) (by simp) (by simp) (by simp))) (fb_cons (.inl (.badLen (x := "Two") (o := none) (ds := [.int (v : Int), .int (a : Int), .int (b : Int), .int (e : Int)]) (by simp) (by simp) (by simp))) (fb_cons (.inl (.noTup (.inr (.inr rfl)))) (fb_cons (bad_nat (js := [l0, a, b, e]) (by simp) (by simp) fun _ => (by unfold mayB; simp [jl0])) fb_nil)))))⟩)) ?_
    rintro r x ⟨ds, ⟨rfl, rfl⟩, hds, hb⟩
    refine TM.seqP (N := fun r x => ∃ ds : List D, (r = [.k (stepD [v, a, b, e]), .k (.lst P), .k (.int ((pr.length + 1 : Nat) : Int)), .k (.int c), .k (.int (n : Int)), .k (.int far), .k (.lst (.str "three" :: nD [v, a, b, e])), .k (.lst ds), .u, .u, .u, .u, .u] ∧ x = []) ∧ ds.length = 8 ∧ ∀ d ∈ ds, BadAt n mid d) (TM.of (T.asg (EvF.data (ev_opF (x := .lst ds) (ev_var rfl) (EvF.data (ev_lst (ea_cons (EvD.to (x := stepD [v, v, b, e]) (ev_op (ev_op (ev_slTo (b := 2) (ds := (.str "three" :: nD [v, a, b, e])) (ev_var rfl) ev_int (Nat.le_of_ble_eq_true rfl)) (ev_tup (ea_cons (ev_op (ev_var rfl) ev_int (rv_ixT (atI_int (show (0 : Int) ≤ 1 by decide) rfl))) ea_nil) (Nat.le_of_ble_eq_true rfl)) (rv_plusT (by simp [nD]) (Nat.le_of_ble_eq_true rfl))) (ev_slFrom (a := 3) (ds := (.str "three" :: nD [v, a, b, e])) (ev_var rfl) ev_int (by decide) (by simp)) (rv_plusT (by simp [nD]) (Nat.le_of_ble_eq_true rfl))) rfl) (ea_cons (EvD.to (x := stepD [v, b, b, e]) (ev_op (ev_op (ev_slTo (b := 2) (ds := (.str "three" :: nD [v, a, b, e])) (ev_var rfl) ev_int (Nat.le_of_ble_eq_true rfl)) (ev_tup (ea_cons (ev_op (ev_var rfl) ev_int (rv_ixT (atI_int (show (0 : Int) ≤ 3 by decide) rfl))) ea_nil) (Nat.le_of_ble_eq_true rfl)) (rv_plusT (by simp [nD]) (Nat.le_of_ble_eq_true rfl))) (ev_slFrom (a := 3) (ds := (.str "three" :: nD [v, a, b, e])) (ev_var rfl) ev_int (by decide) (by simp)) (rv_plusT (by simp [nD]) (Nat.le_of_ble_eq_true rfl))) rfl) (ea_cons (EvD.to (x := .tup [.str "three", .int (v : Int), .int (a : Int), .int (b : Int), .int far]) (ev_op (ev_slLast (ds := (.str "three" :: nD [v, a, b, e])) (ev_var rfl) (ev_neg ev_int) (by simp)) (ev_tup (ea_cons (ev_var rfl) ea_nil) (Nat.le_of_ble_eq_true rfl)) (rv_plusT (by simp [nD]) (Nat.le_of_ble_eq_true rfl))) rfl) ea_nil))) (Nat.le_of_ble_eq_true rfl))) (rvF_plus (by rw [hds]; exact Nat.le_of_ble_eq_true rfl)))) ⟨_, ⟨rfl, rfl⟩, by rw [List.length_append, hds]; rfl, fun x hx => (List.mem_append.mp hx).elim (hb x) ((fb_cons (bad_dup (js := [v, v, b, e]) (by simp) (by simp) (by simp)) (fb_cons (bad_dup (js := [v, b, b, e]) (by simp) (by simp) (by simp)) (fb_cons (bad_jt (x := "three") (ds := [.int (v : Int), .int (a : Int), .int (b : Int), .int far]) (by simp) (by simp) (.cons (.int (v : Int)) (.cons (.int (a : Int)) (.cons (.int (b : Int)) (.cons (.int far) .nil)))) (by simp [fj])) fb_nil))) x)⟩)) ?_
    rintro r x ⟨ds, ⟨rfl, rfl⟩, hds, hb⟩
    refine TM.seqP (N := fun r x => ∃ ds : List D, (r = [.k (stepD [v, a, b, e]), .k (.lst P), .k (.int ((pr.length + 1 : Nat) : Int)), .k (.int c), .k (.int (n : Int)), .k (.int far), .k (.lst (.str "three" :: nD [v, a, b, e])), .k (.lst ds), .u, .u, .u, .u, .u] ∧ x = []) ∧ ds.length = 11 ∧ ∀ d ∈ ds, BadAt n mid d) (TM.of (T.asg (EvF.data (ev_opF (x := .lst ds) (ev_var rfl) (EvF.data (ev_lst (ea_cons (EvD.to (x := .tup [.str "three", .int (v : Int), .int (a : Int), .int (b : Int), .int (-1)]) (ev_op (ev_slLast (ds := (.str "three" :: nD [v, a, b, e])) (ev_var rfl) (ev_neg ev_int) (by simp)) (ev_tup (ea_cons (ev_neg ev_int) ea_nil) (Nat.le_of_ble_eq_true rfl)) (rv_plusT (by simp [nD]) (Nat.le_of_ble_eq_true rfl))) rfl) (ea_cons (EvD.to (x := .tup [.str "three", .int (v : Int), .int (a : Int), .int (b : Int), .bl true]) (ev_op (ev_slLast (ds := (.str "three" :: nD [v, a, b, e])) (ev_var rfl) (ev_neg ev_int) (by simp)) (ev_tup (ea_cons ev_bl ea_nil) (Nat.le_of_ble_eq_true rfl)) (rv_plusT (by simp [nD]) (Nat.le_of_ble_eq_true rfl))) rfl) (ea_cons (EvD.to (x := .tup [.str "three", .int (v : Int), .int (a : Int), .int (b : Int), .str "0"]) (ev_op (ev_slLast (ds := (.str "three" :: nD [v, a, b, e])) (ev_var rfl) (ev_neg ev_int) (by simp)) (ev_tup (ea_cons ev_str ea_nil) (Nat.le_of_ble_eq_true rfl)) (rv_plusT (by simp [nD]) (Nat.le_of_ble_eq_true rfl))) rfl) ea_nil))) (Nat.le_of_ble_eq_true rfl))) (rvF_plus (by rw [hds]; exact Nat.le_of_ble_eq_true rfl)))) ⟨_, ⟨rfl, rfl⟩, by rw [List.length_append, hds]; rfl, fun x hx => (List.mem_append.mp hx).elim (hb x) ((fb_cons (bad_jt (x := "three") (ds := [.int (v : Int), .int (a : Int), .int (b : Int), .int (-1)]) (by simp) (by simp) (.cons (.int (v : Int)) (.cons (.int (a : Int)) (.cons (.int (b : Int)) (.cons (.int (-1)) .nil)))) (by simp [fj])) (fb_cons (bad_jt (x := "three") (ds := [.int (v : Int), .int (a : Int), .int (b : Int), .bl true]) (by simp) (by simp) (.cons (.int (v : Int)) (.cons (.int (a : Int)) (.cons (.int (b : Int)) (.cons (.no (.inr (.inl rfl))) .nil)))) (by simp [fj])) (fb_cons (bad_jt (x := "three") (ds := [.int (v : Int), .int (a : Int), .int (b : Int), .str "0"]) (by simp) (by simp) (.cons (.int (v : Int)) (.cons (.int (a : Int)) (.cons (.int (b : Int)) (.cons (.no (.inr (.inr (.inl rfl)))) .nil)))) (by simp [fj])) fb_nil))) x)⟩)) ?_
    rintro r x ⟨ds, ⟨rfl, rfl⟩, hds, hb⟩
    refine TM.seqP (N := fun r x => ∃ ds : List D, (r = [.k (stepD [v, a, b, e]), .k (.lst P), .k (.int ((pr.length + 1 : Nat) : Int)), .k (.int c), .k (.int (n : Int)), .k (.int far), .k (.lst (.str "three" :: nD [v, a, b, e])), .k (.lst ds), .u, .u, .u, .u, .u] ∧ x = []) ∧ ds.length = 14 ∧ ∀ d ∈ ds, BadAt n mid d) (TM.of (T.asg (EvF.data (ev_opF (x := .lst ds) (ev_var rfl) (EvF.data (ev_lst (ea_cons (EvD.to (x := .tup [.str "three", .int (v : Int), .int (a : Int), .int (b : Int), .non]) (ev_op (ev_slLast (ds := (.str "three" :: nD [v, a, b, e])) (ev_var rfl) (ev_neg ev_int) (by simp)) (ev_tup (ea_cons ev_non ea_nil) (Nat.le_of_ble_eq_true rfl)) (rv_plusT (by simp [nD]) (Nat.le_of_ble_eq_true rfl))) rfl) (ea_cons ev_non (ea_cons ev_int ea_nil))) (Nat.le_of_ble_eq_true rfl))) (rvF_plus (by rw [hds]; exact Nat.le_of_ble_eq_true rfl)))) ⟨_, ⟨rfl, rfl⟩, by rw [List.length_append, hds]; rfl, fun x hx => (List.mem_append.mp hx).elim (hb x) ((fb_cons (bad_jt (x := "three") (ds := [.int (v : Int), .int (a : Int), .int (b : Int), .non]) (by simp) (by simp) (.cons (.int (v : Int)) (.cons (.int (a : Int)) (.cons (.int (b : Int)) (.cons (.no (.inl rfl)) .nil)))) (by simp [fj])) (fb_cons (.inl (.noTup (.inl rfl))) (fb_cons (.inl (.noTup (.inr (.inl rfl)))) fb_nil))) x)⟩)) ?_
    rintro r x ⟨ds, ⟨rfl, rfl⟩, hds, hb⟩
    refine TM.seqP (N := fun r x => ∃ ds : List D, (r = [.k (stepD [v, a, b, e]), .k (.lst P), .k (.int ((pr.length + 1 : Nat) : Int)), .k (.int c), .k (.int (n : Int)), .k (.int far), .k (.lst (.str "three" :: nD [v, a, b, e])), .k (.lst ds), .u, .u, .u, .u, .u] ∧ x = []) ∧ ds.length = 18 ∧ ∀ d ∈ ds, BadAt n mid d) (TM.of (T.asg (EvF.data (ev_opF (x := .lst ds) (ev_var rfl) (EvF.data (ev_lst (ea_cons (EvD.to (x := stepD [v, a]) (ev_op (ev_tup (ea_cons ev_str ea_nil) (Nat.le_of_ble_eq_true rfl)) (ev_slMid (a := 1) (b := 3) (ds := (.str "three" :: nD [v, a, b, e])) (ev_var rfl) ev_int ev_int (by decide) (by decide) (Nat.le_of_ble_eq_true rfl) (by simp)) (rv_plusT (by simp [nD]) (Nat.le_of_ble_eq_true rfl))) rfl) (ea_cons (EvD.to (x := .tup [.str "three", .int far, .int (a : Int), .int (b : Int), .int (e : Int)]) (ev_op (ev_tup (ea_cons (ev_op (ev_var rfl) ev_int (rv_ixT (atI_int (show (0 : Int) ≤ 0 by decide) rfl))) (ea_cons (ev_var rfl) ea_nil)) (Nat.le_of_ble_eq_true rfl)) (ev_slFrom (a := 2) (ds := (.str "three" :: nD [v, a, b, e])) (ev_var rfl) ev_int (by decide) (by simp)) (rv_plusT (by simp [nD]) (Nat.le_of_ble_eq_true rfl))) rfl) (ea_cons (EvD.to (x := .tup [.str "three"]) (ev_slTo (b := 1) (ds := (.str "three" :: nD [v, a, b, e])) (ev_var rfl) ev_int (Nat.le_of_ble_eq_true rfl)) rfl) (ea_cons (EvD.to (x := .tup [.str "three", .lst [.int 0], .int (a : Int), .int (b : Int), .int (e : Int)]) (ev_op (ev_tup (ea_cons (ev_op (ev_var rfl) ev_int (rv_ixT (atI_int (show (0 : Int) ≤ 0 by decide) rfl))) (ea_cons (EvF.data (ev_lst (ea_cons ev_int ea_nil) (Nat.le_of_ble_eq_true rfl))) ea_nil)) (Nat.le_of_ble_eq_true rfl)) (ev_slFrom (a := 2) (ds := (.str "three" :: nD [v, a, b, e])) (ev_var rfl) ev_int (by decide) (by simp)) (rv_plusT (by simp [nD]) (Nat.le_of_ble_eq_true rfl))) rfl) ea_nil)))) (Nat.le_of_ble_eq_true rfl))) (rvF_plus (by rw [hds]; exact Nat.le_of_ble_eq_true rfl)))) ⟨_, ⟨rfl, rfl⟩, by rw [List.length_append, hds]; rfl, fun x hx => (List.mem_append.mp hx).elim (hb x) ((fb_cons (bad_nat (js := [v, a]) (by simp) (by simp) fun _ => (by unfold mayB; rw [← Bool.not_eq_true, List.isEmpty_iff]; exact hmid)) (fb_cons (bad_jt (x := "three") (ds := [.int far, .int (a : Int), .int (b : Int), .int (e : Int)]) (by simp) (by simp) (.cons (.int far) (.cons (.int (a : Int)) (.cons (.int (b : Int)) (.cons (.int (e : Int)) .nil)))) (by simp [fj])) (fb_cons (.inl (.badLen (x := "three") (o := some 5) (ds := []) (by simp) (by simp) (by simp))) (fb_cons (bad_jt (x := "three") (ds := [.lst [.int 0], .int (a : Int), .int (b : Int), .int (e : Int)]) (by simp) (by simp) (.cons (.no (.inr (.inr (.inr (.inl rfl))))) (.cons (.int (a : Int)) (.cons (.int (b : Int)) (.cons (.int (e : Int)) .nil)))) (by simp [fj])) fb_nil)))) x)⟩)) ?_
    rintro r x ⟨ds, ⟨rfl, rfl⟩, hds, hb⟩
    refine TM.seqP (N := fun r x => ∃ ds : List D, (r = [.k (stepD [v, a, b, e]), .k (.lst P), .k (.int ((pr.length + 1 : Nat) : Int)), .k (.int c), .k (.int (n : Int)), .k (.int far), .k (.lst (.str "three" :: nD [v, a, b, e])), .o ds, .u, .u, .u, .u, .u] ∧ x = []) ∧ ds.length = 20 ∧ ∀ d ∈ ds, BadAt n mid d) (TM.of (T.asgF (ev_opF (x := .lst ds) (ev_var rfl) (EvF.data (ev_lst (ea_cons (EvD.to (x := .tup (.lst [.str "three"] :: nD [v, a, b, e])) (ev_op (ev_tup (ea_cons (EvF.data (ev_lst (ea_cons (ev_op (ev_var rfl) ev_int (rv_ixT (atI_int (show (0 : Int) ≤ 0 by decide) rfl))) ea_nil) (Nat.le_of_ble_eq_true rfl))) ea_nil) (Nat.le_of_ble_eq_true rfl)) (ev_slFrom (a := 1) (ds := (.str "three" :: nD [v, a, b, e])) (ev_var rfl) ev_int (by decide) (by simp)) (rv_plusT (by simp [nD]) (Nat.le_of_ble_eq_true rfl))) rfl) (ea_cons (EvD.to (x := .tup (.dc [] [] :: nD [v, a, b, e])) (ev_op (ev_tup (ea_cons ev_dnew ea_nil) (Nat.le_of_ble_eq_true rfl)) (ev_slFrom (a := 1) (ds := (.str "three" :: nD [v, a, b, e])) (ev_var rfl) ev_int (by decide) (by simp)) (rv_plusT (by simp [nD]) (Nat.le_of_ble_eq_true rfl))) rfl) ea_nil)) (Nat.le_of_ble_eq_true rfl))) (rvF_plus (by rw [hds]; exact Nat.le_of_ble_eq_true rfl))) ⟨_, ⟨rfl, rfl⟩, by rw [List.length_append, hds]; rfl, fun x hx => (List.mem_append.mp hx).elim (hb x) ((fb_cons (.inl (.badWord (.inl rfl) (by simp [nD]))) (fb_cons (.inl (.badWord (.inr rfl) (by simp [nD]))) fb_nil)) x)⟩)) ?_
    rintro r x ⟨ds, ⟨rfl, rfl⟩, hds, hb⟩
    refine TM.seqP (N := fun r x => ∃ x0 y0 : Nat, (r = [.k (stepD [v, a, b, e]), .k (.lst P), .k (.int ((pr.length + 1 : Nat) : Int)), .k (.int c), .k (.int (n : Int)), .k (.int far), .k (.lst (.str "three" :: nD [v, a, b, e])), .o ds, .k (.tup [.int (x0 : Int), .int (y0 : Int)]), .u, .u, .u, .u] ∧ x = []) ∧ (x0 = y0 ∨ loB x0 y0 ∉ mid))
      (TM.asgQ (P := fun r g => ∃ x0 y0 : Nat, r = .d (.tup [.int (x0 : Int), .int (y0 : Int)]) ∧ g = [] ∧ (x0 = y0 ∨ loB x0 y0 ∉ mid) ∧ isJt mid x0 = true ∧ isJt mid y0 = true)
        (ev_callQ (xa_of (ea_cons (EvF.data (EvF.to (ev_slL (lo := none) (hi := some ((pr.length + 1 : Nat) : Int)) (ev_var rfl) eo_no (eo_some (ev_var rfl))) cutP)) (ea_cons (ev_op (ev_var rfl) ev_int (rv_div ⟨by decide, by decide⟩ (by decide))) ea_nil))) fun ds x hx => by
          obtain ⟨rfl, rfl⟩ := hx
          exact ⟨[], [], _, List.Perm.refl _, R_l_absent.mk n [a0, b0] pr mid _ h16 g hl, fun r gq hP => ⟨gq, [], hP, by rw [List.append_nil]; exact List.Perm.refl _⟩⟩)
        fun r g' hP => by
          obtain ⟨x0, y0, rfl, rfl, h1, _⟩ := hP
          exact ⟨_, _, rfl, eg_name, x0, y0, ⟨rfl, rfl⟩, h1⟩) ?_
    rintro r x ⟨x0, y0, ⟨rfl, rfl⟩, hxy⟩
    refine TM.seq (ρ1 := [.k (stepD [v, a, b, e]), .k (.lst P), .k (.int ((pr.length + 1 : Nat) : Int)), .k (.int c), .k (.int (n : Int)), .k (.int far), .k (.lst (.str "three" :: nD [v, a, b, e])), .o ds, .k (.tup [.int (x0 : Int), .int (y0 : Int)]), .k (.lst (nD ([a0, b0] ++ pr.map fun l : List Nat => l.headD 0))), .u, .u, .u]) (g1 := []) (TM.of (T.asg (EvF.data (EvF.to (ev_opF (x := .lst (nD [a0, b0])) (y := .lst (nD (pr.map fun l : List Nat => l.headD 0))) (EvF.data (ev_lst (ea_cons (ev_op (ev_op (ev_var rfl) ev_int (rv_ixL P0)) ev_int (rv_ixT (atI_int (show (0 : Int) ≤ 1 by decide) rfl))) (ea_cons (ev_op (ev_op (ev_var rfl) ev_int (rv_ixL P0)) ev_int (rv_ixT (atI_int (show (0 : Int) ≤ 2 by decide) rfl))) ea_nil)) (Nat.le_of_ble_eq_true rfl))) (EvF.data (EvF.to (evF_lcM (α := List Nat) (xs := pr) (gd := stepD) (ei_list (EvF.data (EvF.to (ev_slL (lo := some ((1 : Nat) : Int)) (hi := some ((pr.length + 1 : Nat) : Int)) (ev_var rfl) (eo_some ev_int) (eo_some (ev_var rfl))) cutM))) (fun l => [(11, stepD l)]) (fun _ => true) (fun l : List Nat => D.int ((l.headD 0 : Nat) : Int)) (fun l _ => eg_name) (fun l _ q hq => by rw [List.mem_singleton.mp hq]; simp) (fun l _ => et_yes) (fun l hl _ => by
      obtain ⟨h, t, rfl⟩ := prs l hl
      exact ev_op (ev_var rfl) ev_int (rv_ixT (atI_int (show (0 : Int) ≤ 1 by decide) rfl))) (by omega)) (by rw [List.filter_eq_self.mpr fun _ _ => rfl]; unfold nD; rw [List.map_map]; rfl))) (rvF_plus (by rw [nD_len, nD_len, List.length_map]; show 2 + pr.length ≤ _; omega))) (by unfold nD; rw [List.map_append]))) ⟨rfl, rfl⟩)) ?_
    have hhr : ([a0, b0] ++ pr.map fun l : List Nat => l.headD 0).length ≤ 20 := by
      rw [List.length_append, List.length_map]
      show 2 + pr.length ≤ 20
      omega
    generalize ([a0, b0] ++ pr.map fun l : List Nat => l.headD 0) = hr at hhr
    generalize hth : (hr.filter fun e : Nat => !decide ((e : Int) ∈ [(x0 : Int), (y0 : Int)])) = th
    have thl := List.length_filter_le (fun e : Nat => !decide ((e : Int) ∈ [(x0 : Int), (y0 : Int)])) hr
    rw [hth] at thl
    refine TM.seq (ρ1 := [.k (stepD [v, a, b, e]), .k (.lst P), .k (.int ((pr.length + 1 : Nat) : Int)), .k (.int c), .k (.int (n : Int)), .k (.int far), .k (.lst (.str "three" :: nD [v, a, b, e])), .o ds, .k (.tup [.int (x0 : Int), .int (y0 : Int)]), .k (.lst (nD hr)), .k (.lst (nD th)), .u, .u]) (g1 := []) (TM.of (T.asg (EvF.data (EvF.to (evF_lcM (α := Nat) (xs := hr) (gd := fun e : Nat => D.int (e : Int)) (ei_list (ev_var rfl)) (fun e => [(12, .int (e : Int))]) (fun e : Nat => !decide ((e : Int) ∈ [(x0 : Int), (y0 : Int)])) (fun e : Nat => D.int (e : Int)) (fun e _ => eg_name) (fun e _ q hq => by rw [List.mem_singleton.mp hq]; simp) (fun e _ => et_test (ev_op (y := .tup (([(x0 : Int), (y0 : Int)] : List Int).map D.int)) (ev_var rfl) (ev_var rfl) (rv_inT (neg := true)))) (fun e _ _ => ev_var rfl) (by omega)) (by rw [hth]; rfl))) ⟨rfl, rfl⟩)) ?_
    refine TM.seq (ρ1 := [.k (stepD [v, a, b, e]), .k (.lst P), .k (.int ((pr.length + 1 : Nat) : Int)), .k (.int c), .k (.int (n : Int)), .k (.int far), .k (.lst (.str "three" :: nD [v, a, b, e])), .o (ds ++ [.tup ([.str "three", .int (v : Int)] ++ [.int (x0 : Int), .int (y0 : Int)] ++ nD (th.take 1))]), .k (.tup [.int (x0 : Int), .int (y0 : Int)]), .k (.lst (nD hr)), .k (.lst (nD th)), .u, .u]) (g1 := []) (TM.of (T.append (i := 7) (ds := ds) rfl (ev_op (ev_op (ev_tup (ea_cons ev_str (ea_cons (ev_op (ev_var rfl) ev_int (rv_ixT (atI_int (show (0 : Int) ≤ 1 by decide) rfl))) ea_nil)) (Nat.le_of_ble_eq_true rfl)) (ev_var rfl) (rv_plusT (by simp) (Nat.le_of_ble_eq_true rfl))) (ev_cb (ea_cons (EvF.data (EvF.to (ev_slL (lo := none) (hi := some ((1 : Nat) : Int)) (ev_var rfl) eo_no (eo_some ev_int)) (by rw [cut_to]; exact (List.map_take ..).symm))) ea_nil) rc_tupL) (rv_plusT (by simp) (by rw [nD_len, List.length_take]; show 4 + _ ≤ _; omega))) (by rw [hds]; decide) ⟨rfl, rfl⟩)) ?_
    have hb2 : ∀ d ∈ ds ++ [.tup ([.str "three", .int (v : Int)] ++ [.int (x0 : Int), .int (y0 : Int)] ++ nD (th.take 1))], BadAt n mid d := fun d hd => by
      rcases List.mem_append.mp hd with hd | hd
      · exact hb d hd
      · rw [List.mem_singleton.mp hd]
        cases th with
        | nil => exact .inl (.badLen (x := "three") (o := some 5) (ds := [.int (v : Int), .int (x0 : Int), .int (y0 : Int)]) (by simp) (by simp) (by simp))
        | cons t th =>
          show BadAt n mid (stepD [v, x0, y0, t])
          refine bad_nat (by simp) (by simp) fun z => ?_
          have nd := (okStep_iff.mp z).2.2
          have ne : x0 ≠ y0 := fun e => by
            subst e
            simp at nd
          have h2 := hxy.resolve_left ne
          show ((!isJt mid v && (isJt mid x0 && (isJt mid y0 && isJt mid t))) && decide (loB x0 y0 ∈ mid)) = false
          rw [decide_eq_false h2, Bool.and_false]
    have hds2 : (ds ++ [D.tup ([.str "three", .int (v : Int)] ++ [.int (x0 : Int), .int (y0 : Int)] ++ nD (th.take 1))]).length = 21 := by rw [List.length_append, hds]; rfl
    generalize ds ++ [D.tup ([.str "three", .int (v : Int)] ++ [.int (x0 : Int), .int (y0 : Int)] ++ nD (th.take 1))] = es at hb2 hds2
    obtain ⟨d, hd, rd⟩ := rv_pickL (K := K) (ds := es) (c := c) (m := 21) (by rw [hds2]; rfl) (by decide)
    refine TM.freeze (i := 7) rfl ?_
    exact TM.retX (r := .d (.tup [d, .lst (.str "three" :: nD [v, a, b, e])])) (EvX.of (ev_tup (ea_cons (ev_op (ev_var rfl) (ev_op (ev_var rfl) ev_int (rv_mod (by decide) (by decide))) rd) (ea_cons (ev_var rfl) ea_nil)) (Nat.le_of_ble_eq_true rfl))) ⟨[], [], ⟨d, rfl, rfl, hb2 d hd⟩, List.Perm.refl _⟩
end
/-! ### l_refused -/
abbrev s_l_refused : Stmt := top 32
theorem sc_l_refused : FnScope ["_law_count", "_law_plan", "_law_error"] ["_law_count", "_law_plan"] (defScope s_l_refused) := ⟨rfl, rfl, rfl, by decide +kernel, rfl, by decide +kernel, by decide +kernel⟩
inductive R_l_refused : List D → D → Prop
  | mk (a b : D) (h : Rx_built [a, b]) : R_l_refused [a, b] (.bl true)

section
variable {P : Program} {w : World} {K : PySem.W.Frag} {mg : Str → Option Value} {base : Heap}
theorem ok_l_refused {f : Addr} {fd : FuncData} (F : FnP K "_law_refused" s_l_refused f fd) (g : mg "_law_refused" = some (.ref f)) (M : Mods K mg w) (X_built : Cal P w K mg base (L2N.CX P w) 4 "built" ["count", "steps"] (spX K (He.ga K "BadStep") Rx_built)) (E_l_kind : ∀ base, Ex0.CalE P w K mg base 1 "_law_kind" ["_law_error"] (spF K (R_l_kind K))) : Cal P w K mg base CX0 5 "_law_refused" ["_law_count", "_law_plan"] (spD K R_l_refused) := by
  refine ⟨f, fd, F.ok sc_l_refused (spD_len fun ds d r => by cases r <;> rfl) (fun cdv A outer s H vs Q E hr h => ?_), g, F.kp, F.bindsN fun _ _ _ _ _ _ us hl => match us, hl with | [_, _], _ => rfl⟩
  have hu := hr.units
  obtain ⟨fX, fdX, FX, gX, kX, bX⟩ := X_built
  refine ⟨_, PSs.nox (pss_cons (L2N.ps_try_as (i := 2) (tb := fun W => tDrop (tCallS (spX K (He.ga K "BadStep") Rx_built) (WE W) (tCons (tVar 0) (tCons (tVar 1) tNil))))
      (ts := fun a cls d => tRet (tOp (rEqD K) (Ex0.tAsk (spF K (R_l_kind K)) a (He.ga K "BadStep") cls d (tCons (tVar 2) tNil)) (tLst (tCons (tC (.str "step")) tNil)))) (Wout := fun _ _ _ _ => False) rfl rfl sc_l_refused.nd rfl rfl ⟨rfl, by decide, .inl M.g_FrameError⟩ takes0N
      (fun W pn xe tk _ => pss_one (ps_expr (pe_callS FX (hr.mono (by decide)) rfl gX kX bX (fun σ => L2N.passAt tk σ) (pa_cons (pv 0) (pa_cons (pv 1) pa_nil)))))
      (fun a oe cls d pn hz hf => pss_one (ps_ret (pe_cmpR (ok_eq (K := K) rfl hu) (Ex0.pe_ask E_l_kind hz hf M.q_BadStep.no hr (by decide) (pa_cons (pv 2) pa_nil)) (pe_lst (pa_cons pe_str pa_nil)) (nomark _)))))
      (pss_one (ps_ret pe_bl))), ?_⟩
  refine T.fin (K := K) h fun ds d rel => ?_
  cases rel with | mk a b hx =>
  intro S0 H0 S H σ Dd st acc
  have ha : EvA K (tCons (tVar 0) (tCons (tVar 1) tNil)) [.k a, .k b, .u] [a, b] := (ea_cons (ev_var rfl) (ea_cons (ev_var rfl) ea_nil))
  unfold tSeq tDrop tCallS
  refine ha S H σ st.ext.sub st.env _ fun vs S1 H1 x1 r1 => ⟨S1, [a, b], x1.sub, r1, hx, fun S2 H2 x2 => ⟨true, M.n_BadStep, fun _ e na => ?_, fun z => by cases z⟩⟩
  have x3 := (st.ext.trans x1).trans x2
  refine ask_one (S0 := S0) (H0 := H0) (S := S2) rfl rfl (R_l_kind.mk "BadStep" M.q_BadStep) (by decide +kernel) x3 ?_ na fun H' x => ?_
  · rw [List.getElem?_set_self]
    rw [st.env.len]
    exact Nat.le_of_ble_eq_true rfl
  · exact acc.rt (.bl true) (.bl true) S2 H' rfl x (.bl true)
end
/-! ### law -/
abbrev s_law : Stmt := top 33
theorem sc_law : FnScope ["_law_script", "_law_count", "_law_plan", "_law_cell", "_law_at", "_law_more", "_law_spoilt_here", "_law_same", "_law_handed", "_law_odd", "_law_kind_here", "_law_found", "_law_due", "_law_bar"] ["_law_script"] (defScope s_law) := ⟨rfl, rfl, rfl, by decide +kernel, rfl, by decide +kernel, by decide +kernel⟩
inductive R_law : List D → D → Prop
  | mk (ns : List Int) (h : ns.length ≤ 63) : R_law [.ro ns] (.bl true)
/-- the steps with something else in one's place -/
theorem rfs_at {n : Nat} {plan : List (List Nat)} {a : Nat} {mid : List Fr.Bar} {d : D} {ds : List D} (g : Goes n [] (plan.take a) mid) (hb : BadAt n mid d) : Rfs n ((plan.take a).map stepD ++ [d] ++ ds) := by
  rw [List.append_assoc]
  exact .fails (.after g (.here hb))

section
variable {P : Program} {w : World} {K : PySem.W.Frag} {mg : Str → Option Value} {base : Heap}
theorem ok_law {f : Addr} {fd : FuncData} (F : FnP K "law" s_law f fd) (g : mg "law" = some (.ref f)) (M : Mods K mg w) (C_l_planned : Cal P w K mg base CX0 2 "_law_planned" ["_law_cell", "_law_count"] (spQ K R_l_planned)) (C_l_mixed : Cal P w K mg base CX0 1 "_law_mixed" ["_law_cell", "_law_k"] (spD K R_l_mixed)) (C_built : Cal P w K mg base CX0 4 "built" ["count", "steps"] (spF K R_built)) (C_l_walked : Cal P w K mg base CX0 2 "_law_walked" ["_law_told", "_law_count"] (spF K R_l_walked)) (C_l_cell_at : Cal P w K mg base CX0 1 "_law_cell_at" ["_law_script", "_law_k"] (spD K R_l_cell_at)) (C_l_spoilt : Cal P w K mg base CX0 2 "_law_spoilt" ["_law_made", "_law_plan", "_law_at", "_law_cell", "_law_count"] (spQ K R_l_spoilt)) (C_l_refused : Cal P w K mg base CX0 5 "_law_refused" ["_law_count", "_law_plan"] (spD K R_l_refused)) (C_l_whole : Cal P w K mg base CX0 1 "_law_whole" ["_law_found"] (spD K R_l_whole)) : FnOk P w K mg base CX0 6 f fd ["_law_script"] (spD K R_law) := by
  refine F.ok sc_law (spD_len fun ds d r => by cases r <;> rfl) (fun cdv A outer s H vs Q E hr h => ?_)
  have hu := hr.units
  refine ⟨_, PSs.nox (pss_cons (ps_set (i := 1) sc_law.nd rfl (Or.inl rfl) (pe_op (ok_plus (K := K) rfl) pe_int (pe_op op_modN (pe_cal C_l_cell_at hr (by decide) pass0 (pa_cons (pv 0) (pa_cons pe_int pa_nil))) pe_int)))
      (pss_cons (ps_if (pt_cmpR (ok_eq (K := K) rfl hu) (pv 1) pe_int (nomark _)) (pss_one (ps_ret (pe_and (pe_cmpR (ok_eq (K := K) rfl hu) (pe_cal C_built hr (by decide) pass0 (pa_cons pe_int (pa_cons (pe_lst pa_nil) pa_nil))) (pe_lst pa_nil) (nomark _)) (pe_and (pe_cal C_l_refused hr (by decide) pass0 (pa_cons pe_int (pa_cons (pe_lst (pa_cons (pe_tup (pa_cons pe_str (pa_cons pe_int (pa_cons pe_int pa_nil)))) pa_nil)) pa_nil))) (pe_one (pe_cal C_l_refused hr (by decide) pass0 (pa_cons pe_int (pa_cons pe_non pa_nil)))))))) pss_nil)
      (pss_cons (ps_set (i := 2) sc_law.nd rfl (Or.inl rfl) (pe_cal C_l_planned hr (by decide) pass0 (pa_cons (pe_cal C_l_cell_at hr (by decide) pass0 (pa_cons (pv 0) (pa_cons pe_int pa_nil))) (pa_cons (pv 1) pa_nil))))
      (pss_cons (ps_set (i := 3) sc_law.nd rfl (Or.inl rfl) (pe_cal C_l_mixed hr (by decide) pass0 (pa_cons (pe_cal C_l_cell_at hr (by decide) pass0 (pa_cons (pv 0) (pa_cons pe_int pa_nil))) (pa_cons (pe_op op_modN (pe_cal C_l_cell_at hr (by decide) pass0 (pa_cons (pv 0) (pa_cons pe_int pa_nil))) pe_int) pa_nil))))
      (pss_cons (ps_set (i := 4) sc_law.nd rfl (Or.inl rfl) (pe_ix (ok_ix (K := K) rfl) (pe_lst (pa_cons (pe_op op_modN (pe_op op_fdivN (pv 3) pe_int) (pe_callB (ok_len (K := K) rfl) (by rfl) M.m_len (by decide +kernel) (pa_cons (pv 2) pa_nil))) (pa_cons (pe_op op_sub (pe_callB (ok_len (K := K) rfl) (by rfl) M.m_len (by decide +kernel) (pa_cons (pv 2) pa_nil)) pe_int) pa_nil))) (pe_op op_modN (pe_op op_fdivN (pv 3) pe_int) pe_int) (fun _ _ => rfl)))
      (pss_cons (ps_set (i := 5) sc_law.nd rfl (Or.inl rfl) (pe_op op_fdivN (pv 3) pe_int))
      (pss_cons (ps_if (PW.pt (pw_and (pt_chain op_lt op_lt pe_int (pe_op op_modN (pv 3) pe_int) pe_int) (pw_and1 (pt_cmpR op_gt (pv 4) pe_int (nomark _))))) (pss_cons (ps_asg (pe_cal C_l_spoilt hr (by decide) pass0 (pa_cons (pe_ix (ok_ix (K := K) rfl) (pv 2) (pv 4) (fun _ _ => rfl)) (pa_cons (pv 2) (pa_cons (pv 4) (pa_cons (pv 5) (pa_cons (pv 1) pa_nil)))))) (ok_tup (K := K) rfl rfl (pgs_cons (pg_name (i := 6) sc_law.nd rfl (Or.inl rfl)) (pgs_cons (pg_name (i := 7) sc_law.nd rfl (Or.inl rfl)) pgs_nil))))
      (pss_cons (ps_set (i := 8) sc_law.nd rfl (Or.inl rfl) (pe_op (ok_plus (K := K) rfl) (pe_op (ok_plus (K := K) rfl) (pe_slice (ok_sl (K := K) rfl) (pv 2) po_none (po_some (pv 4))) (pe_lst (pa_cons (pv 6) pa_nil))) (pe_slice (ok_sl (K := K) rfl) (pv 2) (po_some (pe_op (ok_plus (K := K) rfl) (pv 4) pe_int)) po_none)))
      (pss_one (ps_ret (pe_and (pe_cal C_l_refused hr (by decide) pass0 (pa_cons (pv 1) (pa_cons (pv 8) pa_nil))) (pe_one (pe_cmpR (ok_eq (K := K) rfl hu) (pe_callTy (ok_list (K := K) rfl) (by rfl) M.m_list (by decide +kernel) (pa_cons (pe_ix (ok_ix (K := K) rfl) (pv 2) (pv 4) (fun _ _ => rfl)) pa_nil)) (pv 7) (nomark _)))))))) pss_nil)
      (pss_cons (ps_if (pt_cmpR (ok_eq (K := K) rfl hu) (pe_op op_modN (pv 3) pe_int) pe_int (nomark _)) (pss_cons (ps_set (i := 9) sc_law.nd rfl (Or.inl rfl) (pe_lst (pa_cons (pe_op (ok_plus (K := K) rfl) (pe_slice (ok_sl (K := K) rfl) (pv 2) po_none (po_some (pv 4))) (pe_slice (ok_sl (K := K) rfl) (pv 2) (po_some (pe_op (ok_plus (K := K) rfl) (pv 4) pe_int)) po_none)) (pa_cons (pe_op (ok_plus (K := K) rfl) (pe_op (ok_plus (K := K) rfl) (pe_slice (ok_sl (K := K) rfl) (pv 2) po_none (po_some (pv 4))) (pe_lst (pa_cons (pe_ix (ok_ix (K := K) rfl) (pv 2) (pv 4) (fun _ _ => rfl)) pa_nil))) (pe_slice (ok_sl (K := K) rfl) (pv 2) (po_some (pv 4)) po_none)) (pa_cons (pe_callTy (ok_tupOf (K := K) rfl) (by rfl) M.m_tuple (by decide +kernel) (pa_cons (pv 2) pa_nil)) pa_nil)))))
      (pss_cons (ps_set (i := 9) sc_law.nd rfl (Or.inl rfl) (pe_op (ok_plus (K := K) rfl) (pv 9) (pe_lst (pa_cons pe_non (pa_cons pe_str (pa_cons (ok_revL (K := K) rfl (pv 2)) pa_nil))))))
      (pss_cons (ps_expr (pe_bm PySem.F.plainAttrs_list PySem.F.slot_list_append PySem.F.type_list_append mt_append (pv 9) (pa_cons (pe_op (ok_plus (K := K) rfl) (pe_lst (pa_cons (pe_tup (pa_cons pe_str (pa_cons (pe_ix (ok_ix (K := K) rfl) (pe_ix (ok_ix (K := K) rfl) (pv 2) pe_int (fun _ _ => rfl)) pe_int (fun _ _ => rfl)) (pa_cons (pe_ix (ok_ix (K := K) rfl) (pe_ix (ok_ix (K := K) rfl) (pv 2) pe_int (fun _ _ => rfl)) pe_int (fun _ _ => rfl)) pa_nil)))) pa_nil)) (pe_slice (ok_sl (K := K) rfl) (pv 2) (po_some pe_int) po_none)) pa_nil)))
      (pss_cons (ps_expr (pe_bm PySem.F.plainAttrs_list PySem.F.slot_list_append PySem.F.type_list_append mt_append (pv 9) (pa_cons (pe_op (ok_plus (K := K) rfl) (pe_lst (pa_cons (pe_tup (pa_cons pe_str (pa_cons (pe_ix (ok_ix (K := K) rfl) (pe_ix (ok_ix (K := K) rfl) (pv 2) pe_int (fun _ _ => rfl)) pe_int (fun _ _ => rfl)) (pa_cons (pe_ix (ok_ix (K := K) rfl) (pe_ix (ok_ix (K := K) rfl) (pv 2) pe_int (fun _ _ => rfl)) pe_int (fun _ _ => rfl)) pa_nil)))) pa_nil)) (pe_slice (ok_sl (K := K) rfl) (pv 2) (po_some pe_int) po_none)) pa_nil)))
      (pss_cons (ps_set (i := 10) sc_law.nd rfl (Or.inl rfl) (pe_op op_modN (pv 5) pe_int))
      (pss_cons (ps_if (PW.pt (pw_and (pt_cmpR (ok_eq (K := K) rfl hu) (pv 10) pe_int (nomark _)) (pw_and1 (pt_cmpR (ok_eq (K := K) rfl hu) (pe_callB (ok_len (K := K) rfl) (by rfl) M.m_len (by decide +kernel) (pa_cons (pv 2) pa_nil)) pe_int (nomark _))))) (pss_one (ps_set (i := 10) sc_law.nd rfl (Or.inl rfl) pe_int)) pss_nil)
      (pss_one (ps_ret (pe_cal C_l_refused hr (by decide) pass0 (pa_cons (pv 1) (pa_cons (pe_ix (ok_ix (K := K) rfl) (pv 9) (pv 10) (fun _ _ => rfl)) pa_nil))))))))))) pss_nil)
      (pss_cons (ps_set (i := 8) sc_law.nd rfl (Or.inl rfl) (pe_callTy (ok_list (K := K) rfl) (by rfl) M.m_list (by decide +kernel) (pa_cons (pv 2) pa_nil)))
      (pss_cons (ps_set (i := 11) sc_law.nd rfl (Or.inl rfl) (pe_cal C_built hr (by decide) pass0 (pa_cons (pv 1) (pa_cons (pv 8) pa_nil))))
      (pss_cons (ps_set (i := 12) sc_law.nd rfl (Or.inl rfl) (pe_cal C_l_walked hr (by decide) pass0 (pa_cons (pv 2) (pa_cons (pv 1) pa_nil))))
      (pss_cons (ps_if (PW.pt (pw_or (pt_cmpR (ok_ne (K := K) rfl hu) (pv 8) (pv 2) (nomark _)) (pw_or (pt_not (pt_val (pe_callB (ok_isi (K := K) rfl) (by rfl) M.m_isinstance (by decide +kernel) (pa_cons (pv 11) (pa_cons (pe_bltn (v := .ty "list") (by rfl) M.m_list (by decide +kernel) rfl) pa_nil))))) (pw_or1 (pt_cmpR (ok_ne (K := K) rfl hu) (pv 11) (pv 12) (nomark _)))))) (pss_one (ps_ret pe_bl)) pss_nil)
      (pss_cons (ps_for PassesOwn.never rfl (ok_ilist (K := K) rfl (pv 11)) (pg_name (i := 13) sc_law.nd rfl (Or.inl rfl)) (pss_one (ps_if (PW.pt (pw_or (pt_not (pt_val (pe_callB (ok_isi (K := K) rfl) (by rfl) M.m_isinstance (by decide +kernel) (pa_cons (pv 13) (pa_cons (pe_bltn (v := .ty "tuple") (by rfl) M.m_tuple (by decide +kernel) rfl) pa_nil))))) (pw_or (pt_not (pt_val (pe_cal C_l_whole hr (by decide) pass0 (pa_cons (pe_ix (ok_ix (K := K) rfl) (pv 13) pe_int (fun _ _ => rfl)) pa_nil)))) (pw_or1 (pt_not (pt_val (pe_cal C_l_whole hr (by decide) pass0 (pa_cons (pe_ix (ok_ix (K := K) rfl) (pv 13) pe_int (fun _ _ => rfl)) pa_nil)))))))) (pss_one (ps_ret pe_bl)) pss_nil)))
      (pss_cons (ps_expr (pe_bm PySem.F.plainAttrs_list PySem.F.slot_list_append PySem.F.type_list_append mt_append (pv 11) (pa_cons (pe_tup (pa_cons pe_int (pa_cons pe_int pa_nil))) pa_nil)))
      (pss_one (ps_ret (pe_cmpR (ok_eq (K := K) rfl hu) (pe_cal C_built hr (by decide) pass0 (pa_cons (pv 1) (pa_cons (pv 8) pa_nil))) (pv 12) (nomark _)))))))))))))))))), ?_⟩
  refine TM.finD (K := K) h fun ds d rel => ?_
  cases rel with | mk ns hns =>
  obtain ⟨e16, l16⟩ := md_eq (cell ns 0) (show 0 < 16 by decide)
  generalize md (cell ns 0) 16 = t at e16 l16
  generalize hn : 1 + t = n
  have n1 : 1 ≤ n := by omega
  have n16 : n ≤ 16 := by omega
  refine TM.seq (ρ1 := [.k (.ro ns), .k (.int (n : Int)), .u, .u, .u, .u, .u, .u, .u, .u, .u, .u, .u, .u]) (g1 := []) (TM.of (T.asg (EvD.to (ev_op ev_int (ev_op (ev_call (d := .int (cell ns 0)) (ea_cons (ev_var rfl) (ea_cons ev_int ea_nil)) (.mk ns 0 (by decide))) ev_int (rv_mod (by decide) (by decide))) rv_plusI) (by show D.int _ = D.int _; congr 1; omega)) ⟨rfl, rfl⟩)) ?_
  refine TM.guard (b := decide ((n : Int) = 1)) (g' := []) (EvXT.of (et_test (ev_op (ev_var rfl) ev_int rv_eqI))) (fun hb => ?_) fun hb => ?_
  · refine TM.ret (d := .bl (decide (sortB [] = []) && (true && true))) (ev_and (ev_op (x := .lst ((sortB []).map barD)) (y := .lst (([] : List (Int × Int)).map barD)) (EvF.data (ev_callF (ea_cons ev_int (ea_cons (EvF.data (ev_lst ea_nil (Nat.zero_le _))) ea_nil)) (R_built.mk 1 [] [] (Nat.le_refl _) (by decide) .nil (by decide) (.inl (Nat.le_refl _))))) (EvF.data (ev_lst ea_nil (Nat.zero_le _))) rv_eqBars) fun _ => ev_and (ev_call (ea_cons ev_int (ea_cons (EvF.data (ev_lst (ea_cons (ev_tup (ea_cons ev_str (ea_cons ev_int (ea_cons ev_int ea_nil))) (Nat.le_of_ble_eq_true rfl)) ea_nil) (Nat.le_of_ble_eq_true rfl))) ea_nil)) (.mk _ _ (.rfs 1 [stepD [0, 0]] (Nat.le_refl _) (by decide) (.fails (.here (bad_dup (by decide) (by decide) (by decide)))) (by decide)))) fun _ => ev_call (ea_cons ev_int (ea_cons ev_non ea_nil)) (.mk _ _ (.noList 1 .non (Nat.le_refl _) (by decide) (.inl rfl)))) ?_
    have : sortB [] = [] := List.eq_nil_of_length_eq_zero (by rw [(sortB_perm []).length_eq]; rfl)
    rw [this]
    rfl
  have n2 : 2 ≤ n := by
    have : ¬ (n : Int) = 1 := of_decide_eq_false hb
    omega
  refine TM.seqP (N := fun r x => ∃ (plan : List (List Nat)) (rows : List Fr.Bar), (r = [.k (.ro ns), .k (.int (n : Int)), .k (.lst (plan.map stepD)), .u, .u, .u, .u, .u, .u, .u, .u, .u, .u, .u] ∧ x = []) ∧ Goes n [] plan rows ∧ plan.length + 1 = n ∧ (jtsL n rows).length = n)
    (TM.asgQ (P := fun r g => ∃ (plan : List (List Nat)) (rows : List Fr.Bar), r = .d (.lst (plan.map stepD)) ∧ g = [] ∧ Goes n [] plan rows ∧ plan.length + 1 = n ∧ (jtsL n rows).length = n)
      (EvQ.tell (ev_callQ (xa_of (ea_cons (ev_call (d := .int (cell ns 1)) (ea_cons (ev_var rfl) (ea_cons ev_int ea_nil)) (.mk ns 1 (by decide))) (ea_cons (ev_var rfl) ea_nil))) fun ds x hx => by
        obtain ⟨rfl, rfl⟩ := hx
        exact ⟨[], [], _, List.Perm.refl _, .mk (cell ns 1) n n2 n16, fun r gq hP => ⟨gq, [], hP, by rw [List.append_nil]; exact List.Perm.refl _⟩⟩) fun r g hP => by
          obtain ⟨plan, rows, rfl, rfl, hr⟩ := hP
          exact ⟨plan.map stepD, rfl, plan, rows, rfl, rfl, hr⟩)
      fun r g' hP => by
        obtain ⟨plan, rows, rfl, rfl, hr⟩ := hP
        exact ⟨_, _, rfl, eg_name, plan, rows, ⟨rfl, rfl⟩, hr⟩) ?_
  rintro r x ⟨plan, rows, ⟨rfl, rfl⟩, g, pl, hj⟩
  have lp : (plan.map stepD).length = plan.length := List.length_map _
  have p0 : 0 < plan.length := by omega
  refine TM.seq (ρ1 := [.k (.ro ns), .k (.int (n : Int)), .k (.lst (plan.map stepD)), .k (.int (mixed (cell ns 2) (cell ns 3 % 97))), .u, .u, .u, .u, .u, .u, .u, .u, .u, .u]) (g1 := []) (TM.of (T.asg (ev_call (ea_cons (ev_call (d := .int (cell ns 2)) (ea_cons (ev_var rfl) (ea_cons ev_int ea_nil)) (.mk ns 2 (by decide))) (ea_cons (ev_op (ev_call (d := .int (cell ns 3)) (ea_cons (ev_var rfl) (ea_cons ev_int ea_nil)) (.mk ns 3 (by decide))) ev_int (rv_mod (by decide) (by decide))) ea_nil)) (.mk _ _)) ⟨rfl, rfl⟩)) ?_
  generalize mixed (cell ns 2) (cell ns 3 % 97) = c
  have a1 := Int.emod_nonneg (c / 4) (show (plan.length : Int) ≠ 0 by omega)
  have a2 := Int.emod_lt_of_pos (c / 4) (show (0 : Int) < (plan.length : Int) by omega)
  obtain ⟨da, hda, ra⟩ := rv_pickL (K := K) (ds := [.int (c / 4 % (plan.length : Int)), .int ((plan.length : Int) - 1)]) (c := c / 64) (m := 2) rfl (by decide)
  obtain ⟨a, ha, rfl⟩ : ∃ a : Nat, a < plan.length ∧ da = .int (a : Int) := by
    simp only [List.mem_cons, List.not_mem_nil, or_false] at hda
    rcases hda with rfl | rfl
    · exact ⟨(c / 4 % (plan.length : Int)).toNat, by omega, by congr 1; omega⟩
    · exact ⟨plan.length - 1, by omega, by congr 1; omega⟩
  refine TM.seq (ρ1 := [.k (.ro ns), .k (.int (n : Int)), .k (.lst (plan.map stepD)), .k (.int c), .k (.int (a : Int)), .u, .u, .u, .u, .u, .u, .u, .u, .u]) (g1 := []) (TM.of (T.asg (ev_op (EvF.data (ev_lst (ea_cons (EvD.to (ev_op (ev_op (ev_var rfl) ev_int (rv_div (j := 4) ⟨by decide, by decide⟩ (by decide))) (ev_cb (ea_cons (ev_var rfl) ea_nil) rc_lenL) (rv_mod (by rw [lp]; omega) (by omega))) (by rw [lp])) (ea_cons (EvD.to (ev_op (ev_cb (ea_cons (ev_var rfl) ea_nil) rc_lenL) ev_int rv_sub) (by rw [lp])) ea_nil)) (Nat.le_of_ble_eq_true rfl))) (ev_op (ev_op (ev_var rfl) ev_int (rv_div (j := 64) ⟨by decide, by decide⟩ (by decide))) ev_int (rv_mod (by decide) (by decide))) ra) ⟨rfl, rfl⟩)) ?_
  refine TM.seq (ρ1 := [.k (.ro ns), .k (.int (n : Int)), .k (.lst (plan.map stepD)), .k (.int c), .k (.int (a : Int)), .k (.int (c / 128)), .u, .u, .u, .u, .u, .u, .u, .u]) (g1 := []) (TM.of (T.asg (ev_op (ev_var rfl) ev_int (rv_div (j := 128) ⟨by decide, by decide⟩ (by decide))) ⟨rfl, rfl⟩)) ?_
  -- the plan, taken apart
  obtain ⟨js, hjs⟩ : ∃ js, plan[a]? = some js := ⟨plan[a], List.getElem?_eq_getElem ha⟩
  have ed : plan.drop a = js :: plan.drop (a + 1) := by
    obtain ⟨hi, e⟩ := List.getElem?_eq_some_iff.mp hjs
    rw [List.drop_eq_getElem_cons hi, e]
  have ep : plan = plan.take a ++ js :: plan.drop (a + 1) := by rw [← ed, List.take_append_drop]
  have pat : atI (plan.map stepD) (a : Int) = some (stepD js) := atI_nat (by rw [List.getElem?_map, hjs]; rfl)
  have g0 := g
  rw [ep] at g0
  obtain ⟨mid, g1, g2⟩ := Goes.split g0
  have g2' := g2
  cases g2' with
  | cons b1 b2 b3 =>
    have steps := g.steps
    refine TM.guard (b := (decide (0 < c % 4) && decide (c % 4 < 3)) && decide ((0 : Int) < (a : Int))) (g' := []) (EvXT.of (et_and (et_test (ev_chain ev_int (ev_op (ev_var rfl) ev_int (rv_mod (by decide) (by decide))) rv_lt fun _ => ⟨.int 3, ev_int, rv_lt⟩)) fun _ => et_test (ev_op (ev_var rfl) ev_int rv_gt))) (fun hb => ?_) fun _ => ?_
    · rw [Bool.and_eq_true, decide_eq_true_eq (p := (0 : Int) < (a : Int))] at hb
      obtain ⟨q, pr, hq⟩ : ∃ q pr, plan.take a = q :: pr := by
        cases h : plan.take a with
        | nil =>
          have := congrArg List.length h
          rw [List.length_take, List.length_nil] at this
          omega
        | cons q pr => exact ⟨q, pr, rfl⟩
      have hpl : pr.length + 1 = a := by
        have := congrArg List.length hq
        rw [List.length_take, List.length_cons] at this
        omega
      have SP := R_l_spoilt.mk n q js pr (plan.drop (a + 1)) mid (c / 128) n16 (hq ▸ g1) b1 b2 (by omega)
      rw [hpl, ← hq, ← ep] at SP
      refine TM.seqP (N := fun r x => ∃ d : D, (r = [.k (.ro ns), .k (.int (n : Int)), .k (.lst (plan.map stepD)), .k (.int c), .k (.int (a : Int)), .k (.int (c / 128)), .k d, .k (.lst (.str (wordOf js.length) :: nD js)), .u, .u, .u, .u, .u, .u] ∧ x = []) ∧ BadAt n mid d)
        (TM.asgQ (P := fun r g => ∃ d, r = .d (.tup [d, .lst (.str (wordOf js.length) :: nD js)]) ∧ g = [] ∧ BadAt n mid d)
          (ev_callQ (xa_of (ea_cons (ev_op (ev_var rfl) (ev_var rfl) (rv_ixL pat)) (ea_cons (ev_var rfl) (ea_cons (ev_var rfl) (ea_cons (ev_var rfl) (ea_cons (ev_var rfl) ea_nil)))))) fun ds x hx => by
            obtain ⟨rfl, rfl⟩ := hx
            exact ⟨[], [], _, List.Perm.refl _, SP, fun r gq hP => ⟨gq, [], hP, by rw [List.append_nil]; exact List.Perm.refl _⟩⟩)
          fun r g' hP => by
            obtain ⟨d, rfl, rfl, hd⟩ := hP
            exact ⟨_, _, rfl, eg_tup (egs_cons eg_name (egs_cons eg_name egs_nil)) rfl, d, ⟨rfl, rfl⟩, hd⟩) ?_
      rintro r x ⟨d, ⟨rfl, rfl⟩, hd⟩
      refine TM.seq (ρ1 := [.k (.ro ns), .k (.int (n : Int)), .k (.lst (plan.map stepD)), .k (.int c), .k (.int (a : Int)), .k (.int (c / 128)), .k d, .k (.lst (.str (wordOf js.length) :: nD js)), .k (.lst ((plan.take a).map stepD ++ [d] ++ (plan.drop (a + 1)).map stepD)), .u, .u, .u, .u, .u]) (g1 := []) (TM.of (T.asg (EvF.data (ev_opF (x := .lst ((plan.take a).map stepD ++ [d])) (y := .lst ((plan.drop (a + 1)).map stepD)) (EvF.data (ev_opF (x := .lst ((plan.take a).map stepD)) (y := .lst [d]) (EvF.data (EvF.to (ev_slL (lo := none) (hi := some ((a : Nat) : Int)) (ev_var rfl) eo_no (eo_some (ev_var rfl))) (by rw [cut_to, ← List.map_take]))) (EvF.data (ev_lst (ea_cons (ev_var rfl) ea_nil) (Nat.le_of_ble_eq_true rfl))) (rvF_plus (by simp; omega)))) (EvF.data (EvF.to (ev_slL (lo := some ((a + 1 : Nat) : Int)) (hi := none) (ev_var rfl) (eo_some (EvD.to (ev_op (ev_var rfl) ev_int rv_plusI) (by show D.int _ = D.int _; congr 1))) eo_no) (by rw [cut_from, ← List.map_drop]))) (rvF_plus (by simp; omega)))) ⟨rfl, rfl⟩)) ?_
      refine TM.ret (d := .bl (true && true)) (ev_and (ev_call (ea_cons (ev_var rfl) (ea_cons (ev_var rfl) ea_nil)) (.mk _ _ (.rfs n _ n1 n16 (rfs_at g1 hd) (by simp; omega)))) fun _ => ev_op (EvF.data (ev_cbF (ea_cons (ev_op (ev_var rfl) (ev_var rfl) (rv_ixL pat)) ea_nil) rc_listT)) (ev_var rfl) (rv_eqS (b := true) (x := .lst (.str (wordOf js.length) :: nD js)) (y := .lst (.str (wordOf js.length) :: nD js)) (stepD_okd js 59) (stepD_okd js 59) (stepD_sm js 59) (stepD_sm js 59) ⟨fun _ => rfl, fun _ => rfl⟩)) rfl
    refine TM.guard (b := decide (c % 4 = 3)) (g' := []) (EvXT.of (et_test (ev_op (ev_op (ev_var rfl) ev_int (rv_mod (by decide) (by decide))) ev_int rv_eqI))) (fun _ => TM.ofT ?_) fun _ => ?_
    · obtain ⟨a0, b0, pr, hpp⟩ : ∃ a0 b0 pr, plan = [a0, b0] :: pr := by
        cases g with
        | nil => exact absurd p0 (by decide)
        | cons x1 x2 x3 =>
          rcases may_cases x2 with ⟨x, y, rfl, _⟩ | ⟨v, x, y, rfl, _, z, _⟩ | ⟨v, x, y, e, rfl, _, z, _⟩
          · exact ⟨x, y, _, rfl⟩
          · cases z
          · cases z
      have P0 : atI (plan.map stepD) 0 = some (stepD [a0, b0]) := by rw [hpp]; exact atI_int (Int.le_refl 0) rfl
      refine T.seq (ρ1 := [.k (.ro ns), .k (.int (n : Int)), .k (.lst (plan.map stepD)), .k (.int c), .k (.int (a : Int)), .k (.int (c / 128)), .u, .u, .u, .k (.lst [.lst (((plan.take a).map stepD) ++ ((plan.drop (a + 1)).map stepD)), .lst (((plan.take a).map stepD) ++ [stepD js] ++ ((plan.drop a).map stepD)), .tup (plan.map stepD)]), .u, .u, .u, .u]) (T.asg (EvF.data (ev_lst (ea_cons (EvF.data (ev_opF (x := .lst ((plan.take a).map stepD)) (y := .lst ((plan.drop (a + 1)).map stepD)) (EvF.data (EvF.to (ev_slL (lo := none) (hi := some ((a : Nat) : Int)) (ev_var rfl) eo_no (eo_some (ev_var rfl))) (by rw [cut_to, ← List.map_take]))) (EvF.data (EvF.to (ev_slL (lo := some ((a + 1 : Nat) : Int)) (hi := none) (ev_var rfl) (eo_some (EvD.to (ev_op (ev_var rfl) ev_int rv_plusI) (by show D.int _ = D.int _; congr 1))) eo_no) (by rw [cut_from, ← List.map_drop]))) (rvF_plus (by simp; omega)))) (ea_cons (EvF.data (ev_opF (x := .lst (((plan.take a).map stepD) ++ [stepD js])) (y := .lst ((plan.drop a).map stepD)) (EvF.data (ev_opF (x := .lst ((plan.take a).map stepD)) (y := .lst [stepD js]) (EvF.data (EvF.to (ev_slL (lo := none) (hi := some ((a : Nat) : Int)) (ev_var rfl) eo_no (eo_some (ev_var rfl))) (by rw [cut_to, ← List.map_take]))) (EvF.data (ev_lst (ea_cons (ev_op (ev_var rfl) (ev_var rfl) (rv_ixL pat)) ea_nil) (Nat.le_of_ble_eq_true rfl))) (rvF_plus (by simp; omega)))) (EvF.data (EvF.to (ev_slL (lo := some ((a : Nat) : Int)) (hi := none) (ev_var rfl) (eo_some (ev_var rfl)) eo_no) (by rw [cut_from, ← List.map_drop]))) (rvF_plus (by simp; omega)))) (ea_cons (ev_cb (ea_cons (ev_var rfl) ea_nil) rc_tupL) ea_nil))) (Nat.le_of_ble_eq_true rfl))) rfl) ?_
      refine T.seq (ρ1 := [.k (.ro ns), .k (.int (n : Int)), .k (.lst (plan.map stepD)), .k (.int c), .k (.int (a : Int)), .k (.int (c / 128)), .u, .u, .u, .o ([.lst (((plan.take a).map stepD) ++ ((plan.drop (a + 1)).map stepD)), .lst (((plan.take a).map stepD) ++ [stepD js] ++ ((plan.drop a).map stepD)), .tup (plan.map stepD)] ++ [.non, .str "", .lst ((plan.map stepD).reverse)]), .u, .u, .u, .u]) (T.asgF (ev_opF (x := .lst [.lst (((plan.take a).map stepD) ++ ((plan.drop (a + 1)).map stepD)), .lst (((plan.take a).map stepD) ++ [stepD js] ++ ((plan.drop a).map stepD)), .tup (plan.map stepD)]) (y := .lst [.non, .str "", .lst ((plan.map stepD).reverse)]) (ev_var rfl) (EvF.data (ev_lst (ea_cons ev_non (ea_cons ev_str (ea_cons (EvF.data (evF_revL (ev_var rfl))) ea_nil))) (Nat.le_of_ble_eq_true rfl))) (rvF_plus (Nat.le_of_ble_eq_true rfl))) rfl) ?_
      refine T.seq (ρ1 := [.k (.ro ns), .k (.int (n : Int)), .k (.lst (plan.map stepD)), .k (.int c), .k (.int (a : Int)), .k (.int (c / 128)), .u, .u, .u, .o (([.lst (((plan.take a).map stepD) ++ ((plan.drop (a + 1)).map stepD)), .lst (((plan.take a).map stepD) ++ [stepD js] ++ ((plan.drop a).map stepD)), .tup (plan.map stepD)] ++ [.non, .str "", .lst ((plan.map stepD).reverse)]) ++ [.lst ([.tup [.str "bar", .int (a0 : Int), .int (a0 : Int)]] ++ ((plan.drop 1).map stepD))]), .u, .u, .u, .u]) (T.append (i := 9) (ds := ([.lst (((plan.take a).map stepD) ++ ((plan.drop (a + 1)).map stepD)), .lst (((plan.take a).map stepD) ++ [stepD js] ++ ((plan.drop a).map stepD)), .tup (plan.map stepD)] ++ [.non, .str "", .lst ((plan.map stepD).reverse)])) (d := .lst ([.tup [.str "bar", .int (a0 : Int), .int (a0 : Int)]] ++ ((plan.drop 1).map stepD))) rfl (EvF.data (ev_opF (x := .lst [.tup [.str "bar", .int (a0 : Int), .int (a0 : Int)]]) (y := .lst ((plan.drop 1).map stepD)) (EvF.data (ev_lst (ea_cons (ev_tup (ea_cons ev_str (ea_cons (ev_op (ev_op (ev_var rfl) ev_int (rv_ixL P0)) ev_int (rv_ixT (atI_int (show (0 : Int) ≤ 1 by decide) rfl))) (ea_cons (ev_op (ev_op (ev_var rfl) ev_int (rv_ixL P0)) ev_int (rv_ixT (atI_int (show (0 : Int) ≤ 1 by decide) rfl))) ea_nil))) (Nat.le_of_ble_eq_true rfl)) ea_nil) (Nat.le_of_ble_eq_true rfl))) (EvF.data (EvF.to (ev_slL (lo := some ((1 : Nat) : Int)) (hi := none) (ev_var rfl) (eo_some ev_int) eo_no) (by rw [cut_from, ← List.map_drop]))) (rvF_plus (by simp; omega)))) (Nat.le_of_ble_eq_true rfl) rfl) ?_
      refine T.seq (ρ1 := [.k (.ro ns), .k (.int (n : Int)), .k (.lst (plan.map stepD)), .k (.int c), .k (.int (a : Int)), .k (.int (c / 128)), .u, .u, .u, .o ((([.lst (((plan.take a).map stepD) ++ ((plan.drop (a + 1)).map stepD)), .lst (((plan.take a).map stepD) ++ [stepD js] ++ ((plan.drop a).map stepD)), .tup (plan.map stepD)] ++ [.non, .str "", .lst ((plan.map stepD).reverse)]) ++ [.lst ([.tup [.str "bar", .int (a0 : Int), .int (a0 : Int)]] ++ ((plan.drop 1).map stepD))]) ++ [.lst ([.tup [.str "three", .int (a0 : Int), .int (b0 : Int)]] ++ ((plan.drop 1).map stepD))]), .u, .u, .u, .u]) (T.append (i := 9) (ds := (([.lst (((plan.take a).map stepD) ++ ((plan.drop (a + 1)).map stepD)), .lst (((plan.take a).map stepD) ++ [stepD js] ++ ((plan.drop a).map stepD)), .tup (plan.map stepD)] ++ [.non, .str "", .lst ((plan.map stepD).reverse)]) ++ [.lst ([.tup [.str "bar", .int (a0 : Int), .int (a0 : Int)]] ++ ((plan.drop 1).map stepD))])) (d := .lst ([.tup [.str "three", .int (a0 : Int), .int (b0 : Int)]] ++ ((plan.drop 1).map stepD))) rfl (EvF.data (ev_opF (x := .lst [.tup [.str "three", .int (a0 : Int), .int (b0 : Int)]]) (y := .lst ((plan.drop 1).map stepD)) (EvF.data (ev_lst (ea_cons (ev_tup (ea_cons ev_str (ea_cons (ev_op (ev_op (ev_var rfl) ev_int (rv_ixL P0)) ev_int (rv_ixT (atI_int (show (0 : Int) ≤ 1 by decide) rfl))) (ea_cons (ev_op (ev_op (ev_var rfl) ev_int (rv_ixL P0)) ev_int (rv_ixT (atI_int (show (0 : Int) ≤ 2 by decide) rfl))) ea_nil))) (Nat.le_of_ble_eq_true rfl)) ea_nil) (Nat.le_of_ble_eq_true rfl))) (EvF.data (EvF.to (ev_slL (lo := some ((1 : Nat) : Int)) (hi := none) (ev_var rfl) (eo_some ev_int) eo_no) (by rw [cut_from, ← List.map_drop]))) (rvF_plus (by simp; omega)))) (Nat.le_of_ble_eq_true rfl) rfl) ?_
      have all : ∀ k : Nat, k < 8 → (k = 5 → 2 ≤ plan.length) → ∃ d, ((([.lst (((plan.take a).map stepD) ++ ((plan.drop (a + 1)).map stepD)), .lst (((plan.take a).map stepD) ++ [stepD js] ++ ((plan.drop a).map stepD)), .tup (plan.map stepD)] ++ [.non, .str "", .lst ((plan.map stepD).reverse)]) ++ [.lst ([.tup [.str "bar", .int (a0 : Int), .int (a0 : Int)]] ++ ((plan.drop 1).map stepD))]) ++ [.lst ([.tup [.str "three", .int (a0 : Int), .int (b0 : Int)]] ++ ((plan.drop 1).map stepD))])[k]? = some d ∧ Rx_built [.int (n : Int), d] := fun k hk h5 => by
        match k, hk with
        | 0, _ =>
          refine ⟨_, rfl, .rfs n _ n1 n16 ?_ (by simp; omega)⟩
          rw [← List.map_append]
          refine rfs_short (fun l hl => steps l ?_) (by omega) ?_
          · rcases List.mem_append.mp hl with h | h
            · exact List.mem_of_mem_take h
            · exact List.mem_of_mem_drop h
          · rw [List.length_append, List.length_take, List.length_drop]
            omega
        | 1, _ =>
          refine ⟨_, rfl, .rfs n _ n1 n16 ?_ (by simp; omega)⟩
          have gg : Goes n [] (plan.take a ++ [js]) (stepRows mid js) := g1.app (.cons b1 b2 .nil)
          rw [ed]
          have f := Fails.after gg (.here (ds := ((plan.drop (a + 1)).map stepD)) (.inr ⟨js, rfl, b1, may_again b2⟩))
          rw [List.map_append] at f
          exact .fails f
        | 2, _ => exact ⟨_, rfl, .noList n _ n1 n16 (.inr (.inr rfl))⟩
        | 3, _ => exact ⟨_, rfl, .noList n _ n1 n16 (.inl rfl)⟩
        | 4, _ => exact ⟨_, rfl, .noList n _ n1 n16 (.inr (.inl rfl))⟩
        | 5, _ =>
          refine ⟨_, rfl, .rfs n _ n1 n16 ?_ (by simp; omega)⟩
          have h2 := h5 rfl
          obtain ⟨ini, l, hl⟩ : ∃ ini l, plan = ini ++ [l] := ⟨plan.dropLast, plan.getLast (by intro z; rw [z] at p0; exact absurd p0 (by decide)), (List.dropLast_concat_getLast _).symm⟩
          have g5 := g
          rw [hl] at g5
          obtain ⟨m2, q1, q2⟩ := Goes.split g5
          have il : 1 ≤ ini.length := by
            have := congrArg List.length hl
            rw [List.length_append] at this
            have e1 : ([l] : List (List Nat)).length = 1 := rfl
            omega
          have hm2 : m2 ≠ [] := by
            cases q1 with
            | nil => exact absurd il (by decide)
            | cons x1 x2 x3 =>
              intro z
              rw [z] at x3
              have k1 := (Goes.jt (k := (Prod.fst ((stepRows _ _).headD (0, 0)))) x3).mpr (.inl (by
                have hne := stepRows_ne x2
                cases hs : stepRows _ _ with
                | nil => exact absurd hs hne
                | cons b r => exact isJt_iff.mpr ⟨b, List.mem_cons_self, .inl rfl⟩))
              cases k1
          cases q2 with
          | cons x1 x2 x3 =>
            rw [hl, List.map_append, List.reverse_append]
            refine .fails (.here (.inr ⟨l, rfl, x1, ?_⟩))
            rcases may_cases x2 with ⟨x, y, rfl, z⟩ | ⟨v, x, y, rfl, _⟩ | ⟨v, x, y, e, rfl, _⟩
            · exact absurd z hm2
            · rfl
            · rfl
        | 6, _ => exact ⟨_, rfl, .rfs n _ n1 n16 (.fails (.here (bad_dup (js := [a0, a0]) (by simp) (by simp) (by simp)))) (by simp; omega)⟩
        | 7, _ => exact ⟨_, rfl, .rfs n _ n1 n16 (.fails (.here (.inl (.badLen (x := "three") (o := some 5) (ds := [.int (a0 : Int), .int (b0 : Int)]) (by simp) (by simp) (by simp))))) (by simp; omega)⟩
      generalize ((([D.lst (((plan.take a).map stepD) ++ ((plan.drop (a + 1)).map stepD)), D.lst (((plan.take a).map stepD) ++ [stepD js] ++ ((plan.drop a).map stepD)), D.tup (plan.map stepD)] ++ [D.non, D.str "", D.lst ((plan.map stepD).reverse)]) ++ [D.lst ([D.tup [D.str "bar", D.int (a0 : Int), D.int (a0 : Int)]] ++ ((plan.drop 1).map stepD))]) ++ [D.lst ([D.tup [D.str "three", D.int (a0 : Int), D.int (b0 : Int)]] ++ ((plan.drop 1).map stepD))]) = OD at all
      refine T.freeze (i := 9) rfl ?_
      obtain ⟨e8, l8⟩ := md_eq (c / 128) (show 0 < 8 by decide)
      generalize md (c / 128) 8 = k at e8 l8
      refine T.seq (ρ1 := [.k (.ro ns), .k (.int (n : Int)), .k (.lst (plan.map stepD)), .k (.int c), .k (.int (a : Int)), .k (.int (c / 128)), .u, .u, .u, .k (.lst OD), .k (.int (k : Int)), .u, .u, .u]) (T.asg (EvD.to (x := .int (k : Int)) (ev_op (ev_var rfl) ev_int (rv_mod (by decide) (by decide))) (by rw [e8]; rfl)) rfl) ?_
      refine T.seqP (N := fun r => ∃ k' : Nat, r = [.k (.ro ns), .k (.int (n : Int)), .k (.lst (plan.map stepD)), .k (.int c), .k (.int (a : Int)), .k (.int (c / 128)), .u, .u, .u, .k (.lst OD), .k (.int (k' : Int)), .u, .u, .u] ∧ k' < 8 ∧ (k' = 5 → 2 ≤ plan.length))
        (T.ifS (b := decide ((k : Int) = 5) && decide ((plan.length : Int) = 1)) (et_and (et_test (ev_op (ev_var rfl) ev_int rv_eqI)) fun _ => et_test (ev_op (EvD.to (ev_cb (ea_cons (ev_var rfl) ea_nil) rc_lenL) (by rw [lp])) ev_int rv_eqI)) (fun _ => T.asg ev_int ⟨0, rfl, by decide, (fun z => by cases z)⟩) fun hb => T.next ⟨k, rfl, l8, fun z => ?_⟩) ?_
      · rw [z, decide_eq_true (show ((5 : Nat) : Int) = 5 from rfl), Bool.true_and] at hb
        have := of_decide_eq_false hb
        omega
      rintro r ⟨k', rfl, h8, h5⟩
      obtain ⟨d, hd, hx⟩ := all k' h8 h5
      exact T.ret (ev_call (ea_cons (ev_var rfl) (ea_cons (ev_op (ev_var rfl) (ev_var rfl) (rv_ixL (atI_nat hd))) ea_nil)) (.mk _ _ hx)) rfl
    refine TM.seq (ρ1 := [.k (.ro ns), .k (.int (n : Int)), .k (.lst (plan.map stepD)), .k (.int c), .k (.int (a : Int)), .k (.int (c / 128)), .u, .u, .k (.lst (plan.map stepD)), .u, .u, .u, .u, .u]) (g1 := []) (TM.of (T.asg (EvF.data (ev_cbF (ea_cons (ev_var rfl) ea_nil) rc_listL)) ⟨rfl, rfl⟩)) ?_
    have RB := R_built.mk n plan rows n1 n16 g (by omega) (.inr hj)
    have RW := R_l_walked.mk n plan rows n1 n16 g pl
    refine TM.seqP (N := fun r x => ∃ p : Addr, r = [.k (.ro ns), .k (.int (n : Int)), .k (.lst (plan.map stepD)), .k (.int c), .k (.int (a : Int)), .k (.int (c / 128)), .u, .u, .k (.lst (plan.map stepD)), .u, .u, .k (.adr p), .u, .u] ∧ x = [(p, .n .lst (((sortB (rows.map bI)).map barD).map Pl.M.d))]) (TM.asgN (m := .n .lst (((sortB (rows.map bI)).map barD).map Pl.M.d)) (EvX.root (EvX.fresh (ev_callF (ea_cons (ev_var rfl) (ea_cons (ev_var rfl) ea_nil)) RB))) fun p => ⟨p, rfl, rfl⟩) ?_
    rintro r x ⟨p, rfl, rfl⟩
    refine TM.seq (ρ1 := [.k (.ro ns), .k (.int (n : Int)), .k (.lst (plan.map stepD)), .k (.int c), .k (.int (a : Int)), .k (.int (c / 128)), .u, .u, .k (.lst (plan.map stepD)), .u, .u, .k (.adr p), .k (.lst ((sortB (rows.map bI)).map barD)), .u]) (g1 := [(p, .n .lst (((sortB (rows.map bI)).map barD).map Pl.M.d))]) (TM.of (T.asg (EvF.data (ev_callF (ea_cons (ev_var rfl) (ea_cons (ev_var rfl) ea_nil)) RW)) ⟨rfl, rfl⟩)) ?_
    have hsee : (.n .lst (((sortB (rows.map bI)).map barD).map Pl.M.d) : Pl.M).see = .lst ((sortB (rows.map bI)).map barD) := by
      show D.lst (seeL _) = D.lst _
      rw [seeL_d]
    have hmem : (p, (.n .lst (((sortB (rows.map bI)).map barD).map Pl.M.d) : Pl.M)) ∈ [(p, (.n .lst (((sortB (rows.map bI)).map barD).map Pl.M.d) : Pl.M))] := List.mem_singleton.mpr rfl
    have vw : View [(p, (.n .lst (((sortB (rows.map bI)).map barD).map Pl.M.d) : Pl.M))] [.k (.ro ns), .k (.int (n : Int)), .k (.lst (plan.map stepD)), .k (.int c), .k (.int (a : Int)), .k (.int (c / 128)), .u, .u, .k (.lst (plan.map stepD)), .u, .u, .k (.adr p), .k (.lst ((sortB (rows.map bI)).map barD)), .u] [.k (.ro ns), .k (.int (n : Int)), .k (.lst (plan.map stepD)), .k (.int c), .k (.int (a : Int)), .k (.int (c / 128)), .u, .u, .k (.lst (plan.map stepD)), .u, .u, .k (.n .lst (((sortB (rows.map bI)).map barD).map Pl.M.d) : Pl.M).see, .k (.lst ((sortB (rows.map bI)).map barD)), .u] := .same (.same (.same (.same (.same (.same (.same (.same (.same (.same (.same (.root hmem (.same (.same .nil)))))))))))))
    rw [hsee] at vw
    refine TM.guard (b := !true || (!true || !decide (sortB (rows.map bI) = sortB (rows.map bI)))) (EvXT.look vw (et_or (et_test (ev_op (ev_var rfl) (ev_var rfl) (rv_neS (b := true) (steps_okd plan) (steps_okd plan) (steps_sm plan) (steps_sm plan) ⟨fun _ => rfl, fun _ => rfl⟩))) fun _ => et_or (et_not (et_B (ev_cb (ea_cons (ev_var rfl) (ea_cons ev_ty ea_nil)) (rc_isiK "list" rfl (by decide +kernel) (by decide))))) fun _ => et_test (ev_op (ev_var rfl) (ev_var rfl) rv_neBars))) (fun hb => by rw [decide_eq_true rfl] at hb; cases hb) fun _ => ?_
    refine TM.seqP (N := fun r x => ∃ s13 : Sl, r = [.k (.ro ns), .k (.int (n : Int)), .k (.lst (plan.map stepD)), .k (.int c), .k (.int (a : Int)), .k (.int (c / 128)), .u, .u, .k (.lst (plan.map stepD)), .u, .u, .k (.adr p), .k (.lst ((sortB (rows.map bI)).map barD)), s13] ∧ x = [(p, .n .lst (((sortB (rows.map bI)).map barD).map Pl.M.d))])
      (TM.forR (i := 11) (a := p) (ds := ((sortB (rows.map bI)).map barD)) rfl (fun _ r x => ∃ s13 : Sl, r = [.k (.ro ns), .k (.int (n : Int)), .k (.lst (plan.map stepD)), .k (.int c), .k (.int (a : Int)), .k (.int (c / 128)), .u, .u, .k (.lst (plan.map stepD)), .u, .u, .k (.adr p), .k (.lst ((sortB (rows.map bI)).map barD)), s13] ∧ x = [(p, .n .lst (((sortB (rows.map bI)).map barD).map Pl.M.d))]) ⟨_, rfl, rfl⟩ hmem (fun _ r x hP => by
        obtain ⟨_, _, rfl⟩ := hP
        exact hmem) ?_ fun _ _ z => z) ?_
    · rintro i d r x hd ⟨s13, rfl, rfl⟩
      rw [List.getElem?_map] at hd
      obtain ⟨bb, _, rfl⟩ := Option.map_eq_some_iff.mp hd
      refine ⟨_, eg_name, ?_⟩
      exact TM.ifX (b := !true || (!true || !true)) (EvXT.of (et_or (et_not (et_B (ev_cb (ea_cons (ev_var rfl) (ea_cons ev_ty ea_nil)) (rc_isiK "tuple" rfl (by decide +kernel) (by decide))))) fun _ => et_or (et_not (et_B (ev_call (ea_cons (ev_op (ev_var rfl) ev_int (rv_ixT (atI_int (Int.le_refl 0) rfl))) ea_nil) (.int _)))) fun _ => et_not (et_B (ev_call (ea_cons (ev_op (ev_var rfl) ev_int (rv_ixT (atI_int (show (0 : Int) ≤ 1 by decide) rfl))) ea_nil) (.int _))))) (fun hb => by cases hb) fun _ => TM.next ⟨_, rfl, rfl⟩
    rintro r x ⟨s13, rfl, rfl⟩
    refine TM.seqP (N := fun r x => r = [.k (.ro ns), .k (.int (n : Int)), .k (.lst (plan.map stepD)), .k (.int c), .k (.int (a : Int)), .k (.int (c / 128)), .u, .u, .k (.lst (plan.map stepD)), .u, .u, .k (.adr p), .k (.lst ((sortB (rows.map bI)).map barD)), s13]) (TM.append (gl := []) (gr := []) (a := p) (m := .n .lst (((sortB (rows.map bI)).map barD).map Pl.M.d)) (π := []) (ms := ((sortB (rows.map bI)).map barD).map Pl.M.d) (d := .tup [.int 0, .int 0]) (ep_var rfl) rfl rfl (ev_tup (ea_cons ev_int (ea_cons ev_int ea_nil)) (Nat.le_of_ble_eq_true rfl)) (by
      have := (sortB_perm (rows.map bI)).length_eq
      have h2 := g.len
      rw [List.length_map, List.length_map, this, List.length_map]
      rw [List.length_nil] at h2
      omega) rfl) ?_
    rintro r x rfl
    refine TM.drop ?_
    exact T.ret (d := .bl (decide (sortB (rows.map bI) = sortB (rows.map bI)))) (ev_op (EvF.data (ev_callF (ea_cons (ev_var rfl) (ea_cons (ev_var rfl) ea_nil)) RB)) (ev_var rfl) rv_eqBars) (by rw [decide_eq_true rfl]; rfl)
end
def dd (i : Nat) (x : Str) : He.DefD := ⟨(x, none), x, x, defArgs (top i), defBody (top i), defScope (top i), [], []⟩
def fn : List He.DefD := [dd 13 "is_number", dd 11 "check_count", dd 12 "is_joint", dd 14 "joints_of", dd 21 "lesser_first", dd 20 "after", dd 18 "is_step", dd 19 "may_follow", dd 17 "built", dd 23 "_law_cell_at", dd 24 "_law_whole", dd 25 "_law_mixed", dd 26 "_law_order", dd 27 "_law_kind", dd 28 "_law_walked", dd 29 "_law_planned", dd 30 "_law_absent", dd 31 "_law_spoilt", dd 32 "_law_refused", dd 33 "law"]
def fa : List He.Fa := [.glo "is_number", .glo "check_count", .glo "is_joint", .glo "joints_of", .glo "lesser_first", .glo "after", .glo "is_step", .glo "may_follow", .glo "built", .glo "_law_cell_at", .glo "_law_whole", .glo "_law_mixed", .glo "_law_order", .glo "_law_kind", .glo "_law_walked", .glo "_law_planned", .glo "_law_absent", .glo "_law_spoilt", .glo "_law_refused", .glo "law", .free "ValueError", .free "all", .free "bool", .free "enumerate", .free "int", .free "isinstance", .free "len", .free "list", .free "max", .free "min", .free "range", .free "set", .free "sorted", .free "str", .free "tuple", .int "MOST_JOINTS" 16, .glo "FrameError", .glo "BadCount", .glo "BadBar", .glo "NoBar", .glo "Full", .glo "NotLean", .glo "Loose", .glo "BadStep", .exc "BadStep", .exm "BadStep" "FrameError" true, .glo "LENGTHS"]
abbrev R : PySem.W.OpenRow := PySem.W.OpenLaw.row PySem.Challenge.rw_stiffbars_k08_built_or_no_steps
def exK (K : PySem.W.Frag) : Bool := kindB "BadStep" (kinds7 "BadStep") K && gotB K (He.ga K "LENGTHS") keys_LENGTHS
def tabs : List He.Tab := [(fun K => He.ga K "LENGTHS", ["bar", "two", "three"])]
abbrev hk : PySem.W.Hook := He.hookX 4 fa fn tabs [] exK
def ob (s : PySem.W.SharedT) : He.AlX := He.obsX 4 fa fn tabs [] exK (HandSHeadRun.getT s)
theorem ob_eq (s : PySem.W.SharedT) : ob s = hk.obs s.abs := He.obsX_eq (HandSHeadRun.getT_eq s)
def loose : List Str := ("__name__" : Str) :: ("FrameError" : Str) :: ("BadCount" : Str) :: ("BadBar" : Str) :: ("NoBar" : Str) :: ("Full" : Str) :: ("NotLean" : Str) :: ("Loose" : Str) :: ("BadStep" : Str) :: ("MOST_JOINTS" : Str) :: ("check_count" : Str) :: ("is_joint" : Str) :: ("is_number" : Str) :: ("joints_of" : Str) :: ("LENGTHS" : Str) :: ("built" : Str) :: ("is_step" : Str) :: ("may_follow" : Str) :: ("after" : Str) :: ("lesser_first" : Str) :: ("_law_cell_at" : Str) :: ("_law_whole" : Str) :: ("_law_mixed" : Str) :: ("_law_order" : Str) :: ("_law_kind" : Str) :: ("_law_walked" : Str) :: ("_law_planned" : Str) :: ("_law_absent" : Str) :: ("_law_spoilt" : Str) :: ("_law_refused" : Str) :: []
theorem run (w : World) : HandSHeadRun.RunEq R (PySem.W.view R.prog [33]) hk ob 8000 loose w := by
  refine PySem.W.byRow2 "special-get-raises" (P := fun w => HandSHeadRun.RunEq R (PySem.W.view R.prog [33]) hk ob 8000 loose w) (fun w => ?_) (fun w => ?_) w <;>
  (intro os; kernel_rfl)
theorem facts {P : Program} {w : World} {K : PySem.W.Frag} {h : Heap} {mg : Str → Option Value} {f : Addr} (X : K.In h) (G : h.Ns mainGlobals mg) (hfa : mg "law" = some (.ref f)) (c : He.SaysD fa fn K) (hx : exK K = true) (ht_LENGTHS : ∃ es n, KDict K w (He.ga K "LENGTHS") es n) :
    ∃ fd : FuncData, (∀ (s : Shared) (v : Value), BindsTo s fd ⟨[v], []⟩ [("_law_script", v)]) ∧ ∀ base : Heap, K.In base → base.Ns mainGlobals mg → FnOk P w K mg base CX0 6 f fd ["_law_script"] (spD K R_law) := by
  have M : Mods K mg w := {
    m_ValueError := He.free_ok X G (c.fact 20 (f := .free "ValueError") rfl),
    m_all := He.free_ok X G (c.fact 21 (f := .free "all") rfl),
    m_bool := He.free_ok X G (c.fact 22 (f := .free "bool") rfl),
    m_enumerate := He.free_ok X G (c.fact 23 (f := .free "enumerate") rfl),
    m_int := He.free_ok X G (c.fact 24 (f := .free "int") rfl),
    m_isinstance := He.free_ok X G (c.fact 25 (f := .free "isinstance") rfl),
    m_len := He.free_ok X G (c.fact 26 (f := .free "len") rfl),
    m_list := He.free_ok X G (c.fact 27 (f := .free "list") rfl),
    m_max := He.free_ok X G (c.fact 28 (f := .free "max") rfl),
    m_min := He.free_ok X G (c.fact 29 (f := .free "min") rfl),
    m_range := He.free_ok X G (c.fact 30 (f := .free "range") rfl),
    m_set := He.free_ok X G (c.fact 31 (f := .free "set") rfl),
    m_sorted := He.free_ok X G (c.fact 32 (f := .free "sorted") rfl),
    m_str := He.free_ok X G (c.fact 33 (f := .free "str") rfl),
    m_tuple := He.free_ok X G (c.fact 34 (f := .free "tuple") rfl),
    k_MOST_JOINTS := He.int_ok X G (c.fact 35 (f := .int "MOST_JOINTS" 16) rfl),
    g_FrameError := He.glo_ok X G (c.fact 36 (f := .glo "FrameError") rfl),
    g_BadCount := He.glo_ok X G (c.fact 37 (f := .glo "BadCount") rfl),
    g_BadBar := He.glo_ok X G (c.fact 38 (f := .glo "BadBar") rfl),
    g_NoBar := He.glo_ok X G (c.fact 39 (f := .glo "NoBar") rfl),
    g_Full := He.glo_ok X G (c.fact 40 (f := .glo "Full") rfl),
    g_NotLean := He.glo_ok X G (c.fact 41 (f := .glo "NotLean") rfl),
    g_Loose := He.glo_ok X G (c.fact 42 (f := .glo "Loose") rfl),
    g_BadStep := He.glo_ok X G (c.fact 43 (f := .glo "BadStep") rfl),
    x_BadStep := He.exc_ok (c.fact 44 (f := .exc "BadStep") rfl),
    n_BadStep := He.exm_ok (c.fact 45 (f := .exm "BadStep" "FrameError" true) rfl),
    q_BadStep := kindB_ok (by have hx := hx; unfold exK at hx; simp only [Bool.and_eq_true] at hx; exact hx.1),
    k_LENGTHS := He.glo_ok X G (c.fact 46 (f := .glo "LENGTHS") rfl),
    d_LENGTHS := ht_LENGTHS,
    l_LENGTHS := gotB_ok (by have hx := hx; unfold exK at hx; simp only [Bool.and_eq_true] at hx; exact hx.2) ht_LENGTHS }
  obtain ⟨fd_is_number, F_is_number⟩ := c.def_ 0 (d := dd 13 "is_number") rfl
  have g_is_number : mg "is_number" = some (.ref (He.ga K "is_number")) := He.glo_ok X G (c.fact 0 (f := .glo "is_number") rfl)
  obtain ⟨fd_check_count, F_check_count⟩ := c.def_ 1 (d := dd 11 "check_count") rfl
  have g_check_count : mg "check_count" = some (.ref (He.ga K "check_count")) := He.glo_ok X G (c.fact 1 (f := .glo "check_count") rfl)
  obtain ⟨fd_is_joint, F_is_joint⟩ := c.def_ 2 (d := dd 12 "is_joint") rfl
  have g_is_joint : mg "is_joint" = some (.ref (He.ga K "is_joint")) := He.glo_ok X G (c.fact 2 (f := .glo "is_joint") rfl)
  obtain ⟨fd_joints_of, F_joints_of⟩ := c.def_ 3 (d := dd 14 "joints_of") rfl
  have g_joints_of : mg "joints_of" = some (.ref (He.ga K "joints_of")) := He.glo_ok X G (c.fact 3 (f := .glo "joints_of") rfl)
  obtain ⟨fd_lesser_first, F_lesser_first⟩ := c.def_ 4 (d := dd 21 "lesser_first") rfl
  have g_lesser_first : mg "lesser_first" = some (.ref (He.ga K "lesser_first")) := He.glo_ok X G (c.fact 4 (f := .glo "lesser_first") rfl)
  obtain ⟨fd_after, F_after⟩ := c.def_ 5 (d := dd 20 "after") rfl
  have g_after : mg "after" = some (.ref (He.ga K "after")) := He.glo_ok X G (c.fact 5 (f := .glo "after") rfl)
  obtain ⟨fd_is_step, F_is_step⟩ := c.def_ 6 (d := dd 18 "is_step") rfl
  have g_is_step : mg "is_step" = some (.ref (He.ga K "is_step")) := He.glo_ok X G (c.fact 6 (f := .glo "is_step") rfl)
  obtain ⟨fd_may_follow, F_may_follow⟩ := c.def_ 7 (d := dd 19 "may_follow") rfl
  have g_may_follow : mg "may_follow" = some (.ref (He.ga K "may_follow")) := He.glo_ok X G (c.fact 7 (f := .glo "may_follow") rfl)
  obtain ⟨fd_built, F_built⟩ := c.def_ 8 (d := dd 17 "built") rfl
  have g_built : mg "built" = some (.ref (He.ga K "built")) := He.glo_ok X G (c.fact 8 (f := .glo "built") rfl)
  obtain ⟨fd_l_cell_at, F_l_cell_at⟩ := c.def_ 9 (d := dd 23 "_law_cell_at") rfl
  have g_l_cell_at : mg "_law_cell_at" = some (.ref (He.ga K "_law_cell_at")) := He.glo_ok X G (c.fact 9 (f := .glo "_law_cell_at") rfl)
  obtain ⟨fd_l_whole, F_l_whole⟩ := c.def_ 10 (d := dd 24 "_law_whole") rfl
  have g_l_whole : mg "_law_whole" = some (.ref (He.ga K "_law_whole")) := He.glo_ok X G (c.fact 10 (f := .glo "_law_whole") rfl)
  obtain ⟨fd_l_mixed, F_l_mixed⟩ := c.def_ 11 (d := dd 25 "_law_mixed") rfl
  have g_l_mixed : mg "_law_mixed" = some (.ref (He.ga K "_law_mixed")) := He.glo_ok X G (c.fact 11 (f := .glo "_law_mixed") rfl)
  obtain ⟨fd_l_order, F_l_order⟩ := c.def_ 12 (d := dd 26 "_law_order") rfl
  have g_l_order : mg "_law_order" = some (.ref (He.ga K "_law_order")) := He.glo_ok X G (c.fact 12 (f := .glo "_law_order") rfl)
  obtain ⟨fd_l_kind, F_l_kind⟩ := c.def_ 13 (d := dd 27 "_law_kind") rfl
  have g_l_kind : mg "_law_kind" = some (.ref (He.ga K "_law_kind")) := He.glo_ok X G (c.fact 13 (f := .glo "_law_kind") rfl)
  obtain ⟨fd_l_walked, F_l_walked⟩ := c.def_ 14 (d := dd 28 "_law_walked") rfl
  have g_l_walked : mg "_law_walked" = some (.ref (He.ga K "_law_walked")) := He.glo_ok X G (c.fact 14 (f := .glo "_law_walked") rfl)
  obtain ⟨fd_l_planned, F_l_planned⟩ := c.def_ 15 (d := dd 29 "_law_planned") rfl
  have g_l_planned : mg "_law_planned" = some (.ref (He.ga K "_law_planned")) := He.glo_ok X G (c.fact 15 (f := .glo "_law_planned") rfl)
  obtain ⟨fd_l_absent, F_l_absent⟩ := c.def_ 16 (d := dd 30 "_law_absent") rfl
  have g_l_absent : mg "_law_absent" = some (.ref (He.ga K "_law_absent")) := He.glo_ok X G (c.fact 16 (f := .glo "_law_absent") rfl)
  obtain ⟨fd_l_spoilt, F_l_spoilt⟩ := c.def_ 17 (d := dd 31 "_law_spoilt") rfl
  have g_l_spoilt : mg "_law_spoilt" = some (.ref (He.ga K "_law_spoilt")) := He.glo_ok X G (c.fact 17 (f := .glo "_law_spoilt") rfl)
  obtain ⟨fd_l_refused, F_l_refused⟩ := c.def_ 18 (d := dd 32 "_law_refused") rfl
  have g_l_refused : mg "_law_refused" = some (.ref (He.ga K "_law_refused")) := He.glo_ok X G (c.fact 18 (f := .glo "_law_refused") rfl)
  obtain ⟨fd_law, F_law⟩ := c.def_ 19 (d := dd 33 "law") rfl
  have g_law : mg "law" = some (.ref (He.ga K "law")) := He.glo_ok X G (c.fact 19 (f := .glo "law") rfl)
  have e := hfa.symm.trans g_law
  cases e
  refine ⟨fd_law, fun s v => FunD.bindsA (ps := ["_law_script"]) F_law (fun _ _ _ _ _ _ us hl => match us, hl with | [_], _ => rfl) s [v] rfl, fun base _ _ => ?_⟩
  have C_is_number := ok_is_number (P := P) (w := w) (base := base) F_is_number g_is_number M 
  have C_check_count := ok_check_count (P := P) (w := w) (base := base) F_check_count g_check_count M C_is_number
  have C_is_joint := ok_is_joint (P := P) (w := w) (base := base) F_is_joint g_is_joint M C_is_number
  have C_joints_of := ok_joints_of (P := P) (w := w) (base := base) F_joints_of g_joints_of M 
  have C_lesser_first := ok_lesser_first (P := P) (w := w) (base := base) F_lesser_first g_lesser_first M 
  have C_after := ok_after (P := P) (w := w) (base := base) F_after g_after M C_lesser_first
  have C_is_step := ok_is_step (P := P) (w := w) (base := base) F_is_step g_is_step M C_is_joint
  have C_may_follow := ok_may_follow (P := P) (w := w) (base := base) F_may_follow g_may_follow M C_joints_of C_lesser_first
  have C_built := ok_built (P := P) (w := w) (base := base) F_built g_built M C_check_count C_after C_is_step C_may_follow C_joints_of
  have X_built := okx_built (P := P) (w := w) (base := base) F_built g_built M C_check_count C_after C_is_step C_may_follow C_joints_of
  have C_l_cell_at := ok_l_cell_at (P := P) (w := w) (base := base) F_l_cell_at g_l_cell_at M 
  have C_l_whole := ok_l_whole (P := P) (w := w) (base := base) F_l_whole g_l_whole M 
  have C_l_mixed := ok_l_mixed (P := P) (w := w) (base := base) F_l_mixed g_l_mixed M 
  have C_l_order := ok_l_order (P := P) (w := w) (base := base) F_l_order g_l_order M 
  have E_l_kind := ok_l_kind (P := P) (w := w) F_l_kind g_l_kind M 
  have C_l_walked := ok_l_walked (P := P) (w := w) (base := base) F_l_walked g_l_walked M C_l_whole
  have C_l_planned := ok_l_planned (P := P) (w := w) (base := base) F_l_planned g_l_planned M C_l_order C_l_mixed
  have C_l_absent := ok_l_absent (P := P) (w := w) (base := base) F_l_absent g_l_absent M 
  have C_l_spoilt := ok_l_spoilt (P := P) (w := w) (base := base) F_l_spoilt g_l_spoilt M C_l_absent
  have C_l_refused := ok_l_refused (P := P) (w := w) (base := base) F_l_refused g_l_refused M X_built E_l_kind
  exact ok_law F_law g_law M C_l_planned C_l_mixed C_built C_l_walked C_l_cell_at C_l_spoilt C_l_refused C_l_whole
end A
open PySem PySem.W PySem.Calls PyProof.Rows
set_option maxHeartbeats 0 in
theorem PySem.Challenge.cw_stiffbars_k08_built_or_no_steps_holds : PySem.Challenge.rw_stiffbars_k08_built_or_no_steps.Holds := by
  w_on; o_law
  refine HandSHeadRun.head_any (r := A.R) (q := view A.R.prog [33]) (H := A.hk) (ob := A.ob) (M := 8000) (loose := A.loose) (d := HandSHeadRun.topDef A.R.prog 33) (kwd := []) A.ob_eq
    (by kernel_rfl) (fun s => by kernel_rfl) A.run (by kernel_rfl) (by kernel_rfl) (by kernel_rfl) (by rfl) (by first | assumption | decide +kernel) (by decide +kernel) ⟨rfl, rfl, rfl, rfl, rfl, by decide +kernel⟩ ?hw ?hc
  case hw => w_witness2
  case hc =>
    refine L2.walk_ofE (l := PySem.Challenge.rw_stiffbars_k08_built_or_no_steps) (n := 63) (k := 6) (x := "_law_script") (CX := L2.CX0) rfl (by decide) (by kernel_rfl) ⟨rfl, by decide, by decide⟩ ?F (fun _ _ _ _ z => z)
    intro w mg fa h Y G hmg0
    obtain ⟨K, KX, c⟩ := Y
    have hxx := c.more
    have ht0 := c.t.tab 0
    have c := c.t.d
    have hmg : mg ("law" : PySem.Str) = some (.ref fa) := by
      have e : (HandSHeadRun.topDef A.R.prog 33).name = ("law" : PySem.Str) := by kernel_rfl
      rw [← e]
      exact hmg0
    obtain ⟨fd, hb, hF⟩ := A.facts (P := (PySem.Challenge.rw_stiffbars_k08_built_or_no_steps).prog) (w := w) KX G hmg c hxx ht0
    exact ⟨K, fd, Pl.spD K A.R_law, KX, hb, fun H a ns hl _ hS => ⟨H, [.ro ns], .bl true, Evl.Ex.refl H, .cons (.ro hS) .nil, .mk ns hl, fun v _ _ _ r => by cases r; rfl⟩, hF⟩

